import PyProof.Rows.All
import Wide.All
import OpenK.AllK
import Wide.FinOn
import Lean
import PyProof.EqAt
import PyProof.EqKinds
import PyProof.TupleCall
import PyProof.ExcBaseAll.ValueError
import PyProof.NsDelKeeps
import PyProof.NeKinds
import PyProof.Rows.SortShell
import PyProof.Rows.FStr
import PyProof.FString
import PyProof.ExcAttrAll.ValueError
import PyProof.ExcArgsOwn
import PyProof.Rows.SortRuns
import PyProof.TupleIter
import PyProof.Dict
import KE.KDictSum
import PyProof.Rows.SetFrom
import PyProof.SetRoads
import PyProof.Rows.Range3
import PyProof.WalksMore
import PyProof.TupleOfSeq
import PyProof.EnumMake
import PyProof.SliceList
import PyProof.MinMaxWalk
import PyProof.Rows.EnumRows
import PyProof.WalkInts
import PyProof.Rows.SeqCalls
import KE.KRevIter
import PyProof.CollectIter
import PyProof.TupleOfGen
import PyProof.Rows.FactsT2
import PyProof.ListRange
import PyProof.Rows.CallKwBuiltin
import PyProof.ZipIter
import PyProof.Rows.ZipGen
import PyProof.Rows.RuleM_int
import PyProof.Rows.AssignMoreSeq
import KE.KIntText
import PyProof.Rows.StrKeys3
import PyProof.StrBlock
import PyProof.StrCalls2
import PyProof.StrWalks
import PySem.Challenge.RW_guardround_k22_whole_two_hands
set_option compiler.extract_closed false
set_option bootstrap.genMatcherCode false
set_option genSizeOf false
set_option Elab.async false
set_option linter.all false
set_option maxRecDepth 100000
set_option maxHeartbeats 8000000
abbrev ZLi:=List Int
abbrev ZPi:=Int×Int
theorem qX{c:Prop}{h:Decidable c}(hc:c){α:Sort u}{t e:α}:ite c t e=t:=if_pos hc
theorem qY{c:Prop}{h:Decidable c}(hc:Not c){α:Sort u}{t e:α}:ite c t e=e:=if_neg hc
theorem wX{p:Prop}[i:Decidable p](h:p):decide p=true:=decide_eq_true h
theorem wY{p:Prop}[i:Decidable p](h:Not p):decide p=false:=decide_eq_false h
theorem zX{a b:Prop}(h:a)(n:Not a):b:=absurd h n
noncomputable section
open Array renaming getD_eq_getD_getElem?->FZ,getElem?_eq_getElem->UL,getElem?_toList->YC,length_toList->Bq,mem_extract_iff_getElem->RK,mem_of_getElem?->Da,mem_toList_iff->Bk,perm_iff_toList_perm->GH,toList->mY,toList_append->BQ,toList_map->LH,toList_modify->Zg,toList_push->Kg,toList_reverse->GF,toList_setIfInBounds->Tf
open Array.Perm renaming refl->Pi
open Bool renaming and_eq_true->DJ,eq_iff_iff->ic,false_eq_true->EY,false_ne_true->AK,false_or->mX,not_false->UK,not_true->mW,or_eq_true->JH,true_and->WZ
open Classical renaming byContradiction->RJ,choose->Eu,choose_spec->FE
open Eq renaming trans->IH
open False renaming elim->Et
open ForInStep renaming yield->IT
open Int renaming emod_lt_of_pos->c7,emod_nonneg->lc,fdiv_eq_ediv_of_nonneg->VC,le_refl->uA,natCast_nonneg->KI,one_mul->t9,toNat_natCast->As,toNat_of_nonneg->BR
open List renaming Nodup->IZ,all_cons->mV,all_eq_true->MD,all_map->qe,any_cons->Ic,any_eq_false->cz,any_eq_true->Ge,any_toArray->MC,append_assoc->Bu,append_nil->CB,drop_drop->UI,drop_eq_getElem_cons->DZ,drop_of_length_le->MW,eq_nil_of_length_eq_zero->Rq,ext_getElem?->Hl,extract->Qb,filterMap_cons->Oe,filterMap_cons_none->G1,filterMap_cons_some->G0,filter_cons_of_neg->Wl,filter_cons_of_pos->Wj,find?_cons->Cb,find?_eq_none->Jw,find?_isSome->cy,find?_some->iY,flatMap_append->bB,flatMap_cons->Kl,foldl_append->Hk,foldl_nil->UH,forIn_cons->iX,forIn_nil->UG,getD_eq_getElem?_getD->Bx,getElem?_append_left->Av,getElem?_append_right->Bn,getElem?_drop->Jv,getElem?_eq_getElem->AU,getElem?_eq_none->CI,getElem?_eq_none_iff->Cz,getElem?_eq_some_iff->AE,getElem?_inj->cx,getElem?_map->Ak,getElem?_range->E3,getElem?_replicate->Dz,getElem?_set->DU,getElem?_set_ne->Ah,getElem?_set_self->At,getElem?_take_of_lt->WX,getElem?_zipIdx->Im,getElem_inj->RI,getElem_mem->Ct,getElem_of_mem->C2,getElem_zip->MB,length->Il,length_append->AX,length_cons->BB,length_drop->IY,length_filter_le->Ce,length_map->AF,length_nil->Me,length_pos_iff->EB,length_range->cw,length_replicate->NT,length_reverse->bA,length_set->D5,length_singleton->Au,length_take->Di,length_zip->Md,lookup->Ik,lookup_cons->Bf,map->Qa,mapM_toArray->cv,map_append->Ca,map_congr_left->E2,map_cons->BG,map_id->Rp,map_id'->qd,map_map->BP,map_nil->QZ,map_reverse->iE,map_take->mU,mem_append->A9,mem_append_left->BM,mem_append_right->BY,mem_cons->Ap,mem_cons_of_mem->AY,mem_cons_self->Af,mem_filter->An,mem_filterMap->cm,mem_flatMap->iD,mem_iff_getElem->Zc,mem_map->BO,mem_map_of_mem->az,mem_of_find?_eq_some->U6,mem_of_getElem?->BL,mem_range->Nv,mem_reverse->iC,mem_singleton->Aa,mem_singleton_self->Wi,mergeSort_perm->ay,nil_append->iW,nodup_append->Fg,nodup_cons->Bt,nodup_nil->EX,not_mem_nil->MA,of_mem_zip->Mc,pairwise_append->BU,pairwise_cons->Ju,pairwise_iff_getElem->U2,pairwise_map->Cf,pairwise_mergeSort->Wh,pairwise_reverse->NS,pairwise_singleton->Wg,perm_append_comm->YL,range->D4,range_succ->Mb,replicate->Bw,reverse_cons->cu,set_set->qc,singleton_append->FY,size_toArray->Aj,take_add_one->Ff,take_append_drop->IS,take_length->L9,take_of_length_le->Cr,take_sublist->cr,take_zero->lb,zipIdx_nil->iV,zip_append->iU,zip_cons_cons->Ph,zip_nil_right->cj
open List.Pairwise renaming and->UJ,nil->qq
open List.Perm renaming append_left->LF,append_right->Td,of_eq->Zd
open List.Sublist renaming filter->t8
open Nat renaming add_le_add_left->B1,add_zero->qp,and_div_two->Tb,and_mod_two_pow->Oi,le_of_eq->qo,le_of_lt->Ma,le_of_not_lt->Ro,le_of_succ_le->Qu,le_refl->AL,le_succ->OC,le_trans->Aw,lt_irrefl->EN,lt_of_le_of_lt->Ax,lt_of_lt_of_le->AV,lt_of_not_le->iT,lt_succ_of_lt->Qt,lt_succ_self->Dj,lt_trans->qm,min_eq_left->lZ,min_le_right->iS,mod_two_eq_zero_or_one->KH,ne_of_gt->FL,ne_of_lt->BN,not_lt->Ib,not_lt_zero->NR,pow_le_pow_right->Ir,pow_succ->Qs,strongRecOn->lY,succ_ne_self->iR,testBit->t7,testBit_and->TZ,testBit_lt_two_pow->YK,testBit_or->U0,testBit_succ->Gg,testBit_two_pow->Jr,testBit_zero->Gf,two_pow_pos->lX,zero_add->Ht,zero_le->Dv,zero_testBit->iQ
open Nat.succ renaming inj->K6
open Ne renaming symm->Ci
open Option renaming bind_some->AB,getD_some->QY,isSome_iff_exists->CZ,isSome_map->Hg,isSome_some->Od,map->qW,map_eq_some_iff->He
open Option.some renaming inj->By
open Or renaming inl->NQ,inr->L8
open Prod renaming ext->UF
open Prod.mk renaming inj->Wf
open PyProof.Rows renaming AllBare->Km,IntsAre->G9,IsTup->iZ,Keyed->BV,SortKind->Po,SortSt->Bd,Subscript_->YJ,args_tuple_getitem->mS,arrOf->AW,boot_int->t6,boot_list->t5,boot_max->t4,boot_min->tz,boot_sorted->tw,boot_sum->tu,boot_tuple->tt,bubble->mR,callWith_builtin1->tq,callWith_type1->Dq,elem'_eq->iO,entry_tuple_getitem->lV,envOfC->N9,failedOf->Js,firstOfTuple'->au,general'->YF,listUpdate_at->aq,ltAt'->qQ,mirror->LC,mirror_perm->WU,pairsOf->MU,pendingOf->AZ,reverseSlice'->RH,reverseSlice'_eq->Ni,seqEpoch_at->iN,seqObj->KD,slot_tuple_getitem->Cd,sortedHeap->mM,subscriptTail->RG,subscriptTail_builtinR->cp,tuples'->qL,wpS_bind->AQ,wpS_forRange->Cc,wpS_get->Ia,wpS_modify->EF,wpS_mono->D6,wpS_pure->AR
open PyProof.Rows.IsTup renaming new->c6
open PyProof.Rows.SortSt renaming mk'->IF
open PySem renaming Addr->Ab,Around->Cj,BindsTo->YB,DictEntry->Qd,FuncData->LG,Heap->DT,IsEnum->U9,IsPart->Pr,Keyword->X8,NameKind->Pp,Paired->Gx,PassesOwn->Uz,Program->Bs,Scope->TY,Shared->AS,Stmt->DS,Value->AJ,Within->We,World->CV,again->qR,assign->Rj,assignEach->Fd,atKey->YI,attributeBase->GU,backTo->E6,backToKw->YH,behindInMarks->Cy,binaryOp->DR,bindArgs->iP,bindC->cg,bindL->cf,bootBuiltins->G7,builtinsNs->YG,cLine->FX,call->aw,callerA->TX,cellsFrom->CY,codeAny->OA,codeAny_mono->TW,compareOp->Ch,concat_meets->cq,eval->Co,firstArgMember->Pn,foldedSetIterable->Gb,getItem->Ki,getMethod->cc,holding->X5,isTrue->mP,keywordEach->Pm,letOwnedTupleGo->Oc,mainGlobals->Bc,mem_of_lookup->D7,model->Ad,newFunctionEnv->YE,noFill_tuple_add->Uv,preSum->Ri,pushCells->FJ,pushCells_keeps->Wc,pyIter->mO,pyNext->Uu,rawInt->Pl,relabel->Kh,seqIndex_of->iM,seq_tuple_add->ap,setItem->qO,sizeLine_eq->iL,sliceBounds->iK,slot_list_getitem->qN,standAt->qM,starEach->Ag,storeName->qj,subscripted->WT,swapsWith->G6,sysModules->EG,tupleKind->Ut,tupleKind_room_in1->LB,valueAt->TU,wpAny->Aq,wpAny_Call_Name_kw->LA,wpAny_Dict_empty->qi,wpAny_Name->mL,wpAny_assign_Name->qK,wpAny_attempt->RF,wpAny_bind->AC,wpAny_callSpecial?_slot->DQ,wpAny_call_entry->Du,wpAny_comprehension_free->ao,wpAny_dictEntries->TR,wpAny_dictEpoch->Wb,wpAny_eqBool_int->qh,wpAny_execs_cons->qg,wpAny_execs_nil->Oa,wpAny_field->IE,wpAny_fieldsOf->Pk,wpAny_holding->MY,wpAny_isInstance->qf,wpAny_isOneOf_keyiter->Of,wpAny_isTrue_Compare1->iA,wpAny_loadName_cell->lU,wpAny_loadName_local->iJ,wpAny_loadPart'->OZ,wpAny_mono->Hr,wpAny_newObj_type->DG,wpAny_passesOwn->GD,wpAny_pure->AO,wpAny_pyIter_enum->MR,wpAny_pyIter_keyiter->iI,wpAny_pyIter_revIter->iH,wpAny_pyIter_tuple->K9,wpAny_rule->YD,wpAny_sequenceKey->qJ,wpAny_setField->Pj,wpAny_truthy_bool->EE,wpAny_typeNameOfWhole_keyiter->FW,wpAny_typeNameOf_keyiter->Hh,wpAny_typeOf->TQ
open PySem.Around renaming under->Wa
open PySem.Builtin renaming bitAnd->Bh,bitNot->c8,bitOr->Cn,bitXor->Ew
open PySem.Builtin.Dict renaming dictSlotNone->uC,showsAll->Rr
open PySem.Builtin.Dict_items renaming ownsTuple->MX
open PySem.Builtin.Int renaming intBits->Dp
open PySem.Builtin.List renaming listItems->Jx,listTooLong->JG
open PySem.Builtin.Range renaming rangeSize->qw
open PySem.Builtin.Slice renaming sliceAdjust->Ie,sliceApplied->Ol,sliceFields->qv,slicePartIndex->qu,slicePlaces->FT
open PySem.Builtin.SmallTypes renaming nextOf->E7
open PySem.Builtin.Tuple renaming tupleExact->Fh,tupleIsExact->qt,tupleItemsOf->Oj
open PySem.Calls renaming Name_function_global->Te,callWith_builtin->Wm
open PySem.Challenge renaming pw_guardround_k22_whole_two_hands->mT,rw_guardround_k22_whole_two_hands->IG
open PySem.Code renaming frames->qr,isFrame->YA
open PySem.Data renaming cell->iF,fields->Zf
open PySem.F renaming args_dict_keyiterator_next_1->Nk,args_tuple_add_2->KF,args_tuple_iterator_next_1->VD,entry_dict_keyiterator_next->Nu,entry_tuple_add->Kk,entry_tuple_iterator_next->WY,plainAttrs_list->UE,slot_dict_iter->Uy,slot_dict_keyiterator_next->DD,slot_enumerate_next->cn,slot_tuple_add->LD,slot_tuple_iterator_next->Gh
open PySem.Heap renaming ExtBut->Ze,SameBut->FI,get?_push_of_some->AT,get?_push_size->Ao,get?_update_ne->bC,get?_update_other->X9,get?_update_self->NU,lt_size->Am,size_push->E4
open PySem.Heap.IsSliceOf renaming new->TN
open PySem.Heap.SameBut renaming refl->uB,update->Hu
open PySem.NameKind renaming cell->DK,free->Gc
open PySem.Obj renaming cls_mapFields->iB,data_mapFields->KG,isFreed_of_fields->Zb,mapFields->qZ,mapSeq->GY
open PySem.Paired renaming length->FK,snoc->X7
open PySem.SeqAt.RcAt renaming tuples->qk
open PySem.Str renaming ofString->Hs
open PySem.Value renaming bool->av,bytes->qV,float->qU,int->WW,isInt->qT,isStrOf->lW,none->EV,ref->Bb,str->WV,type->G8
open PySem.W renaming Frag->AG,callWith_K->OB,cellsFrom_some->Ux,codeIn->Rn,emptyDict->DM,findIn->EI,fnOf->Iq,handedIn->ax,hasDictIn->Oh,instObj->Eh,isFn->Uw,kdu_collect->X6,keepIn->Fe,lookIn->MZ,makesIn->ci,methodObj->Og,mg_none_of->Fb,mg_of->qP,nsIn->TV,plainGet->Kj,plainGet_of->Nj,plainOver->Za,takerIn->Qr
open PySem.W.Looks renaming here->ql
open PySem.W.WData renaming int->tj
open PySem.W.WShape renaming has->qS
open PySem.Within renaming cons->tp
open Sum renaming inl->Dd,inr->Qq
open True renaming intro->MV
namespace L2
open PySem PySem.Spec PyProof.Rows
abbrev Key:=Sum Int Str
def Ua:Key->AJ->Bool
 | .inl k,v=>qT k v
 | .inr x,v=>lW x v
def keyH(w:CV):Key->Int
 | .inl k=>hashInt k
 | .inr x=>hashStr w x
theorem Do:∀{k:Key} {v:AJ},Ua k v=true->(∃i t,k=Dd i/\v=WW i t)∨(∃x t,k=Qq x/\v=WV x t)
 | .inl i,v,h=>by
  obtain⟨t,e⟩:=AJ.isInt_shape (k:=i) (v:=v) h;exact .inl ⟨i,t,rfl,e⟩
 | .inr x,v,h=>by
  obtain⟨t,e⟩:=AJ.isStrOf_shape (x:=x) (v:=v) h;exact .inr ⟨x,t,rfl,e⟩
theorem b9(i:Int)(t:Tok):Ua (.inl i) (.int i t)=true:=by simp[Ua,qT]
theorem bz(x:Str)(t:Tok):Ua (.inr x) (.str x t)=true:=by simp[Ua,lW]
theorem pF(a b:Int):decide ((Dd a:Key)=Dd b)=(a==b):=by
 by_cases e:a=b
 ·subst e;simp
 ·have h:¬(Dd a:Key)=Dd b:=λq=>e (Dd.inj q)
  rw[wY h];exact(beq_eq_false_iff_ne.mpr e).symm
theorem pC(a b:Str):decide ((Qq a:Key)=Qq b)=decide (a=b):=by
 by_cases e:a=b
 ·subst e;simp
 ·have h:¬(Qq a:Key)=Qq b:=λq=>e (Qq.inj q)
  rw[wY h,wY e]
theorem pE(a:Int)(b:Str):decide ((Dd a:Key)=Qq b)=false:=wY (λq=>nomatch q)
theorem pD(a:Str)(b:Int):decide ((Qq a:Key)=Dd b)=false:=wY (λq=>nomatch q)
def Ev(prog:Bs)(w:CV):PySem.KeyKind prog w Key where
 is:=Ua
 hash:=keyH w
 inj:=λv a b ha hb=>by
  rcases Do ha with⟨i,t,rfl,rfl⟩ | ⟨x,t,rfl,rfl⟩
  ·rcases Do hb with⟨j,u,rfl,e⟩ | ⟨y,u,rfl,e⟩
   ·injection e with e1 _;rw[e1]
   ·exact nomatch e
  ·rcases Do hb with⟨j,u,rfl,e⟩ | ⟨y,u,rfl,e⟩
   ·exact nomatch e
   ·injection e with e1 _;rw[e1]
 byValue:=λk v h=>by
  rcases Do h with⟨i,t,rfl,rfl⟩ | ⟨x,t,rfl,rfl⟩ <;> rfl
 pyHash:=λhv h=>by
  rcases Do hv with⟨i,t,rfl,rfl⟩ | ⟨x,t,rfl,rfl⟩
  ·exact wpAny_pyHash_int h
  ·exact wpAny_pyHash_str h
 eqBool:=λhu hv h=>by
  rcases Do hu with⟨i,t,rfl,rfl⟩ | ⟨x,t,rfl,rfl⟩
  ·rcases Do hv with⟨j,u,rfl,rfl⟩ | ⟨y,u,rfl,rfl⟩
   ·rw[pF]at h;exact qh h
   ·rw[pE]at h;exact SeqAt.EqAt.int_str i t y u _ _ _ _ h
  ·rcases Do hv with⟨j,u,rfl,rfl⟩ | ⟨y,u,rfl,rfl⟩
   ·rw[pD]at h;exact SeqAt.EqAt.str_int x t j u _ _ _ _ h
   ·rw[pC]at h;exact wpAny_eqBool_str h
 «strs»:=λk x t v h=>by
  rcases Do h with⟨i,u,rfl,e⟩ | ⟨y,u,rfl,e⟩
  ·exact nomatch e
  ·injection e with e1 _
   subst e1
   cases v <;> rfl
theorem Xe(prog:Bs)(w:CV)(i:Int)(t:Tok):(Ev prog w).is (.inl i) (.int i t)=true:=b9 i t
theorem Xd(prog:Bs)(w:CV)(x:Str)(t:Tok):(Ev prog w).is (.inr x) (.str x t)=true:=bz x t
inductive V where
 | non | bl (b:Bool) | int (i:Int) | str (x:Str) | byt (b:Array UInt8) | flt (b:UInt64) | ref (a:Ab) | ty (n:String)
 deriving DecidableEq
def RelV:V->AJ->Prop
 | .non,u=>u=EV
 | .bl b,u=>u=av b
 | .int i,u=>∃t,u=WW i t
 | .str x,u=>∃t,u=WV x t
 | .byt b,u=>∃t,u=qV b t
 | .flt b,u=>∃t,u=qU b t
 | .ref a,u=>u=Bb a
 | .ty n,u=>u=G8 n
abbrev B0:List V->List AJ->Prop:=Gx RelV
theorem B0.length(r:B0 xs us):xs.length=us.length:=FK r
theorem B0.get:∀{xs:List V} {us:List AJ} {i:Nat} {x:V},B0 xs us->xs[i]?=some x->∃u,us[i]?=some u/\RelV x u
 | _,_,_,_,.nil,e=>by simp at e
 | _,_,0,_,.cons r _,e=>by simp at e;subst e;exact⟨_,rfl,r⟩
 | _,_,i+1,x,.cons _ t,e=>by
  obtain⟨u,h1,h2⟩:=B0.get (i:=i) (x:=x) t (by simpa using e);exact⟨u,by simpa using h1,h2⟩
theorem B0.set(r:RelV x u):∀{xs:List V} {us:List AJ} (i:Nat),B0 xs us->B0 (xs.set i x) (us.set i u)
 | _,_,_,.nil=>.nil
 | _,_,0,.cons _ t=>.cons r t
 | _,_,i+1,.cons q t=>.cons q (B0.set r i t)
theorem B0.append:∀{xs ys:List V} {us ws:List AJ},B0 xs us->B0 ys ws->B0 (xs++ys) (us++ws)
 | _,_,_,_,.nil,s=>s
 | _,_,_,_,.cons r t,s=>.cons r (B0.append t s)
theorem B0.take:∀{xs:List V} {us:List AJ} (n:Nat),B0 xs us->B0 (xs.take n) (us.take n)
 | _,_,0,_=>.nil
 | _,_,_+1,.nil=>.nil
 | _,_,n+1,.cons r t=>.cons r (B0.take n t)
theorem B0.drop:∀{xs:List V} {us:List AJ} (n:Nat),B0 xs us->B0 (xs.drop n) (us.drop n)
 | _,_,0,r=>r
 | _,_,_+1,.nil=>.nil
 | _,_,n+1,.cons _ t=>B0.drop n t
def Nt:Option V->Option AJ->Prop
 | some v,some u=>RelV v u
 | none,none=>True
 | _,_=>False
def KV{κ:Type}:List (κ×V)->List (κ×AJ)->Prop:=Gx λ(p:κ×V) (q:κ×AJ)=>p.1=q.1/\RelV p.2 q.2
def kV:Key->V
 | .inl i=>.int i
 | .inr x=>.str x
inductive HO where
 | lst (xs:List V)
 | tup (xs:List V)
 | dK (f':List (Key×V)) | dT (f':List (List Key×V))
 | set (S:Int->Bool) (n:Nat)
 | ins (C dx:Ab) (fs:List (Str×V))
 | own (x:Ab)
 | xd (fs:List (Str×V))
 | met (f x:Ab)
 | rng (lo hi:Int)
 | frz (o:Obj) (u:HO)
 | tbl (ps:Array AJ)
 | ext (φ:DT->Prop)
abbrev Hp:=Ab->Option HO
def upd(H:Hp)(a:Ab)(o:HO):Hp:=λb=>if b=a then some o else H b
theorem CJ:upd H a o a=some o:=by unfold upd;rw[qX rfl]
theorem Bo(h:b≠a):upd H a o b=H b:=by unfold upd;rw[qY h]
theorem sY{H:Hp}{a b:Ab}{o u:HO}(h:H a=some o)(h':H b=some u)(d:o≠u):a≠b:=by
 intro e;subst e;rw[h]at h';exact d (By h')
theorem Cw{H:Hp}{a b:Ab}{o:HO}(h:H a=some o)(h':H b=none):a≠b:=by
 intro e;subst e;rw[h]at h';cases h'
section
variable(P:Bs)(w:CV)
def Df(H:Hp)(h:DT)(a:Ab):HO->Prop
 | .lst xs=>xs.length<=sizeLine/\∃(i':List AJ) (n:Nat),B0 xs i'/\h.get? a=some { cls:=.type "list",data:=.seq i'.toArray n }
 | .tup xs=>(xs.length<=sizeLine/\∃o,h.get? a=some o/\o.dict=none)/\∃i':List AJ,B0 xs i'/\iZ h a i'.toArray
 | .dK f'=>f'.length<=sizeLine/\(a==EG)=false/\∃vs,KV f' vs/\h.DictOf (Ev P w) a vs
 | .dT f'=>f'.length<=sizeLine/\(a==EG)=false/\∃xs:List (List Key×Ab×AJ),
   Gx (λ(p:List Key×V) (q:List Key×Ab×AJ)=>p.1=q.1/\H q.2.1=some (.tup (p.1.map kV))/\RelV p.2 q.2.2) f' xs /\
   ∃o es ep,h.get? a=some o/\o.ExactDict/\o.data=.dict es ep/\es.toList=xs.map (entryOfKey (Ut (Ev P w)))/\(xs.map (·.1)).Nodup
 | .set S n=>h.SetOf (intKind P w) a S n
 | .ins C dx fs=>H dx=some (.own a)/\fs.length<=1000/\dx≠a/\h.get? a=some (Eh C dx) /\
   ∃mA,h.Ns1 dx mA/\(∀f,Nt (fs.lookup f) (mA f))/\We mA (fs.map (·.1))
 | .own _=>∃o,h.get? a=some o
 | .xd fs=>∃mA,h.Ns1 a mA/\∀f,Nt (fs.lookup f) (mA f)
 | .rng lo hi=>∃t u v,h.get? a=some { cls:=.type "range",data:=.fields #[.int lo t,.int hi u,.int 1 v] }
 | .frz o u=>h.get? a=some o/\Df H h a u
 | .tbl ps=>h.get? a=some { cls:=.none,data:=.fields ps }
 | .met f x=>h.get? a=some (Og (.ref f) (.ref x))
 | .ext φ=>φ h/\(∃o,h.get? a=some o)/\∀h1 h2:DT,φ h1->(∀o,h1.get? a=some o->h2.get? a=some o)->φ h2
def HOk(H:Hp)(h:DT):Prop:=∀a o,H a=some o->Df P w H h a o
end
section
variable{P:Bs}{w:CV}{H H':Hp}{h h':DT}{a:Ab}{o:HO}
theorem Df.lt(x:Df P w H h a o):a < h.objs.size:=by
 cases o with
 | lst xs=>obtain⟨_,_,_,_,e⟩:=x;exact Am e
 | tup xs=>obtain⟨_,_,_,p⟩:=x;exact p.lt
 | dK f'=>obtain⟨_,_,_,_,o,_,_,e,_⟩:=x;exact Am e
 | dT f'=>obtain⟨_,_,_,_,o,_,_,e,_⟩:=x;exact Am e
 | set S n=>obtain⟨o,_,_,_,e,_⟩:=x;exact Am e
 | ins C dx fs=>obtain⟨_,_,_,e,_⟩:=x;exact Am e
 | own y=>obtain⟨_,e⟩:=x;exact Am e
 | xd fs=>obtain⟨_,⟨_,_,_,e,_⟩,_⟩:=x;exact Am e
 | rng lo hi=>obtain⟨_,_,_,e⟩:=x;exact Am e
 | frz ob u=>obtain⟨e,_⟩:=x;exact Am e
 | tbl ps=>exact Am (show h.get? a=some _ from x)
 | met f y=>exact Am (show h.get? a=some _ from x)
 | ext φ=>obtain⟨_,⟨_,e⟩,_⟩:=x;exact Am e
theorem Gx.mapP{α β:Type}{F G:α->β->Prop}:∀{l₁:List α} {l₂:List β},Gx F l₁ l₂->(∀a b,F a b->G a b)->Gx G l₁ l₂
 | _,_,.nil,_=>.nil
 | _,_,.cons r t,f=>.cons (f _ _ r) (Gx.mapP t f)
theorem Df.stay(x:Df P w H h a o)(k:∀b u,(b=a∨H b=some (.own a))->h.get? b=some u->h'.get? b=some u)
  (ho:∀b,H b=some (.own a)->H' b=some (.own a)) (ht:∀b xs,H b=some (.tup xs)->H' b=some (.tup xs)):Df P w H' h' a o:=by
 induction o with
 | lst xs=>obtain⟨z,i',n,r,e⟩:=x;exact⟨z,i',n,r,k _ _ (.inl rfl) e⟩
 | tup xs=>obtain⟨⟨z,o2,e2,c2⟩,i',r,ob,e,c⟩:=x;exact⟨⟨z,o2,k _ _ (.inl rfl) e2,c2⟩,i',r,ob,k _ _ (.inl rfl) e,c⟩
 | dK f'=>obtain⟨z,y,vs,r,ob,es,ep,e,c⟩:=x;exact⟨z,y,vs,r,ob,es,ep,k _ _ (.inl rfl) e,c⟩
 | dT f'=>
  obtain⟨z,y,xs,r,ob,es,ep,e,c⟩:=x;exact⟨z,y,xs,Gx.mapP r λp q z=>⟨z.1,ht _ _ z.2.1,z.2.2⟩,ob,es,ep,k _ _ (.inl rfl) e,c⟩
 | set S n=>obtain⟨ob,es,ep,t,e,c⟩:=x;exact⟨ob,es,ep,t,k _ _ (.inl rfl) e,c⟩
 | ins C dx fs=>
  obtain⟨d,z,ne,e,mA,⟨od,es,ep,e2,c⟩,r⟩:=x;exact⟨ho _ d,z,ne,k _ _ (.inl rfl) e,mA,⟨od,es,ep,k _ _ (.inr d) e2,c⟩,r⟩
 | own y=>obtain⟨ob,e⟩:=x;exact⟨ob,k _ _ (.inl rfl) e⟩
 | xd fs=>obtain⟨mA,⟨od,es,ep,e,c⟩,r⟩:=x;exact⟨mA,⟨od,es,ep,k _ _ (.inl rfl) e,c⟩,r⟩
 | rng lo hi=>obtain⟨t,u,v,e⟩:=x;exact⟨t,u,v,k _ _ (.inl rfl) e⟩
 | frz ob u ih=>obtain⟨e,q⟩:=x;exact⟨k _ _ (.inl rfl) e,ih q⟩
 | tbl ps=>
  have e:h.get? a=some { cls:=.none,data:=.fields ps }:=x;show h'.get? a=some { cls:=.none,data:=.fields ps };exact k a _ (.inl rfl) e
 | met f y=>
  have e:h.get? a=some (Og (.ref f) (.ref y)):=x;show h'.get? a=some (Og (.ref f) (.ref y));exact k a _ (.inl rfl) e
 | ext φ=>obtain⟨p,⟨o,e⟩,st⟩:=x;exact⟨st _ _ p λo q=>k _ _ (.inl rfl) q,⟨o,k _ _ (.inl rfl) e⟩,st⟩
theorem HOk.lt(x:HOk P w H h)(e:H a=some o):a < h.objs.size:=(x a o e).lt
theorem HOk.fresh(x:HOk P w H h)(e:h.objs.size<=a):H a=none:=by
 cases q:H a with
 | none=>rfl
 | some u=>exact zX (AV (x.lt q) e) (EN _)
theorem HOk.kept(x:HOk P w H h)(k:∀b u,h.get? b=some u->h'.get? b=some u):HOk P w H h':=λa o e=>
 (x a o e).stay (λb u _ q=>k b u q) (λ_ q=>q) λ_ _ q=>q
theorem HOk.laid(x:HOk P w H h)(k:∀b u,h.get? b=some u->h'.get? b=some u)(hp:h.objs.size<=a)(new:Df P w (upd H a o) h' a o):HOk P w (upd H a o) h':=λb u e=>by
 have hn:=x.fresh hp
 by_cases hb:b=a
 ·subst hb;rw[CJ]at e;cases e;exact new
 ·rw[Bo hb]at e
  exact(x b u e).stay (λc v _ q=>k c v q) (λc q=>by rw[Bo (Cw q hn)];exact q) λc xs q=>by rw[Bo (Cw q hn)];exact q
end
def Rd(H:Hp)(a:Ab)(u:HO):Prop:=H a=some u∨∃o,H a=some (.frz o u)
theorem Rd.ok(r:Rd H a u)(x:HOk P w H h):Df P w H h a u:=by
 rcases r with r | ⟨o,r⟩
 ·exact x a u r
 ·obtain⟨_,q⟩:=x a _ r
  exact q
def Mut:Option HO->Prop
 | some (.lst _)=>True
 | some (.dK _)=>True
 | some (.dT _)=>True
 | some (.set _ _)=>True
 | some (.ins _ _ _)=>True
 | some (.ext _)=>True
 | _=>False
section
variable{P:Bs}{w:CV}{H:Hp}{h h':DT}{x e:Ab}
theorem HOk.write(ok:HOk P w H h)(mu:Mut (H x))(he:e=x∨H e=some (.own x))(k:∀b u,b≠e->h.get? b=some u->h'.get? b=some u)(yc:∃u,h'.get? e=some u)
  (new:Df P w (upd H x o') h' x o'):HOk P w (upd H x o') h':=λb u q=>by
 have yp:∀c y,H c=some (.own y)->c≠x:=λc y r z=>by subst z;rw[r]at mu;exact mu
 have B':∀c xs,H c=some (.tup xs)->c≠x:=λc xs r z=>by subst z;rw[r]at mu;exact mu
 by_cases hb:b=x
 ·subst hb;rw[CJ]at q;cases q;exact new
 ·rw[Bo hb]at q
  by_cases hbe:b=e
  ·have q':H b=some (.own x):=by
    rcases he with z | z
    ·exact zX (hbe.trans z) hb
    ·rw[hbe];exact z
   rw[q]at q';cases q';obtain⟨v,hv⟩:=yc;exact⟨v,by rw[hbe];exact hv⟩
  ·refine(ok b u q).stay (λc v hc r=>k c v ?_ r) (λc r=>by rw[Bo (yp c b r)];exact r) λc xs r=>by rw[Bo (B' c xs r)];exact r
   rcases hc with rfl | hc
   ·exact hbe
   ·rintro rfl
    rcases he with z | z
    ·exact yp c b hc z
    ·rw[hc]at z;cases z;exact hb rfl
end
structure Un(fs ex:List Ab)(H H':Hp)(h h':DT):Prop where
 keep:∀b o,h.get? b=some o->H b=none->b∉fs->b∉ex->h'.get? b=some o
 slot:∀b o,h.get? b=some o->H b=none->b∈fs->b∉ex->∃sl,h'.get? b=some { o with slots:=sl }
 free:∀b o,h.get? b=some o->H b=none->b∉ex->H' b=none
 there:∀b o,h.get? b=some o->b∉ex->∃o',h'.get? b=some o'
 tups:∀b xs,H b=some (.tup xs)->H' b=some (.tup xs)
 frzs:∀b o u,H b=some (.frz o u)->H' b=some (.frz o u)
 tbls:∀b ps,H b=some (.tbl ps)->∃more,H' b=some (.tbl (ps++more))
section
variable{fs ex:List Ab}{H H1:Hp}{h h1 h':DT}{a x e:Ab}{o:HO}
theorem Un.any(u:Un fs ex H H1 h h1)(q:h.get? b=some ob)(n:H b=none)(hx:b∉ex):∃sl,h1.get? b=some { ob with slots:=sl }:=by
 by_cases hb:b∈fs
 ·exact u.slot b ob q n hb hx
 ·exact⟨ob.slots,u.keep b ob q n hb hx⟩
theorem Un.kept(k:∀b u,h.get? b=some u->h'.get? b=some u):Un fs ex H H h h':=
 ⟨λb ob q _ _ _=>k b ob q,λb ob q _ _ _=>⟨ob.slots,k b ob q⟩,λ_ _ _ n _=>n,λb ob q _=>⟨ob,k b ob q⟩,λ_ _ q=>q,λ_ _ _ q=>q,λ_ ps q=>⟨#[],by rw[q];simp⟩⟩
theorem Un.refl:Un fs ex H H h h:=Un.kept λ_ _ q=>q
theorem Un.laid(k:∀b u,h.get? b=some u->h'.get? b=some u)(hp:h.objs.size<=a)(hn:H a=none):Un fs ex H (upd H a o) h h' where
 keep:=λb u q _ _ _=>k b u q
 slot:=λb u q _ _ _=>⟨u.slots,k b u q⟩
 free:=λb u q n _=>by rw[Bo (BN (AV (Am q) hp))];exact n
 there:=λb u q _=>⟨u,k b u q⟩
 tups:=λb xs q=>by rw[Bo (Cw q hn)];exact q
 frzs:=λb u xs q=>by rw[Bo (Cw q hn)];exact q
 tbls:=λb ps q=>⟨#[],by rw[Bo (Cw q hn),q];simp⟩
theorem Un.write(mu:Mut (H x))(he:e=x∨H e=some (.own x))(k:∀b u,b≠e->h.get? b=some u->h'.get? b=some u)(yc:∃u,h'.get? e=some u):Un fs ex H (upd H x o) h h':=by
 have hx:∀b,H b=none->b≠x:=λb n z=>by subst z;rw[n]at mu;exact mu
 have hb:∀b,H b=none->b≠e:=λb n z=>by
  subst z
  rcases he with r | r
  ·exact hx b n r
  ·rw[n]at r;cases r
 have hm:∀b u,H b=some u->¬Mut (some u)->b≠x:=λb u q nm z=>by subst z;rw[q]at mu;exact nm mu
 refine⟨λb u q n _ _=>k b u (hb b n) q,λb u q n _ _=>⟨u.slots,k b u (hb b n) q⟩,λb u q n _=>by rw[Bo (hx b n)];exact n,λb u q _=>?_,
  λb xs q=>by rw[Bo (hm b _ q λz=>z)];exact q,λb u xs q=>by rw[Bo (hm b _ q λz=>z)];exact q,λb ps q=>⟨#[],by rw[Bo (hm b _ q λz=>z),q];simp⟩⟩
 by_cases hbe:b=e
 ·subst hbe;exact yc
 ·exact⟨u,k b u hbe q⟩
end
def trk(h:DT)(H:Hp):List Ab:=(D4 h.objs.size).filter λa=>(H a).isSome
def V5(h:DT)(H:Hp):DT:=PySem.W.hideAll h (trk h H)
theorem cD(h:DT)(H:Hp):(V5 h H).objs.size=h.objs.size:=PySem.W.hideAll_size _ _
theorem gC(e:h.get? b=some o)(n:H b=none):(V5 h H).get? b=some o:=
 PySem.W.hideAll_get _ e λhm=>by
  have q:(H b).isSome=true:=(An.mp hm).2;rw[n]at q;simp at q
theorem kH(e:(V5 h H).get? b=some o):h.get? b=some o/\H b=none:=by
 have e':h.get? b=some o:=PySem.W.of_hideAll (trk h H) e;refine⟨e',?_⟩
 cases q:H b with
 | none=>rfl
 | some x=>
  have hm:b∈trk h H:=An.mpr ⟨Nv.mpr (Am e'),by simp[q]⟩;have z:(V5 h H).get? b=none:=PySem.W.hideAll_none (trk h H) hm;rw[z]at e;cases e
structure Mod(K:AG)(mg:Str->Option AJ)(base:DT):Prop where
 kin:K.In base
 glob:base.Ns Bc mg
 blt:∃mb,base.Ns YG mb/\∀x:Str,x≠"__name__"->mb x=G7 x
 nolimit:base.NoLimit
structure Cx where
 prog:Bs
 w:CV
 K:AG
 mg:Str->Option AJ
 base:DT
 A:Cj
 N:List Str
 s₀:AS
 H₀:Hp
 env:Env
 outer:List Env
 stack:List Env
 ex:List Ab
 fn:Str->Bool
 calm:Bool
 pn:List (Ab×Obj)
 xe:AJ->AS->Prop
def frs(l:List Env):List Ab:=l.filterMap (·.frame)
abbrev Cx.fs(X:Cx):List Ab:=frs X.outer
def Vis(sc:TY)(x:Str):Prop:=sc.names.lookup x=some .local∨sc.names.lookup x=some .cell∨sc.names.lookup x=some .free
def Loc(sc:TY)(x:Str):Prop:=sc.names.lookup x=some .local∨sc.names.lookup x=some .cell
def Look(env:Env)(h:DT)(m:Str->Option AJ)(x:Str)(u:AJ):Prop:=
 (env.kindOf x=some .local/\m x=some u)∨((env.kindOf x=some .cell∨env.kindOf x=some .free)/\∃c,env.cells.lookup x=some c/\h.IsCell c (some u))
structure Cx.Ok(X:Cx):Prop where
 mod:Mod X.K X.mg X.base
 kind:X.env.scope.kind=.function
 glob:X.env.globals=Bc
 blt:X.env.builtins=YG
 above:X.s₀.heap.objs.size<=X.env.locals
 inj:∀x y c,X.env.cells.lookup x=some c->X.env.cells.lookup y=some c->x=y
 has:∀x,(X.env.kindOf x=some .cell∨X.env.kindOf x=some .free)->∃c,X.env.cells.lookup x=some c
 cab:∀x c,X.fn x=true->X.env.cells.lookup x=some c->X.s₀.heap.objs.size<=c
 hd:X.calm=true->X.A.handled=none
 frames:X.A.frames=some X.stack
 stk:X.stack=X.outer∨(X.stack=X.env :: X.outer/\X.env.frame=some X.env.locals)
 exf:∀b∈X.ex,b≠X.env.locals/\∀x c,X.env.cells.lookup x=some c->c≠b
 bs:∀b o,X.base.get? b=some o->X.s₀.heap.get? b=some o/\X.H₀ b=none
 bsz:X.base.objs.size<=X.s₀.heap.objs.size
 noex:∀b o,X.base.get? b=some o->b∉X.ex
 exfs:∀b∈X.ex,b∉X.fs
 funs:X.s₀.heap.FunFrames X.base X.outer
 frf:∀b∈X.fs,X.H₀ b=none
structure Inv(X:Cx)(ζ:List (Ab×Obj))(σ:List (Option V))(H:Hp)(s:AS):Prop where
 ok:X.Ok
 os:s.os=X.s₀.os
 bare:Km s.gens
 base:Un X.fs X.ex X.H₀ H X.s₀.heap s.heap
 loc:∃m,s.heap.Ns X.env.locals m/\∀(i:Nat) (x:Str) (v:V),X.N[i]?=some x->σ[i]?=some (some v)->Vis X.env.scope x->∃u,RelV v u/\Look X.env s.heap m x u
 cell:∀x c,X.env.cells.lookup x=some c->∃v,s.heap.IsCell c v
 free:H X.env.locals=none
 freeC:∀x c,X.env.cells.lookup x=some c->H c=none
 pin:∀p∈X.pn++ζ,s.heap.get? p.1=some p.2/\H p.1=none/\p.1≠X.env.locals/\p.1∉X.fs/\∀v,p.2.data≠.cell v
 hok:HOk X.prog X.w H s.heap
 len:σ.length=X.N.length
section
variable{X:Cx}{ζ:List (Ab×Obj)}{σ:List (Option V)}{H H':Hp}{s:AS}{h':DT}
theorem Cx.Ok.nofr(ok:X.Ok)(e:X.base.get? b=some o):b∉X.fs:=λhb=>by
 have:=(ok.funs.mem hb).1;rw[e]at this;cases this
theorem Inv.bs(I:Inv X ζ σ H s):∀b o,X.base.get? b=some o->s.heap.get? b=some o/\H b=none:=λb o e=>
 ⟨I.base.keep b o (I.ok.bs b o e).1 (I.ok.bs b o e).2 (I.ok.nofr e) (I.ok.noex b o e),I.base.free b o (I.ok.bs b o e).1 (I.ok.bs b o e).2 (I.ok.noex b o e)⟩
theorem Inv.bk(I:Inv X ζ σ H s):∀b o,X.base.get? b=some o->s.heap.get? b=some o:=λb o e=>(I.bs b o e).1
theorem Inv.mod(I:Inv X ζ σ H s):Mod X.K X.mg X.base:=I.ok.mod
theorem Inv.kIn(I:Inv X ζ σ H s):X.K.In s.heap:=I.ok.mod.kin.keeps I.bk
theorem Inv.lt(I:Inv X ζ σ H s):X.env.locals < s.heap.objs.size:=let ⟨_,hn,_⟩:=I.loc;hn.lt
theorem Inv.sz(I:Inv X ζ σ H s):X.s₀.heap.objs.size<=s.heap.objs.size:=Aw I.ok.above (Ma I.lt)
theorem Inv.nofs(I:Inv X ζ σ H s)(h:s.heap.objs.size<=a):a∉X.fs:=λhb=>by
 obtain⟨_,o,ho,_⟩:=I.ok.funs.mem hb;exact zX (AV (Am ho) (Aw I.sz h)) (EN _)
theorem Inv.cne(I:Inv X ζ σ H s):∀x c,X.env.cells.lookup x=some c->c≠X.env.locals:=λx c e z=>by
 obtain⟨v,o,ho,hd⟩:=I.cell x c e;obtain⟨m,⟨o',es,ep,vS,vT,_⟩,_⟩:=I.loc;rw[z,vS]at ho;cases ho;rw[vT]at hd;cases hd
theorem Inv.funs(I:Inv X ζ σ H s):s.heap.FunFrames X.base X.outer:=by
 have all:∀(l:List Env),(∀b∈frs l,b∈X.fs)->X.s₀.heap.FunFrames X.base l->s.heap.FunFrames X.base l:=by
  intro l
  induction l with
  | nil=>intro _ _;trivial
  | cons env r ih=>
   intro hs hl;obtain⟨hk,⟨L,o,hf,hn,ho,hd⟩,hr⟩:=hl;have hL:L∈X.fs:=hs L (by unfold frs;rw[Oe,hf];exact Af)
   obtain⟨sl,e⟩:=I.base.slot L o ho (I.ok.frf L hL) hL λz=>I.ok.exfs L z hL
   exact⟨hk,⟨L,_,hf,hn,e,hd⟩,ih (λb hb=>hs b (by unfold frs;rw[Oe,hf];exact AY _ hb)) hr⟩
 exact all X.outer (λ_ hb=>hb) I.ok.funs
theorem Inv.stack(I:Inv X ζ σ H s):s.heap.FunFrames X.base X.stack:=by
 rcases I.ok.stk with e | ⟨e,hf⟩
 ·rw[e];exact I.funs
 ·rw[e]
  obtain⟨m,hn,_⟩:=I.loc;refine .cons (by rw[I.ok.kind];decide) hf hn ?_ I.funs;exact DT.get?_none_of_le (Aw I.ok.bsz I.ok.above)
theorem Inv.stkSub(I:Inv X ζ σ H s):∀b∈frs X.stack,b∈X.env.locals :: X.fs:=λb hb=>by
 rcases I.ok.stk with e | ⟨e,hf⟩
 ·rw[e]at hb;exact AY _ hb
 ·rw[e]at hb
  unfold frs at hb;rw[Oe,hf]at hb;exact hb
theorem Inv.stkFree(I:Inv X ζ σ H s):∀b∈frs X.stack,H b=none:=λb hb=>by
 rcases Ap.mp (I.stkSub b hb)with e | hb
 ·rw[e];exact I.free
 ·obtain⟨_,o,ho,_⟩:=I.ok.funs.mem hb
  exact I.base.free b o ho (I.ok.frf b hb) λz=>I.ok.exfs b z hb
theorem Inv.step{g':Array GenState}{t':Nat}{d':Drawn}{ch:List Ab}(I:Inv X ζ σ H s)
  (vN:∀b∈ch,(b∈X.ex∨X.s₀.heap.objs.size<=b)/\b≠X.env.locals/\(∀x c,X.env.cells.lookup x=some c->c≠b)/\∀p∈X.pn++ζ,p.1≠b)
  (keep:∀b o,b≠X.env.locals->b∉X.fs->b∉ch->s.heap.get? b=some o->H b=none->h'.get? b=some o)
  (slot:∀b o,b≠X.env.locals->b∈X.fs->b∉ch->s.heap.get? b=some o->H b=none->∃sl,h'.get? b=some { o with slots:=sl }) (free:∀b o,b∉ch->s.heap.get? b=some o->H b=none->H' b=none)
  (there:∀b o,b∉ch->s.heap.get? b=some o->∃o',h'.get? b=some o')
  (tups:∀b xs,H b=some (.tup xs)->H' b=some (.tup xs)) (frzs:∀b o u,H b=some (.frz o u)->H' b=some (.frz o u)) (tbls:∀b ps,H b=some (.tbl ps)->∃more,H' b=some (.tbl (ps++more)))
  (ns:∀m,s.heap.Ns X.env.locals m->h'.Ns X.env.locals m) (hok:HOk X.prog X.w H' h') (hg:Km g') :
  Inv X ζ σ H' { s with heap:=h',gens:=g',drawn:=d',toks:=t' }:=by
 have neL:∀b o,X.s₀.heap.get? b=some o->b≠X.env.locals:=λb o e=>BN (AV (Am e) I.ok.above)
 have zx:∀b o,X.s₀.heap.get? b=some o->b∉X.ex->b∉ch:=λb o e hx hb=>by
  rcases(vN b hb).1 with z | z
  ·exact hx z
  ·exact zX (AV (Am e) z) (EN _)
 have cellK:∀x c,X.env.cells.lookup x=some c->∀v,s.heap.IsCell c v->h'.IsCell c v:=by
  rintro x c e v ⟨o,ho,hd⟩
  have yq:c∉ch:=λz=>(vN c z).2.2.1 x c e rfl
  by_cases hc:c∈X.fs
  ·obtain⟨sl,q⟩:=slot c o (I.cne x c e) hc yq ho (I.freeC x c e)
   exact⟨_,q,hd⟩
  ·exact⟨o,keep c o (I.cne x c e) hc yq ho (I.freeC x c e),hd⟩
 refine⟨I.ok,I.os,hg,⟨λb o e n hb hx=>?_,λb o e n hb hx=>?_,λb o e n hx=>?_,λb o e hx=>?_,λb xs e=>tups b xs (I.base.tups b xs e),λb o xs e=>frzs b o xs (I.base.frzs b o xs e),λb ps e=>?_⟩,?_,λx c e=>?_,?_,λx c e=>?_,λp hp=>?_,hok,I.len⟩
 ·exact keep b o (neL b o e) hb (zx b o e hx) (I.base.keep b o e n hb hx) (I.base.free b o e n hx)
 ·obtain⟨sl,e1⟩:=I.base.slot b o e n hb hx
  obtain⟨sl',e2⟩:=slot b _ (neL b o e) hb (zx b o e hx) e1 (I.base.free b o e n hx);exact⟨sl',e2⟩
 ·obtain⟨o',e1⟩:=I.base.there b o e hx
  exact free b o' (zx b o e hx) e1 (I.base.free b o e n hx)
 ·obtain⟨o',e1⟩:=I.base.there b o e hx
  exact there b o' (zx b o e hx) e1
 ·obtain⟨m1,e1⟩:=I.base.tbls b ps e
  obtain⟨m2,e2⟩:=tbls b _ e1;exact⟨m1++m2,by rw[e2,Array.append_assoc]⟩
 ·obtain⟨m,hn,hl⟩:=I.loc
  refine⟨m,ns m hn,λi x v e1 e2 e3=>?_⟩;obtain⟨u,r,l⟩:=hl i x v e1 e2 e3;refine⟨u,r,?_⟩
  rcases l with l | ⟨k,c,e,z⟩
  ·exact .inl l
  ·exact .inr ⟨k,c,e,cellK x c e _ z⟩
 ·obtain⟨v,z⟩:=I.cell x c e
  exact⟨v,cellK x c e v z⟩
 ·obtain⟨m,⟨o,_,_,ho,_⟩,_⟩:=I.loc
  exact free _ o (λz=>(vN _ z).2.1 rfl) ho I.free
 ·obtain⟨v,o,ho,hd⟩:=I.cell x c e
  exact free c o (λz=>(vN c z).2.2.1 x c e rfl) ho (I.freeC x c e)
 ·obtain⟨e,n,ne,nf,d⟩:=I.pin p hp
  have yq:p.1∉ch:=λz=>(vN p.1 z).2.2.2 p hp rfl
  exact⟨keep p.1 p.2 ne nf yq e n,free p.1 p.2 yq e n,ne,nf,d⟩
theorem Inv.un{t':Nat}(I:Inv X ζ σ H s)(u:Un X.fs [] H H' s.heap h')(hok:HOk X.prog X.w H' h'):Inv X ζ σ H' { s with heap:=h',toks:=t' }:=by
 obtain⟨m,⟨o,es,ep,ho,r⟩,_⟩:=id I.loc;obtain⟨sl,hL⟩:=u.any ho I.free (by simp)
 exact I.step (g':=s.gens) (d':=s.drawn) (ch:=[]) (λ_ z=>nomatch z) (λb o _ hb _ e n=>u.keep b o e n hb (by simp)) (λb o _ hb _ e n=>u.slot b o e n hb (by simp)) (λb o _ e n=>u.free b o e n (by simp)) (λb o _ e=>u.there b o e (by simp)) u.tups u.frzs u.tbls (λm' hm=>by
  obtain⟨o',Cs,D',vS,r'⟩:=hm;rw[ho]at vS;cases vS
  exact⟨_,Cs,D',hL,r'⟩) hok I.bare
theorem Inv.call{g':Array GenState}{t':Nat}{d':Drawn}{ch:List Ab}(I:Inv X ζ σ H s)(u:Un (frs X.stack) ch H H' s.heap h')(hok:HOk X.prog X.w H' h')(hg:Km g')
  (vN:∀b∈ch,(b∈X.ex∨X.s₀.heap.objs.size<=b)/\b≠X.env.locals/\(∀x c,X.env.cells.lookup x=some c->c≠b)/\∀p∈X.pn++ζ,p.1≠b) :
  Inv X ζ σ H' { s with heap:=h',gens:=g',drawn:=d',toks:=t' }:=by
 obtain⟨m,⟨o,es,ep,ho,r⟩,_⟩:=id I.loc
 obtain⟨sl,hL⟩:=u.any ho I.free λz=>(vN _ z).2.1 rfl
 exact I.step (ch:=ch) vN (λb o hL hb hc e n=>u.keep b o e n (λz=>(Ap.mp (I.stkSub b z)).elim hL hb) hc) (λb o _ _ hc e n=>u.any e n hc) (λb o hc e n=>u.free b o e n hc) (λb o hc e=>u.there b o e hc) u.tups u.frzs u.tbls (λm' hm=>by
  obtain⟨o',Cs,D',vS,r'⟩:=hm;rw[ho]at vS;cases vS
  exact⟨_,Cs,D',hL,r'⟩) hok hg
theorem Inv.turned{t':Nat}{it:Ab}(I:Inv X ζ σ H s)(k:∀b o,b≠it->s.heap.get? b=some o->h'.get? b=some o)(hn:H it=none)(hL:it≠X.env.locals)
  (h1:it∈X.ex∨X.s₀.heap.objs.size<=it) (h2:∀x c,X.env.cells.lookup x=some c->c≠it) (h3:∀p∈X.pn++ζ,p.1≠it):Inv X ζ σ H { s with heap:=h',toks:=t' }:=by
 have yr:∀b u,H b=some u->b≠it:=λb u e z=>by rw[z,hn]at e;cases e
 refine I.step (g':=s.gens) (d':=s.drawn) (ch:=[it]) (λb hb=>?_) (λb o _ _ hc e _=>k b o (λz=>hc (by simp[z])) e) (λb o _ _ hc e _=>⟨o.slots,k b o (λz=>hc (by simp[z])) e⟩) (λ_ _ _ _ n=>n)
  (λb o hc e=>⟨o,k b o (λz=>hc (by simp[z])) e⟩) (λ_ _ e=>e) (λ_ _ _ e=>e) (λb ps e=>⟨#[],by rw[e];simp⟩) (λm hm=>?_) (λb u e=>?_) I.bare
 ·have e:b=it:=by simpa using hb
  subst e;exact⟨h1,hL,h2,h3⟩
 ·obtain⟨o,es,ep,ho,r⟩:=hm
  exact⟨o,es,ep,k _ o (Ci hL) ho,r⟩
 ·refine(I.hok b u e).stay (λc v hc q=>k c v ?_ q) (λ_ q=>q) λ_ _ q=>q
  rcases hc with z | z
  ·rw[z];exact yr b u e
  ·exact yr c _ z
theorem Inv.tok(I:Inv X ζ σ H s)(t:Nat):Inv X ζ σ H { s with toks:=t }:=I.un (h':=s.heap) (t':=t) Un.refl I.hok
theorem Inv.kept(I:Inv X ζ σ H s)(k:∀b u,s.heap.get? b=some u->h'.get? b=some u):Inv X ζ σ H { s with heap:=h',toks:=t' }:=I.un (Un.kept k) (I.hok.kept k)
theorem Inv.laid(I:Inv X ζ σ H s)(k:∀b u,s.heap.get? b=some u->h'.get? b=some u)(hp:s.heap.objs.size<=a)(new:Df X.prog X.w (upd H a o) h' a o) :
  Inv X ζ σ (upd H a o) { s with heap:=h',toks:=t' }:=I.un (Un.laid k hp (I.hok.fresh hp)) (I.hok.laid k hp new)
theorem Inv.write(I:Inv X ζ σ H s)(mu:Mut (H x))(he:e=x∨H e=some (.own x))(k:∀b u,b≠e->s.heap.get? b=some u->h'.get? b=some u)(yc:∃u,h'.get? e=some u)
  (new:Df X.prog X.w (upd H x o) h' x o):Inv X ζ σ (upd H x o) { s with heap:=h',toks:=t' }:=I.un (Un.write mu he k yc) (I.hok.write mu he k yc new)
theorem Inv.pins_of(I:Inv X ζ σ H s)(h:∀p∈pins',s.heap.get? p.1=some p.2/\H p.1=none/\p.1≠X.env.locals/\p.1∉X.fs/\∀v,p.2.data≠.cell v):Inv X pins' σ H s:=
 ⟨I.ok,I.os,I.bare,I.base,I.loc,I.cell,I.free,I.freeC,λp hp=>(A9.mp hp).elim (λz=>I.pin p (BM _ z)) (h p),I.hok,I.len⟩
theorem Xb{N:List Str}(hN:N.Nodup){i j:Nat}{x:Str}(a:N[i]?=some x)(b:N[j]?=some x):i=j:=by
 obtain⟨h1,e1⟩:=AE.mp a;obtain⟨h2,e2⟩:=AE.mp b;exact(RI hN).mp (e1.trans e2.symm)
theorem UO{M:Model}{A:Cj}{E:AJ->AS->Prop}{i:Nat}{x:Str}{v:V}{u:AJ}{Q:Unit->AS->Prop}(I:Inv X ζ σ H s)(hN:X.N.Nodup)(hi:X.N[i]?=some x)(hx:Loc X.env.scope x)(r:RelV v u)
  (h:∀s',Inv X ζ (σ.set i (some v)) H s'->(∃a,FI a s.heap s'.heap/\(a=X.env.locals∨X.env.cells.lookup x=some a))->Q () s') (hf:X.fn x=true∨X.env.scope.names.lookup x=some .local:=by first | exact .inl rfl | exact .inr rfl | assumption):Aq M A (qj X.env x u) Q E s:=by
 obtain⟨m,hn,hl⟩:=id I.loc
 have E':(X.env.scope.kind==.class||(X.env.scope.kind==.module&&X.env.locals != X.env.globals))=false:=by rw[I.ok.kind];rfl
 have hiσ:i < σ.length:=by rw[I.len];exact(AE.mp hi).1
 have cne:=I.cne
 have tracked:∀{a:Ab} {h':DT},(∃o,s.heap.get? a=some o/\H a=none)->FI a s.heap h'->HOk X.prog X.w H h':=λ{a h'} ha hs b ob e=>by
  obtain⟨_,_,vw⟩:=ha
  refine(I.hok b ob e).stay (λc w' hc q=>(hs.2 c ?_).trans q) (λ_ q=>q) λ_ _ q=>q
  rintro rfl
  rcases hc with rfl | hc
  ·rw[vw]at e;cases e
  ·rw[vw]at hc;cases hc
 rcases hx with hk | hk
 ·refine wpAny_storeName_local hk hn (λh' vk hs=>?_) E'
  obtain⟨oL,_,_,hoL,_⟩:=id hn;refine h _ ⟨I.ok,I.os,I.bare,⟨λb o e n hb hx=>?_,λb o e n hb hx=>?_,I.base.free,λb o e hx=>?_,I.base.tups,I.base.frzs,I.base.tbls⟩,⟨_,vk,λj y v' e1 e2 e3=>?_⟩,λy c e=>?_,I.free,I.freeC,λp hp=>?_,tracked ⟨oL,hoL,I.free⟩ hs,by simpa using I.len⟩ ⟨_,hs,.inl rfl⟩
  ·exact(hs.2 b (BN (AV (Am e) I.ok.above))).trans (I.base.keep b o e n hb hx)
  ·obtain⟨sl,e1⟩:=I.base.slot b o e n hb hx
   exact⟨sl,(hs.2 b (BN (AV (Am e) I.ok.above))).trans e1⟩
  ·obtain⟨o',e1⟩:=I.base.there b o e hx
   exact⟨o',(hs.2 b (BN (AV (Am e) I.ok.above))).trans e1⟩
  ·by_cases hj:j=i
   ·subst hj
    rw[hi]at e1;cases e1;rw[At hiσ]at e2;cases e2;exact⟨u,r,.inl ⟨hk,by simp⟩⟩
   ·rw[Ah (Ci hj)]at e2
    obtain⟨u',r',q⟩:=hl j y v' e1 e2 e3;refine⟨u',r',?_⟩
    rcases q with⟨k,e⟩ | ⟨k,c,e,z⟩
    ·refine .inl ⟨k,?_⟩
     have:y≠x:=λe=>hj (Xb hN e1 (e▸hi))
     simp[this,e]
    ·exact .inr ⟨k,c,e,z.sameBut hs (cne y c e)⟩
  ·obtain⟨w',z⟩:=I.cell y c e
   exact⟨w',z.sameBut hs (cne y c e)⟩
  ·obtain⟨e,n,ne,nf,d⟩:=I.pin p hp
   exact⟨(hs.2 p.1 ne).trans e,n,ne,nf,d⟩
 ·have G':X.fn x=true:=by
   rcases hf with z | z
   ·exact z
   ·rw[z]at hk;cases hk
  obtain⟨c,hc⟩:=I.ok.has x (.inl hk);obtain⟨w',z⟩:=I.cell x c hc;refine wpAny_storeName_cell I.ok.kind hk hc z (λh' uN hs=>?_);obtain⟨oc,hoc,J'⟩:=id z;refine h { s with heap:=h' } ⟨I.ok,I.os,I.bare,⟨λb o e n hb hx=>?_,λb o e n hb hx=>?_,I.base.free,λb o e hx=>?_,I.base.tups,I.base.frzs,I.base.tbls⟩,⟨m,hn.sameBut hs (Ci (cne x c hc)),λj y v' e1 e2 e3=>?_⟩,λy c' e=>?_,I.free,I.freeC,λp hp=>?_,tracked ⟨oc,hoc,I.freeC x c hc⟩ hs,by simpa using I.len⟩ ⟨c,hs,.inr hc⟩
  ·exact(hs.2 b (BN (AV (Am e) (I.ok.cab x c G' hc)))).trans (I.base.keep b o e n hb hx)
  ·obtain⟨sl,e1⟩:=I.base.slot b o e n hb hx
   exact⟨sl,(hs.2 b (BN (AV (Am e) (I.ok.cab x c G' hc)))).trans e1⟩
  ·obtain⟨o',e1⟩:=I.base.there b o e hx
   exact⟨o',(hs.2 b (BN (AV (Am e) (I.ok.cab x c G' hc)))).trans e1⟩
  ·by_cases hj:j=i
   ·subst hj
    rw[hi]at e1;cases e1;rw[At hiσ]at e2;cases e2;exact⟨u,r,.inr ⟨.inl hk,c,hc,uN⟩⟩
   ·rw[Ah (Ci hj)]at e2
    obtain⟨u',r',q⟩:=hl j y v' e1 e2 e3;refine⟨u',r',?_⟩
    rcases q with q | ⟨k,c',e,z'⟩
    ·exact .inl q
    ·refine .inr ⟨k,c',e,z'.sameBut hs ?_⟩
     rintro rfl;exact hj (Xb hN e1 (I.ok.inj _ _ _ e hc▸hi))
  ·by_cases hcc:c'=c
   ·subst hcc;exact⟨_,uN⟩
   ·obtain⟨w2,z2⟩:=I.cell y c' e
    exact⟨w2,z2.sameBut hs hcc⟩
  ·obtain⟨e,n,ne,nf,d⟩:=I.pin p hp
   refine⟨(hs.2 p.1 ?_).trans e,n,ne,nf,d⟩;intro q;rw[q,hoc]at e;have q':oc=p.2:=By e;exact d w' (by rw[<-q'];exact J')
theorem SA(I:Inv X ζ σ H s)(hN:X.N.Nodup)(hi:X.N[i]?=some x)(hx:Loc X.env.scope x)(r:RelV v u)
  (h:∀s',Inv X ζ (σ.set i (some v)) H s'->Q () s') (hf:X.fn x=true∨X.env.scope.names.lookup x=some .local:=by first | exact .inl rfl | exact .inr rfl | assumption):Aq M A (qj X.env x u) Q E s:=
 UO I hN hi hx r (λs' I' _=>h s' I') hf
theorem Inv.call'(I:Inv X ζ σ H s)(ho:s'.os=s.os)(u:Un (frs X.stack) ch H H' s.heap s'.heap)(hok:HOk X.prog X.w H' s'.heap)(hg:Km s'.gens)
  (vN:∀b∈ch,(b∈X.ex∨X.s₀.heap.objs.size<=b)/\b≠X.env.locals/\(∀x c,X.env.cells.lookup x=some c->c≠b)/\∀p∈X.pn++ζ,p.1≠b):Inv X ζ σ H' s':=by
 obtain⟨h',g',d',t',o'⟩:=s';have e:o'=s.os:=ho;subst e;exact I.call (g':=g') (t':=t') (d':=d') u hok hg vN
end
abbrev XK:=AJ->Option Ab->Hp->Prop
abbrev St:=List (Option V)
abbrev VK:=V->Hp->Prop
abbrev TE:=St->Hp->VK->Prop
abbrev TT:=St->Hp->(Bool->Hp->Prop)->Prop
abbrev TA:=St->Hp->(List V->Hp->Prop)->Prop
structure ca where
 nx:St->Hp->Prop
 rt:VK
 bk:St->Hp->Prop:=λ_ _=>False
 ct:St->Hp->Prop:=λ_ _=>False
abbrev TS:=ca->St->Hp->Prop
def EP(X:Cx)(ζ:List (Ab×Obj))(σ:St)(Q:VK)(u:AJ)(s':AS):Prop:=∃v H',Inv X ζ σ H' s'/\RelV v u/\Q v H'
def TP(X:Cx)(ζ:List (Ab×Obj))(σ:St)(Q:Bool->Hp->Prop)(b:Bool)(s':AS):Prop:=∃H',Inv X ζ σ H' s'/\Q b H'
def AP(X:Cx)(ζ:List (Ab×Obj))(σ:St)(Q:List V->Hp->Prop)(us:List AJ)(s':AS):Prop:=∃vs H',Inv X ζ σ H' s'/\B0 vs us/\Q vs H'
def SP(X:Cx)(ζ:List (Ab×Obj))(D:ca)(f:Flow)(s':AS):Prop:=
 match f with
 | .next=>∃σ' H',Inv X ζ σ' H' s'/\D.nx σ' H'
 | .brk=>∃σ' H',Inv X ζ σ' H' s'/\D.bk σ' H'
 | .cont=>∃σ' H',Inv X ζ σ' H' s'/\D.ct σ' H'
 | .ret u=>∃v σ' H',Inv X ζ σ' H' s'/\RelV v u/\D.rt v H'
def PE(X:Cx)(e:Expr)(t:TE):Prop:=
 ∀(ζ:List (Ab×Obj)) (s:AS) (σ:St) (H:Hp) (Q:VK),Inv X ζ σ H s->t σ H Q->Aq (Ad X.prog X.w) X.A (Co e X.env) (EP X ζ σ Q) X.xe s
def PT(X:Cx)(e:Expr)(t:TT):Prop:=
 ∀(ζ:List (Ab×Obj)) (s:AS) (σ:St) (H:Hp) (Q:Bool->Hp->Prop),Inv X ζ σ H s->t σ H Q->Aq (Ad X.prog X.w) X.A (mP e X.env (Co e X.env)) (TP X ζ σ Q) X.xe s
def PW(X:Cx)(e:Expr)(t:TT):Prop:=
 ∀(whole:Sem AJ) (ζ:List (Ab×Obj)) (s:AS) (σ:St) (H:Hp) (Q:Bool->Hp->Prop),Inv X ζ σ H s->t σ H Q->Aq (Ad X.prog X.w) X.A (mP e X.env whole) (TP X ζ σ Q) X.xe s
theorem PW.pt(h:PW X e t):PT X e t:=h _
def PA(X:Cx)(es:List Expr)(t:TA):Prop:=
 ∀(pos:Pos) (ζ:List (Ab×Obj)) (s:AS) (σ:St) (H:Hp) (Q:List V->Hp->Prop),Inv X ζ σ H s->t σ H Q->Aq (Ad X.prog X.w) X.A (spliced (E6 pos (Ag es X.env))) (AP X ζ σ Q) X.xe s
def PS(X:Cx)(st:DS)(t:TS):Prop:=
 ∀(ζ:List (Ab×Obj)) (s:AS) (σ:St) (H:Hp) (D:ca),Inv X ζ σ H s->t D σ H->Aq (Ad X.prog X.w) X.A (exec st X.env) (SP X ζ D) X.xe s
def PSs(X:Cx)(st:List DS)(t:TS):Prop:=
 ∀(ζ:List (Ab×Obj)) (s:AS) (σ:St) (H:Hp) (D:ca),Inv X ζ σ H s->t D σ H->Aq (Ad X.prog X.w) X.A (execs st X.env) (SP X ζ D) X.xe s
theorem thn{α:Type}{t:Sem α}{Q Q':α->AS->Prop}{M:Model}{A:Cj}{E:AJ->AS->Prop}{s:AS}(h:Aq M A t Q E s)(hQ:∀a s,Q a s->Q' a s):Aq M A t Q' E s:=Hr h hQ λ_ _ x=>x
section
variable{X:Cx}
def nL(i:Nat):TE:=λσ H Q=>∃v,σ[i]?=some (some v)/\Q v H
def tC(v:V):TE:=λ_ H Q=>Q v H
theorem oF(hN:X.N[i]?=some x)(hv:Vis X.env.scope x)(hd:(x==("__debug__" : Str))=false:=by decide) (vE:(x==("__classdict__" : Str))=false:=by decide):PE X (.Name x pos) (nL i):=by
 intro ζ s σ H Q I h;obtain⟨v,e,h⟩:=h;obtain⟨m,hn,hl⟩:=I.loc;obtain⟨u,r,l⟩:=hl i x v hN e hv;have fin:EP X ζ σ Q u s:=⟨v,H,I,r,h⟩
 rcases l with⟨hk,hm⟩ | ⟨hk,c,hc,uv⟩
 ·exact mL (iJ I.ok.kind hk hn hm fin) hd
 ·rcases hk with hk | hk
  ·exact mL (lU I.ok.kind hk hc uv fin) hd
  ·exact mL (wpAny_loadName_free I.ok.kind hk hc uv fin vE) hd
theorem oM{i j pos}:PE X (.Constant (.int i) j pos) (tC (.int i)):=λ_ _ _ H _ I h=>wpAny_Constant_int ⟨.int i,H,I.tok _,⟨_,rfl⟩,h⟩
theorem sJ{b j pos}:PE X (.Constant (.bool b) j pos) (tC (.bl b)):=λ_ _ _ H _ I h=>Constant_bool ⟨.bl b,H,I,rfl,h⟩
theorem oH{x j pos}:PE X (.Constant (.str x) j pos) (tC (.str x)):=λ_ _ _ H _ I h=>Calls.Constant_str ⟨.str x,H,I.tok _,⟨_,rfl⟩,h⟩
def Gl(X:Cx)(x:Str):Prop:=X.env.kindOf x=some .globalImplicit
theorem V1(I:Inv X ζ σ H s)(hg:Gl X x)(hm:X.mg x=some u)(h:Q u s)
  (hd:(x==("__debug__" : Str))=false:=by decide):Aq (Ad X.prog X.w) X.A (Co (.Name x pos) X.env) Q E s:=
 Te I.ok.kind hg (Calls.loadGlobal_global (by rw[I.ok.glob];exact I.mod.glob.keeps I.bk) hm h) hd
theorem QI(I:Inv X ζ σ H s)(hg:Gl X x)(hm:X.mg x=none)(hv:G7 x=some u)(h:Q u s)
  (hn:x≠"__name__":=by decide) (hd:(x==("__debug__" : Str))=false:=by decide):Aq (Ad X.prog X.w) X.A (Co (.Name x pos) X.env) Q E s:=by
 obtain⟨mb,h1,h2⟩:=I.mod.blt;exact Te I.ok.kind hg (Calls.loadGlobal_builtin (by rw[I.ok.glob];exact I.mod.glob.keeps I.bk) hm (by rw[I.ok.blt];exact h1.keeps I.bk) ((h2 x hn).trans hv) h) hd
theorem j3(hg:Gl X x)(hm:X.mg x=some u)(r:RelV v u)(hd:(x==("__debug__" : Str))=false:=by decide):PE X (.Name x pos) (tC v):=
 λ_ _ _ H _ I h=>V1 I hg hm ⟨v,H,I,r,h⟩ hd
variable{a b:Expr}{ta tb:TE}{pos:Pos}
def PC(X:Cx)(op:CmpOp)(a b:Expr)(t:TE):Prop:=
 ∀(ζ:List (Ab×Obj)) (s:AS) (σ:St) (H:Hp) (Q:VK),Inv X ζ σ H s->t σ H Q ->
  Aq (Ad X.prog X.w) X.A (Co a X.env) (λv s₁=>Aq (Ad X.prog X.w) X.A (Co b X.env) (λu s₂=>Aq (Ad X.prog X.w) X.A (Ch op v u) (EP X ζ σ Q) X.xe s₂) X.xe s₁) X.xe s
def tB(t:TE):TT:=λσ H Q=>t σ H λx H1=>∃c,x=.bl c/\Q c H1
theorem oP(h:PC X op a b t)(h1:Cy op b=false:=by first | exact nobehind _ (by decide) (by decide) | rfl):PE X (.Compare a [op] [b] pos) t:=λζ s σ H Q I hw=>wpAny_Compare1 (h ζ s σ H Q I hw) h1
theorem eJ(h:PC X op a b t)(h1:Cy op b=false:=by first | exact nobehind _ (by decide) (by decide) | rfl):PT X (.Compare a [op] [b] pos) (tB t):=by
 intro ζ s σ H Q I hw;refine iA (thn (h ζ s σ H _ I hw) λv s1 h1=>thn h1 λu s2 h2=>thn h2 λc s3 ⟨x,H1,I1,r1,q1⟩=>?_) h1;obtain⟨d,rfl,q⟩:=q1;cases r1;exact EE ⟨H1,I1,q⟩
variable{tA zy:TT}{rest:List Expr}
def rX(t u:TT):TT:=λσ H Q=>t σ H λc H1=>if c=true then u σ H1 Q else Q false H1
def tOr(t u:TT):TT:=λσ H Q=>t σ H λc H1=>if c=true then Q true H1 else u σ H1 Q
def tNot(t:TT):TT:=λσ H Q=>t σ H λc H1=>Q (!c) H1
theorem ji(ha:PT X a tA):PW X (.BoolOp .And [a] pos) tA:=by
 intro wh ζ s σ H Q I h;refine isTrue_and (thn (ha ζ s σ H Q I h) λc s1 e=>?_)
 cases c with
 | true=>exact isTrue_and_nil e
 | false=>exact e
theorem np(ha:PT X a tA):PW X (.BoolOp .Or [a] pos) tA:=by
 intro wh ζ s σ H Q I h;refine isTrue_or (thn (ha ζ s σ H Q I h) λc s1 e=>?_)
 cases c with
 | false=>exact isTrue_or_nil e
 | true=>exact e
theorem nq(ha:PT X a tA)(hb:PW X (.BoolOp .And (b :: rest) pos) zy):PW X (.BoolOp .And (a :: b :: rest) pos) (rX tA zy):=by
 intro wh ζ s σ H Q I h;refine isTrue_and (thn (ha ζ s σ H _ I h) λc s1 ⟨H1,I1,q1⟩=>?_)
 cases c with
 | true=>exact hb wh ζ s1 σ H1 Q I1 q1
 | false=>exact⟨H1,I1,q1⟩
theorem rq(ha:PT X a tA)(hb:PW X (.BoolOp .Or (b :: rest) pos) zy):PW X (.BoolOp .Or (a :: b :: rest) pos) (tOr tA zy):=by
 intro wh ζ s σ H Q I h;refine isTrue_or (thn (ha ζ s σ H _ I h) λc s1 ⟨H1,I1,q1⟩=>?_)
 cases c with
 | true=>exact⟨H1,I1,q1⟩
 | false=>exact hb wh ζ s1 σ H1 Q I1 q1
theorem nv(ha:PT X a tA):PT X (.UnaryOp .Not a pos) (tNot tA):=by
 intro ζ s σ H Q I h;exact isTrue_not (ha ζ s σ H (λc H1=>Q (!c) H1) I h)
def tOrV(ta tb:TE):TE:=λσ H Q=>ta σ H λx H1=>∃c,x=.bl c/\if c=true then Q (.bl true) H1 else tb σ H1 Q
def rJ(ta:TE):TE:=λσ H Q=>ta σ H λx H1=>∃c,x=.bl c/\Q (.bl (!c)) H1
theorem oI{op}{t}(h:PE X a t):PE X (.BoolOp op [a] pos) t:=λζ s σ H Q I hw=>BoolOp_one (h ζ s σ H Q I hw)
theorem sE(ha:PE X a ta)(hb:PE X (.BoolOp .Or (b :: rest) pos) tb):PE X (.BoolOp .Or (a :: b :: rest) pos) (tOrV ta tb):=by
 intro ζ s σ H Q I h;refine BoolOp_or (thn (ha ζ s σ H _ I h) λv s1 ⟨x,H1,I1,r1,q1⟩=>?_);obtain⟨c,rfl,q1⟩:=q1;cases r1;refine EE ?_
 cases c with
 | false=>exact hb ζ s1 σ H1 Q I1 q1
 | true=>exact⟨.bl true,H1,I1,rfl,q1⟩
theorem oJ(ha:PE X a ta):PE X (.UnaryOp .Not a pos) (rJ ta):=by
 intro ζ s σ H Q I h;refine UnaryOp_ (thn (ha ζ s σ H _ I h) λv s1 ⟨x,H1,I1,r1,q1⟩=>?_);obtain⟨c,rfl,q1⟩:=q1;cases r1;exact not_of (EE ⟨.bl (!c),H1,I1,rfl,q1⟩)
def tIf(t:TT)(ta tb:TE):TE:=λσ H Q=>t σ H λc H1=>if c=true then ta σ H1 Q else tb σ H1 Q
theorem eY(hc:PT X c tA)(ha:PE X a ta)(hb:PE X b tb):PE X (.IfExp c a b pos) (tIf tA ta tb):=by
 intro ζ s σ H Q I h;refine wpAny_IfExp (thn (hc ζ s σ H _ I h) λd s1 ⟨H1,I1,q1⟩=>?_)
 cases d with
 | true=>exact ha ζ s1 σ H1 Q I1 q1
 | false=>exact hb ζ s1 σ H1 Q I1 q1
end
def SqL(K:AG)(H:Hp)(a:Ab)(xs:List V):Prop:=
 Rd H a (.lst xs) ∨
  ∃(o:Obj) (i':Array AJ) (n:Nat),K.lookup a=some o/\o.cls=.type "list"/\o.dict=none/\o.data=.seq i' n/\i'.size<=sizeLine/\B0 xs i'.toList
def SqT(K:AG)(H:Hp)(a:Ab)(xs:List V):Prop:=
 Rd H a (.tup xs) ∨
  ∃(o:Obj) (i':Array AJ) (n:Nat),K.lookup a=some o/\o.cls=.type "tuple"/\o.data=.seq i' n/\i'.size<=sizeLine/\B0 xs i'.toList
def absV:AJ->Option V
 | .none=>some .non
 | .bool b=>some (.bl b)
 | .int i _=>some (.int i)
 | .str x _=>some (.str x)
 | .bytes b _=>some (.byt b)
 | .float b _=>some (.flt b)
 | .ref a=>some (.ref a)
 | .type n=>some (.ty n)
 | _=>none
theorem RelV.abs(r:RelV x u):absV u=some x:=by
 cases x with
 | non=>cases r;rfl
 | bl _=>cases r;rfl
 | int _=>obtain⟨t,rfl⟩:=r;rfl
 | str _=>obtain⟨t,rfl⟩:=r;rfl
 | byt _=>obtain⟨t,rfl⟩:=r;rfl
 | flt _=>obtain⟨t,rfl⟩:=r;rfl
 | ref _=>cases r;rfl
 | ty _=>cases r;rfl
theorem RelV.inj(r:RelV x u)(q:RelV y u):x=y:=By (r.abs.symm.trans q.abs)
theorem B0.inj:∀{xs ys:List V} {us:List AJ},B0 xs us->B0 ys us->xs=ys
 | _,_,_,.nil,.nil=>rfl
 | _,_,_,.cons r t,.cons r' t'=>by rw[r.inj r',B0.inj t t']
section
variable{X:Cx}{ζ:List (Ab×Obj)}{σ:St}{H:Hp}{s:AS}{a:Ab}{xs ys:List V}
theorem Inv.list(I:Inv X ζ σ H s)(h:SqL X.K H a xs):∃i':List AJ,B0 xs i'/\PlainL s.heap a i'.toArray/\xs.length<=sizeLine:=by
 rcases h with h | ⟨o,i',n,hk,hc,hd,hs,hz,r⟩
 ·obtain⟨z,i',n,r,e⟩:=h.ok I.hok
  exact⟨i',r,⟨_,n,e,rfl,rfl,rfl⟩,z⟩
 ·refine⟨i'.toList,r,⟨o,n,I.kIn a o hk,hc,hd,by simpa using hs⟩,?_⟩
  have e:=r.length;simp only[Bq]at e
  lia
theorem Inv.tuple(I:Inv X ζ σ H s)(h:SqT X.K H a xs):∃i':List AJ,B0 xs i'/\iZ s.heap a i'.toArray/\xs.length<=sizeLine:=by
 rcases h with h | ⟨o,i',n,hk,hc,hs,hz,r⟩
 ·obtain⟨z,i',r,p⟩:=h.ok I.hok
  exact⟨i',r,p,z.1⟩
 ·refine⟨i'.toList,r,⟨o,I.kIn a o hk,hc,n,by simpa using hs⟩,?_⟩
  have e:=r.length;simp only[Bq]at e
  lia
theorem Inv.list_inj(I:Inv X ζ σ H s)(h:SqL X.K H a xs)(h':SqL X.K H a ys):xs=ys:=by
 obtain⟨i',r,⟨o,n,e,_,_,d⟩,_⟩:=I.list h;obtain⟨its',r',⟨o',n',e',_,_,d'⟩,_⟩:=I.list h';rw[e]at e';cases e';rw[d]at d'
 injection d' with d1 _
 have:i'=its':=by simpa using congrArg mY d1
 subst this;exact r.inj r'
theorem Inv.tuple_inj(I:Inv X ζ σ H s)(h:SqT X.K H a xs)(h':SqT X.K H a ys):xs=ys:=by
 obtain⟨i',r,⟨o,e,_,n,d⟩,_⟩:=I.tuple h;obtain⟨its',r',⟨o',e',_,n',d'⟩,_⟩:=I.tuple h';rw[e]at e';cases e';rw[d]at d'
 injection d' with d1 _
 have:i'=its':=by simpa using congrArg mY d1
 subst this;exact r.inj r'
end
section
variable{X:Cx}{st:DS}{rest:List DS}{t u:TS}{e:Expr}{te:TE}{pos:Pos}
def rK:TS:=λD σ H=>D.nx σ H
def tSeq(t u:TS):TS:=λD σ H=>t { D with nx:=u D } σ H
theorem jl:PSs X [] rK:=λ_ _ σ H _ I h=>Oa ⟨σ,H,I,h⟩
theorem eN(h1:PS X st t)(h2:PSs X rest u):PSs X (st :: rest) (tSeq t u):=by
 intro ζ s σ H D I h;refine qg (thn (h1 ζ s σ H { D with nx:=u D } I h) λf s1 q=>?_)
 cases f with
 | next=>
  obtain⟨σ',H',I',q⟩:=q;exact h2 ζ s1 σ' H' D I' q
 | ret v=>exact q
 | brk=>exact q
 | cont=>exact q
theorem jk(h1:PS X st t):PSs X [st] t:=by
 intro ζ s σ H D I h;refine qg (thn (h1 ζ s σ H D I h) λf s1 q=>?_)
 cases f with
 | next=>exact Oa q
 | ret v=>exact q
 | brk=>exact q
 | cont=>exact q
theorem Inv.quiet(I:Inv X ζ σ H s):interactive X.env=false:=by simp[interactive,I.ok.kind]
def rM(te:TE):TS:=λD σ H=>te σ H λ_ H1=>D.nx σ H1
theorem jm(he:PE X e te)(hs:G6 e none pos.line X.env=pure false:=by rfl):PS X (.Expr e pos) (rM te):=by
 intro ζ s σ H D I h;exact wpAny_Expr_any (thn (he ζ s σ H _ I h) λv s1 ⟨x,H1,I1,r1,q1⟩=>⟨σ,H1,I1,q1⟩) I.quiet hs
def tRet(te:TE):TS:=λD σ H=>te σ H D.rt
theorem ny(he:PE X e te):PS X (.Return (some e) pos) (tRet te):=by
 intro ζ s σ H D I h;exact wpAny_Return_some (thn (he ζ s σ H _ I h) λv s1 ⟨x,H1,I1,r1,q1⟩=>⟨x,σ,H1,I1,r1,q1⟩)
def tIfS(c:TT)(t u:TS):TS:=λD σ H=>c σ H λb H1=>if b=true then t D σ H1 else u D σ H1
theorem sC(hc:PT X c tc)(ha:PSs X a t)(hb:PSs X b u):PS X (.If c a b pos) (tIfS tc t u):=by
 intro ζ s σ H D I h;refine wpAny_If (thn (hc ζ s σ H _ I h) λd s1 ⟨H1,I1,q1⟩=>?_)
 cases d with
 | true=>exact ha ζ s1 σ H1 D I1 q1
 | false=>exact hb ζ s1 σ H1 D I1 q1
def nN:TS:=λ_ _ _=>False
theorem eQ:PS X st nN:=λ_ _ _ _ _ _ h=>h.elim
end
abbrev TG:=V->St->Hp->(St->Hp->Prop)->Prop
abbrev TGs:=List V->St->Hp->(St->Hp->Prop)->Prop
def PG(X:Cx)(ϖ:Expr)(t:TG):Prop:=
 ∀(ζ:List (Ab×Obj)) (s:AS) (σ:St) (H:Hp) (v:V) (u:AJ) (Q:St->Hp->Prop),Inv X ζ σ H s->RelV v u->t v σ H Q ->
  Aq (Ad X.prog X.w) X.A (Rj ϖ X.env u) (λ_ s'=>∃σ' H',Inv X ζ σ' H' s'/\Q σ' H') X.xe s
def PGs(X:Cx)(ts:List Expr)(t:TGs):Prop:=
 ∀(ζ:List (Ab×Obj)) (s:AS) (σ:St) (H:Hp) (vs:List V) (us:List AJ) (Q:St->Hp->Prop),Inv X ζ σ H s->B0 vs us->t vs σ H Q ->
  Aq (Ad X.prog X.w) X.A (assignInOrder ((Fd ts X.env).map (·.2)) us) (λ_ s'=>∃σ' H',Inv X ζ σ' H' s'/\Q σ' H') X.xe s
abbrev tU:=V->V->V->Hp->(Hp->Prop)->Prop
def tZ(X:Cx)(t:tU):Prop:=
 ∀(ζ:List (Ab×Obj)) (s:AS) (σ:St) (H:Hp) (o i v:V) (ov iv u:AJ) (Q:Hp->Prop),Inv X ζ σ H s->RelV o ov->RelV i iv->RelV v u->t o i v H Q ->
  Aq (Ad X.prog X.w) X.A (qO ov iv u) (λ_ s'=>∃H',Inv X ζ σ H' s'/\Q H') X.xe s
abbrev TIp:=V->V->Hp->VK->Prop
def PIp(X:Cx)(op:Operator)(t:TIp):Prop:=
 ∀(ζ:List (Ab×Obj)) (s:AS) (σ:St) (H:Hp) (x y:V) (v u:AJ) (Q:VK),Inv X ζ σ H s->RelV x v->RelV y u->t x y H Q ->
  Aq (Ad X.prog X.w) X.A (inplaceOp op v u) (EP X ζ σ Q) X.xe s
section
variable{X:Cx}{pos:Pos}
def aQ(i:Nat):TG:=λv σ H Q=>Q (σ.set i (some v)) H
theorem jx(hN:X.N.Nodup)(hi:X.N[i]?=some x)(hx:Loc X.env.scope x)(hf:X.fn x=true∨X.env.scope.names.lookup x=some .local:=by first | exact .inl rfl | exact .inr rfl | assumption):PG X (.Name x pos) (aQ i):=by
 intro ζ s σ H v u Q I r h;exact qK (SA I hN hi hx r (λs' I'=>⟨_,H,I',h⟩) hf)
def gNil:TGs:=λvs σ H Q=>vs=[]/\Q σ H
def tL(t:TG)(u:TGs):TGs:=λvs σ H Q=>∃v r,vs=v :: r/\t v σ H λσ' H'=>u r σ' H' Q
theorem jw:PGs X [] gNil:=by
 intro ζ s σ H vs us Q I r h;obtain⟨e,h⟩:=h;subst e;cases r;exact assignInOrder_nil ⟨σ,H,I,h⟩
theorem eW(h1:PG X e t)(h2:PGs X es u)
  (hs:(Fd (e :: es) X.env).map (·.2)=Rj e X.env :: (Fd es X.env).map (·.2):=by rfl):PGs X (e :: es) (tL t u):=by
 intro ζ s σ H vs us Q I r h;obtain⟨v,vr,e1,h⟩:=h;subst e1
 cases r with
 | cons r rr=>
  rw[hs];refine assignInOrder_cons (thn (h1 ζ s σ H _ _ _ I r h) λ_ s1 ⟨σ1,H1,I1,q1⟩=>?_);exact h2 ζ s1 σ1 H1 _ _ Q I1 rr q1
def gTup(K:AG)(n:Nat)(t:TGs):TG:=λv σ H Q=>∃a xs,v=.ref a/\SqT K H a xs/\xs.length=n/\t xs σ H Q
theorem oE(hc:X.calm=true)(h:PGs X es t)
  (hn:(Fd es X.env).length=n:=by rfl) (vp:(Fd es X.env).findIdx? (·.1)=none:=by rfl):PG X (.Tuple es k pos) (gTup X.K n t):=by
 intro ζ s σ H v u Q I r hw;obtain⟨a,xs,e1,hq,hl,hw⟩:=hw;subst e1;cases r;obtain⟨i',rv,ht,hz⟩:=I.tuple hq
 refine assign_Tuple_tuple (I.ok.hd hc) ht (by simp[hn,<-hl,rv.length]) vp λh' hx=>?_
 have I1:Inv X ζ σ H { s with heap:=h' }:=I.kept (t':=s.toks) λb o e=>hx b o (BN (Am e)) e
 exact h ζ _ σ H xs _ Q I1 (by simpa using rv) hw
def nQ(te:TE)(g:TG):TS:=λD σ H=>te σ H λx H1=>g x σ H1 D.nx
theorem oA(he:PE X e te)(hg:PG X tg g)(hs:swapsWithSole [tg] e pos.line X.env=pure false:=by rfl)(hw:swappedStores [tg] e X.env=pure none:=by rfl)
  (h1:(Fd [tg] X.env).map (·.2)=[Rj tg X.env]:=by rfl):PS X (.Assign [tg] e pos) (nQ te g):=by
 intro ζ s σ H D I h;refine wpAny_Assign_stores (thn (he ζ s σ H _ I h) λv s1 ⟨x,H1,I1,r1,q1⟩=>?_) hs hw;rw[h1]
 exact thn (hg ζ s1 σ H1 x v _ I1 r1 q1) λ_ s2 q=>q
theorem nw(hN:X.N.Nodup)(hi:X.N[i]?=some x)(hx:Loc X.env.scope x)(he:PE X e te)(hs:G6 e (some (.Name x pos')) pos.line X.env=pure false:=by rfl)(hf:X.fn x=true∨X.env.scope.names.lookup x=some .local:=by first | exact .inl rfl | exact .inr rfl | assumption) :
  PS X (.Assign [.Name x pos'] e pos) (nQ te (aQ i)):=by
 intro ζ s σ H D I h;refine wpAny_Assign_Name (thn (he ζ s σ H _ I h) λv s1 ⟨y,H1,I1,r1,q1⟩=>?_) hs;exact SA I1 hN hi hx r1 (λs2 I2=>⟨_,H1,I2,q1⟩) hf
def tAug(i:Nat)(te:TE)(ti:TIp):TS:=λD σ H=>∃x,σ[i]?=some (some x)/\te σ H λy H1=>ti x y H1 λz H2=>D.nx (σ.set i (some z)) H2
theorem n9(hN:X.N.Nodup)(hi:X.N[i]?=some x)(hx:Loc X.env.scope x)(he:PE X e te)(ho:PIp X op ti)(hf:X.fn x=true∨X.env.scope.names.lookup x=some .local:=by first | exact .inl rfl | exact .inr rfl | assumption) :
  PS X (.AugAssign (.Name x pos') op e pos) (tAug i te ti):=by
 intro ζ s σ H D I h;obtain⟨v,e1,h⟩:=h;obtain⟨m,hn,hl⟩:=I.loc
 have vis:Vis X.env.scope x:=by rcases hx with k | k;exact .inl k;exact .inr (.inl k)
 obtain⟨u,r,l⟩:=hl i x v hi e1 vis;refine wpAny_AugAssign_Name ?_
 have go:Aq (Ad X.prog X.w) X.A (Co e X.env) (λw s₂=>Aq (Ad X.prog X.w) X.A (inplaceOp op u w) (λr s₃=>Aq (Ad X.prog X.w) X.A (qj X.env x r) (λ_=>SP X ζ D .next) X.xe s₃) X.xe s₂) X.xe s:=by
  refine thn (he ζ s σ H _ I h) λw s1 ⟨y,H1,I1,r1,q1⟩=>?_
  refine thn (ho ζ s1 σ H1 v y u w _ I1 r r1 q1) λz s2 ⟨zv,H2,I2,r2,q2⟩=>?_
  exact SA I2 hN hi hx r2 (λs3 I3=>⟨_,H2,I3,q2⟩) hf
 rcases l with⟨hk,hm⟩ | ⟨hk,c,hc,uv⟩
 ·exact iJ I.ok.kind hk hn hm go
 ·rcases hk with hk | hk
  ·exact lU I.ok.kind hk hc uv go
  ·rcases hx with k | k
   ·have:X.env.scope.names.lookup x=some .free:=hk
    rw[k]at this;cases this
   ·have:X.env.scope.names.lookup x=some .free:=hk
    rw[k]at this;cases this
def rW(to ti te:TE)(xt:V->V->Hp->VK->Prop)(My:TIp)(xu:tU):TS:=λD σ H=>to σ H λo H1=>ti σ H1 λi H2=>xt o i H2 λx H3=>te σ H3 λy H4=>My x y H4 λz H5=>xu o i z H5 λH6=>D.nx σ H6
def tf(X:Cx)(t:V->V->Hp->VK->Prop):Prop:=
 ∀(ζ:List (Ab×Obj)) (s:AS) (σ:St) (H:Hp) (o i:V) (ov iv:AJ) (Q:VK),Inv X ζ σ H s->RelV o ov->RelV i iv->t o i H Q ->
  Aq (Ad X.prog X.w) X.A (Ki ov iv) (EP X ζ σ Q) X.xe s
theorem jp(ho:PE X o to)(hi:PE X i ti)(hg:tf X xt)(he:PE X e te)(hp:PIp X op My)(hs:tZ X xu)
  (ha:∀ov iv new,augStore i ov iv new=(do X5 [new,ov,iv] (qO ov iv new);release [new,ov,iv] [];pure .next):=by intros;rfl):PS X (.AugAssign (.Subscript o i tpos) op e pos) (rW to ti te xt My xu):=by
 intro ζ s σ H D I h;refine wpAny_AugAssign_SubscriptAny (thn (ho ζ s σ H _ I h) λov s1 ⟨x1,H1,I1,r1,q1⟩=>?_) ha
 refine thn (hi ζ s1 σ H1 _ I1 q1) λiv s2 ⟨x2,H2,I2,r2,q2⟩=>?_
 refine thn (hg ζ s2 σ H2 x1 x2 ov iv _ I2 r1 r2 q2) λold s3 ⟨x3,H3,I3,r3,q3⟩=>?_
 refine thn (he ζ s3 σ H3 _ I3 q3) λv s4 ⟨x4,H4,I4,r4,q4⟩=>?_
 refine thn (hp ζ s4 σ H4 x3 x4 old v _ I4 r3 r4 q4) λnew s5 ⟨x5,H5,I5,r5,q5⟩=>?_
 exact thn (hs ζ s5 σ H5 x1 x2 x5 ov iv new _ I5 r1 r2 r5 q5) λ_ s6 ⟨H6,I6,q6⟩=>⟨σ,H6,I6,q6⟩
def ipI(f:Int->Int->Int):TIp:=λx y H Q=>∃i j,x=.int i/\y=.int j/\Q (.int (f i j)) H
theorem pJ:PIp X .Add (ipI λi j=>i+j):=by
 intro ζ s σ H x y v u Q I r1 r2 h;obtain⟨i,j,e1,e2,q⟩:=h;subst e1;subst e2;obtain⟨t,rfl⟩:=r1;obtain⟨t',rfl⟩:=r2;exact iadd_int ⟨.int _,H,I.tok _,⟨_,rfl⟩,q⟩
def nK(c:TT)(tb:TS):TS:=λD σ H=>∃W:Nat->St->Hp->Prop,(∃m,W m σ H)/\∀m σ H,W m σ H ->
 c σ H λb H1=>if b=true then ∃N:St->Hp->Prop,(∀σ' H',N σ' H'->∃m',m' < m/\W m' σ' H')/\tb { D with nx:=N,ct:=N,bk:=D.nx } σ H1 else D.nx σ H1
theorem eO(hp:Uz (Ad X.prog X.w) X.A X.env X.xe)(hc:PT X c tc)(hb:PSs X body tb):PS X (.While c body [] pos) (nK tc tb):=by
 intro ζ s σ H D I h;obtain⟨W,⟨m0,w0⟩,turn⟩:=h;refine wpAny_While (codeAny_whileLoop (λn s'=>∃σ' H',Inv X ζ σ' H' s'/\W n σ' H') ?_ m0 ⟨σ,H,I,w0⟩);rintro n s1 ⟨σ1,H1,I1,w1⟩;refine GD hp (thn (hc ζ s1 σ1 H1 _ I1 (turn n σ1 H1 w1)) λb s2 ⟨H2,I2,q2⟩=>?_)
 cases b with
 | true=>
  obtain⟨N,hN,q2⟩:=q2;rw[qX rfl];refine GD hp (thn (hb ζ s2 σ1 H2 _ I2 q2) λf s3 q3=>?_)
  cases f with
  | next=>
   obtain⟨σ3,H3,I3,n3⟩:=q3;obtain⟨m',hm,w3⟩:=hN σ3 H3 n3;exact⟨m',hm,σ3,H3,I3,w3⟩
  | cont=>
   obtain⟨σ3,H3,I3,n3⟩:=q3;obtain⟨m',hm,w3⟩:=hN σ3 H3 n3;exact⟨m',hm,σ3,H3,I3,w3⟩
  | brk=>exact q3
  | ret v=>exact q3
 | false=>
  rw[qY AK];exact Oa ⟨σ1,H2,I2,q2⟩
end
structure It where
 go:Nat->Hp->Prop
 yld:Nat->Hp->V->Hp->Prop
 stop:Nat->Hp->Prop
def OX(X:Cx)(ζ:List (Ab×Obj))(H:Hp)(b:Ab):Prop:=
 H b=none/\b≠X.env.locals/\b∉X.fs/\(b∈X.ex∨X.s₀.heap.objs.size<=b)/\(∀x c,X.env.cells.lookup x=some c->c≠b)/\∀p∈X.pn++ζ,p.1≠b
theorem Inv.fpOk(I:Inv X ζ σ H s)(hb:s.heap.objs.size<=b)(hn:H' b=none):OX X ζ H' b:=by
 refine⟨hn,FL (AV I.lt hb),I.nofs hb,.inr (Aw I.sz hb),λx c e z=>?_,λp hp z=>?_⟩
 ·obtain⟨v,q⟩:=I.cell x c e
  exact zX (AV q.lt (by rw[z];exact hb)) (EN _)
 ·exact zX (AV (Am (I.pin p hp).1) (by rw[z];exact hb)) (EN _)
structure UB(P:Bs)(w:CV)(K:AG)(tg:Expr)(J:It)(fp:List Ab)(it:Ab)(tn:Nat->DT->Prop):Prop where
 mem:it∈fp
 obj:∀i h,tn i h->∀b∈fp,∃o,h.get? b=some o/\∀v,o.data≠.cell v
 keep:∀i h h',tn i h->(∀b∈fp,∀o,h.get? b=some o->h'.get? b=some o)->tn i h'
 item:∀(X:Cx),X.prog=P->X.w=w->X.K=K->X.calm=true->∀(i:Nat) (ζ:List (Ab×Obj)) (s:AS) (σ:St) (H:Hp) (E:AJ->AS->Prop),Inv X ζ σ H s->(∀b∈fp,OX X ζ H b)->tn i s.heap->J.go i H ->
  Aq (Ad P w) X.A (Uu (.ref it)) (λr s1=>∃u,r=some u /\
   Aq (Ad P w) X.A (Oc tg (.ref it) u) (λ_ s2=>∃x H',Inv X ζ σ H' s2/\RelV x u/\J.yld i H x H'/\tn (i+1) s2.heap/\∀b∈fp,H' b=none) E s1) E s
 done:∀(X:Cx),X.prog=P->X.w=w->X.K=K->X.calm=true->∀(i:Nat) (ζ:List (Ab×Obj)) (s:AS) (σ:St) (H:Hp) (E:AJ->AS->Prop),Inv X ζ σ H s->(∀b∈fp,OX X ζ H b)->tn i s.heap->J.stop i H ->
  Aq (Ad P w) X.A (Uu (.ref it)) (λr s1=>r=none/\Inv X ζ σ H s1) E s
 self:∀(A:Cj) (i:Nat) (s:AS) (Q:AJ->AS->Prop) (E:AJ->AS->Prop),tn i s.heap->Q (.ref it) s->Aq (Ad P w) A (mO (.ref it)) Q E s
abbrev TI:=St->Hp->(It->Hp->Prop)->Prop
def PIE(X:Cx)(ζ:List (Ab×Obj))(σ:St)(tg:Expr)(R:It->Hp->Prop)(zz:AJ)(s2:AS):Prop:=
 ∃(it:Ab) (fp:List Ab) (tn:Nat->DT->Prop) (J:It) (H':Hp),zz=.ref it/\Inv X ζ σ H' s2/\UB X.prog X.w X.K tg J fp it tn/\tn 0 s2.heap/\(∀b∈fp,OX X ζ H' b)/\R J H'
def PI(X:Cx)(tg iter:Expr)(wi:TI):Prop:=
 ∀(ζ:List (Ab×Obj)) (s:AS) (σ:St) (H:Hp) (R:It->Hp->Prop),Inv X ζ σ H s->wi σ H R ->
  Aq (Ad X.prog X.w) X.A (Co iter X.env) (λv s1=>Aq (Ad X.prog X.w) X.A (mO v) (PIE X ζ σ tg R) X.xe s1) X.xe s
theorem Xq(ho:s.heap.get? it=some o)(hc:o.cls=.type n)(hd:o.data=.fields vs)
  (hn:["enumerate", "zip", "dict_itemiterator", "dict_reverseitemiterator", "odict_iterator", "itertools.zip_longest", "itertools.pairwise"].contains n=false) (hQ:Q () s):Aq M A (Oc tg (.ref it) u) Q E s:=by
 unfold Oc
 cases tg <;> first
  | exact AO hQ
  | (cases u <;> first
    | exact AO hQ
    | (refine AC (wpAny_load ho ?_)
       rw[hc,hd];show Aq M A (if (["enumerate", "zip", "dict_itemiterator", "dict_reverseitemiterator", "odict_iterator", "itertools.zip_longest", "itertools.pairwise"].contains n&&vs[0]?==some (Pl _))=true then _ else _) Q E s;rw[qY (by intro h;rw[hn,Bool.false_and]at h;cases h)]
       exact AO hQ))
def Itl(K:AG)(a:Ab):It:=
 ⟨λi H=>∃xs x,SqL K H a xs/\xs[i]?=some x,λi H x H'=>H'=H/\∀xs,SqL K H a xs->xs[i]?=some x,λi H=>∃xs,SqL K H a xs/\xs.length<=i⟩
def Itt(K:AG)(a:Ab):It:=
 ⟨λi H=>∃xs x,SqT K H a xs/\xs[i]?=some x,λi H x H'=>H'=H/\∀xs,SqT K H a xs->xs[i]?=some x,λi H=>∃xs,SqT K H a xs/\xs.length<=i⟩
def Itr(lo:Int)(n:Nat):It:=⟨λi _=>i < n,λi H x H'=>H'=H/\x=.int (lo+i),λi _=>n<=i⟩
theorem bK{P}{w}{K}{tg}(a it:Ab):UB P w K tg (Itl K a) [it] it (λi h=>h.IsListIter it a i) where
 mem:=by simp
 obj:=λi h st b hb=>by
  have e:b=it:=by simpa using hb
  subst e;obtain⟨o,e,c,d⟩:=st;exact⟨o,e,λv z=>by rw[d]at z;cases z⟩
 keep:=λi h h' st k=>st.at λo e=>k it (by simp) o e
 item:=by
  intro X hP hw hK hc i ζ s σ H E I hf st hg;subst hP hw hK;obtain⟨xs,x,hq,hx⟩:=hg;obtain⟨i',rv,p,hz⟩:=I.list hq;obtain⟨u,hu,ru⟩:=rv.get hx;obtain⟨f0,f1,f2,f3,f4,f5⟩:=hf it (by simp)
  refine wpAny_pyNext_list_item st p.isList (x:=u) (by simpa using hu) λh' st' sb=>?_
  have I1:Inv X ζ σ H { s with heap:=h' }:=I.turned (t':=s.toks) (λb o hb e=>(sb.2 b hb).trans e) f0 f1 f3 f4 f5;obtain⟨o,e,c,d⟩:=id st';exact⟨u,rfl,Xq (s:={ s with heap:=h' }) e c d (by decide) ⟨x,H,I1,ru,⟨rfl,λys hy=>by rw[I.list_inj hy hq];exact hx⟩,st',λb hb=>(hf b hb).1⟩⟩
 done:=by
  intro X hP hw hK hc i ζ s σ H E I hf st hg;subst hP hw hK;obtain⟨xs,hq,hx⟩:=hg;obtain⟨i',rv,p,hz⟩:=I.list hq;obtain⟨f0,f1,f2,f3,f4,f5⟩:=hf it (by simp);have hl:=rv.length
  exact wpAny_pyNext_list_end (I.ok.hd hc) st p.isList (by simp;lia) λh' eb=>⟨rfl,I.turned (t':=s.toks) (λb o hb e=>eb b o hb e) f0 f1 f3 f4 f5⟩
 self:=λ_ _ _ _ _ st h=>wpAny_pyIter_listiter st h
theorem YY{P}{w}{K}{tg}(a it:Ab):UB P w K tg (Itt K a) [it] it (λi h=>h.IsTupleIter it a i) where
 mem:=by simp
 obj:=λi h st b hb=>by
  have e:b=it:=by simpa using hb
  subst e;obtain⟨o,e,c,d⟩:=st;exact⟨o,e,λv z=>by rw[d]at z;cases z⟩
 keep:=λi h h' st k=>st.at λo e=>k it (by simp) o e
 item:=by
  intro X hP hw hK hc i ζ s σ H E I hf st hg;subst hP hw hK;obtain⟨xs,x,hq,hx⟩:=hg;obtain⟨i',rv,p,hz⟩:=I.tuple hq;obtain⟨u,hu,ru⟩:=rv.get hx;obtain⟨f0,f1,f2,f3,f4,f5⟩:=hf it (by simp)
  refine wpAny_pyNext_tuple_item st (show s.heap.IsTuple a i'.toArray from p) (x:=u) (by simpa using hu) λh' st' sb=>?_
  have I1:Inv X ζ σ H { s with heap:=h' }:=I.turned (t':=s.toks) (λb o hb e=>(sb.2 b hb).trans e) f0 f1 f3 f4 f5;obtain⟨o,e,c,d⟩:=id st';exact⟨u,rfl,Xq (s:={ s with heap:=h' }) e c d (by decide) ⟨x,H,I1,ru,⟨rfl,λys hy=>by rw[I.tuple_inj hy hq];exact hx⟩,st',λb hb=>(hf b hb).1⟩⟩
 done:=by
  intro X hP hw hK hc i ζ s σ H E I hf st hg;subst hP hw hK;obtain⟨xs,hq,hx⟩:=hg;obtain⟨i',rv,p,hz⟩:=I.tuple hq;obtain⟨f0,f1,f2,f3,f4,f5⟩:=hf it (by simp);have hl:=rv.length
  exact wpAny_pyNext_tuple_end (I.ok.hd hc) st (show s.heap.IsTuple a i'.toArray from p) (by simp;lia) λh' eb=>⟨rfl,I.turned (t':=s.toks) (λb o hb e=>eb b o hb e) f0 f1 f3 f4 f5⟩
 self:=λ_ _ _ _ _ st h=>wpAny_pyIter_tupleiter st h
theorem YZ{P}{w}{K}{tg}(it:Ab)(lo:Int)(n:Nat):UB P w K tg (Itr lo n) [it] it (λi h=>IsRangeIter h it (lo+(i:Nat) * 1) ((n:Int) - (i:Nat)) 1) where
 mem:=by simp
 obj:=λi h st b hb=>by
  have e:b=it:=by simpa using hb
  subst e
  exact⟨_,st,λv z=>by
   have z':Zf _=iF v:=z
   cases z'⟩
 keep:=λi h h' st k=>k it (by simp) _ st
 item:=by
  intro X hP hw hK hc i ζ s σ H E I hf st hg;subst hP hw hK;obtain⟨f0,f1,f2,f3,f4,f5⟩:=hf it (by simp);have W:=Walks.range (prog:=X.prog) (w:=X.w) (I.ok.hd hc) it lo 1 n
  refine W.item i s _ _ hg st λv h' tk hv st' kk=>?_
  obtain⟨t,rfl⟩:=hv;have I1:Inv X ζ σ H { s with heap:=h',toks:=tk }:=I.turned (λb o hb e=>kk b o (by simpa using hb) e) f0 f1 f3 f4 f5;refine⟨_,rfl,Xq (s:={ s with heap:=h',toks:=tk }) (n:="range_iterator") st' rfl rfl (by decide) ⟨.int (lo+i),H,I1,⟨t,?_⟩,⟨rfl,rfl⟩,st',λb hb=>(hf b hb).1⟩⟩;rw[Int.mul_one]
 done:=by
  intro X hP hw hK hc i ζ s σ H E I hf st hg;subst hP hw hK;obtain⟨f0,f1,f2,f3,f4,f5⟩:=hf it (by simp)
  exact wpAny_pyNext_range_end (I.ok.hd hc) st (by have:n<=i:=hg;lia) λh' eb=>⟨rfl,I.turned (t':=s.toks) (λb o hb e=>eb b o hb e) f0 f1 f3 f4 f5⟩
 self:=λ_ _ _ _ _ st h=>wpAny_pyIter_rangeiter st h
section
variable{X:Cx}
def tE(K:AG)(tl:TE):TI:=λσ H R=>tl σ H λx H1=>∃a,x=.ref a/\(∃xs,SqL K H1 a xs)/\R (Itl K a) H1
def iTup(K:AG)(tl:TE):TI:=λσ H R=>tl σ H λx H1=>∃a,x=.ref a/\(∃xs,SqT K H1 a xs)/\R (Itt K a) H1
theorem jt{l}{tl}(hl:PE X l tl):PI X tg l (tE X.K tl):=by
 intro ζ s σ H R I h
 refine thn (hl ζ s σ H _ I h) λv s1 ⟨x,H1,I1,r1,q1⟩=>?_
 obtain⟨a,e,⟨xs,hq⟩,q⟩:=q1;subst e;cases r1;obtain⟨i',rv,p,hz⟩:=I1.list hq;refine wpAny_pyIter_list p.isList ?_;refine⟨s1.heap.objs.size,[s1.heap.objs.size],_,_,H1,rfl,I1.kept (t':=s1.toks) λb o e=>AT _ e,bK a _,⟨_,Ao _ rfl,rfl,rfl⟩,λb hb=>?_,q⟩
 have e:b=s1.heap.objs.size:=by simpa using hb
 subst e;exact I1.fpOk (AL _) (I1.hok.fresh (AL _))
theorem oB{l}{tl}(hl:PE X l tl):PI X tg l (iTup X.K tl):=by
 intro ζ s σ H R I h
 refine thn (hl ζ s σ H _ I h) λv s1 ⟨x,H1,I1,r1,q1⟩=>?_
 obtain⟨a,e,⟨xs,hq⟩,q⟩:=q1;subst e;cases r1;obtain⟨i',rv,p,hz⟩:=I1.tuple hq;refine K9 (show s1.heap.IsTuple a i'.toArray from p) ?_;refine⟨s1.heap.objs.size,[s1.heap.objs.size],_,_,H1,rfl,I1.kept (t':=s1.toks) λb o e=>AT _ e,YY a _,⟨_,Ao _ rfl,rfl,rfl⟩,λb hb=>?_,q⟩
 have e:b=s1.heap.objs.size:=by simpa using hb
 subst e;exact I1.fpOk (AL _) (I1.hok.fresh (AL _))
theorem XS{ζ}{σ}{H}{s}{R}{E}{lo hi}{t u v}{tk}(I:Inv X ζ σ H s)(h1:-(2 ^ 62)<=lo)(h2:lo < 2 ^ 62)(h3:-(2 ^ 62)<=hi)(h4:hi < 2 ^ 62)
  (q:R (Itr lo (hi - lo).toNat) H):Aq (Ad X.prog X.w) X.A (mO (.ref s.heap.objs.size)) (PIE X ζ σ tg R) E { s with heap:=s.heap.push { cls:=.type "range",data:=.fields #[.int lo t,.int hi u,.int 1 v] },toks:=tk }:=by
 refine wpAny_pyIter_range (IsRange.new ..) (small_one h1 h2 h3 h4) ?_
 have I1:Inv X ζ σ H { s with heap:=s.heap.push { cls:=.type "range",data:=.fields #[.int lo t,.int hi u,.int 1 v] },toks:=tk }:=I.kept λb o e=>AT _ e
 refine⟨(s.heap.push { cls:=.type "range",data:=.fields #[.int lo t,.int hi u,.int 1 v] }).objs.size,[(s.heap.push { cls:=.type "range",data:=.fields #[.int lo t,.int hi u,.int 1 v] }).objs.size],_,_,H,rfl,
  I1.kept (t':=tk) λb o e=>AT _ e,YZ _ lo (hi - lo).toNat,?_,λb hb=>?_,q⟩
 ·have e1:lo+((0:Nat):Int) * 1=lo:=by simp
  have e2:(((hi - lo).toNat:Nat):Int) - ((0:Nat):Int)=qw lo hi 1:=by rw[rangeSize_one];split <;> lia
  show IsRangeIter _ _ (lo+((0:Nat):Int) * 1) ((((hi - lo).toNat:Nat):Int) - ((0:Nat):Int)) 1;rw[e1,e2];exact Ao _ rfl
 ·have e:b=(s.heap.push { cls:=.type "range",data:=.fields #[.int lo t,.int hi u,.int 1 v] }).objs.size:=by simpa using hb
  subst e;exact I1.fpOk (AL _) (I1.hok.fresh (AL _))
def sx(ta:TA):TI:=λσ H R=>ta σ H λvs H1=>∃j:Int,vs=[.int j]/\-(2 ^ 62)<=j/\j < 2 ^ 62/\R (Itr 0 j.toNat) H1
def sw(ta:TA):TI:=λσ H R=>ta σ H λvs H1=>∃i j:Int,vs=[.int i,.int j]/\(-(2 ^ 62)<=i/\i < 2 ^ 62/\-(2 ^ 62)<=j/\j < 2 ^ 62)/\R (Itr i (j - i).toNat) H1
theorem bo{a}{ta}{p pos}(hg:Gl X "range") (hm:X.mg "range" = none) (ha:PA X [a] ta) (hs:Ag [a] X.env=[(false,Co a X.env)]:=by rfl):PI X tg (.Call (.Name "range" p) [a] [] pos) (sx ta):=by
 intro ζ s σ H R I h;refine Call_ (QI I hg hm boot_range (Dq (thn (ha pos ζ s σ H _ I h) λus s1 ⟨vs,H1,I1,r1,q1⟩=>?_) hs rfl));obtain⟨j,e,q1,q2,q⟩:=q1;subst e
 cases r1 with
 | cons r rr=>
  cases rr;obtain⟨t,rfl⟩:=r;exact call_range_1 (XS I1 (by lia) (by lia) q1 q2 (by simpa using q))
theorem bn(hg:Gl X "range") (hm:X.mg "range" = none) (ha:PA X [a,b] ta) (hs:Ag [a,b] X.env=[(false,Co a X.env),(false,Co b X.env)]:=by rfl) (uS:Ag [b] X.env=[(false,Co b X.env)]:=by rfl) :
  PI X tg (.Call (.Name "range" p) [a,b] [] pos) (sw ta):=by
 intro ζ s σ H R I h;refine Call_ (QI I hg hm boot_range (Dq (thn (ha pos ζ s σ H _ I h) λus s1 ⟨vs,H1,I1,r1,q1⟩=>?_) (by rw[hs,uS]) (by rw[uS];rfl)));obtain⟨i,j,e,⟨q1,q2,q3,q4⟩,q⟩:=q1;subst e
 cases r1 with
 | cons r rr=>
  cases rr with
  | cons r' rr=>
   cases rr;obtain⟨t,rfl⟩:=r;obtain⟨t',rfl⟩:=r';exact call_range_2 (XS I1 q1 q2 q3 q4 q)
def tFor(wi:TI)(g:TG)(tb:TS):TS:=λD σ H=>wi σ H λJ H1=>∃W:Nat->Nat->St->Hp->Prop,(∃m,W 0 m σ H1)/\∀i m σ H,W i m σ H ->
 (J.stop i H/\D.nx σ H)∨(J.go i H/\∃N:St->Hp->Prop,(∀σ' H',N σ' H'->∃m',m' < m/\W (i+1) m' σ' H')/\∀x H',J.yld i H x H'->g x σ H' λσ2 H2=>tb { D with nx:=N,ct:=N,bk:=D.nx } σ2 H2)
def SQ(fp:List Ab)(h:DT):List (Ab×Obj):=fp.filterMap λb=>(h.get? b).map λo=>(b,o)
theorem Li(hb:b∈fp)(e:h.get? b=some o):(b,o)∈SQ fp h:=cm.mpr ⟨b,hb,by rw[e];rfl⟩
theorem bu(hp:p∈SQ fp h):p.1∈fp/\h.get? p.1=some p.2:=by
 obtain⟨b,hb,e⟩:=cm.mp hp
 cases q:h.get? b with
 | none=>rw[q]at e;cases e
 | some o=>
  rw[q]at e;have e':(b,o)=p:=By e;subst e';exact⟨hb,q⟩
theorem Inv.pinned(I:Inv X ζ σ H s)(hf:∀b∈fp,OX X ζ H b)(ho:∀b∈fp,∃o,s.heap.get? b=some o/\∀v,o.data≠.cell v):Inv X (ζ++SQ fp s.heap) σ H s:=
 I.pins_of λp hp=>(A9.mp hp).elim (λz=>I.pin p (BY _ z)) λz=>by
  obtain⟨hb,e⟩:=bu z;obtain⟨f0,f1,f2,_⟩:=hf p.1 hb;obtain⟨o,e',d⟩:=ho p.1 hb;rw[e]at e';cases e';exact⟨e,f0,f1,f2,d⟩
theorem Inv.unpinned(I:Inv X (ζ++pl) σ H s):Inv X ζ σ H s:=I.pins_of λp hp=>I.pin p (BY _ (BM _ hp))
theorem nz(hp:Uz (Ad X.prog X.w) X.A X.env X.xe)(hc:X.calm=true)(hi:PI X tg iter wi)(hg:PG X tg g)(hb:PSs X body tb)
  (hs:∀x,Gb iter X.env x=pure x:=by intro _;rfl):PS X (.For tg iter body [] pos) (tFor wi g tb):=by
 intro ζ s σ H D I h;refine wpAny_For (thn (hi ζ s σ H _ I h) λv s1 h1=>thn h1 λzz s2 h2=>?_) hs;obtain⟨it,fp,tn,J,H2,e,I2,T,j',f2,W,⟨m0,w0⟩,turn⟩:=h2;subst e
 have vq:∀{H':Hp},(∀b∈fp,H' b=none)->∀b∈fp,OX X ζ H' b:=λhn b hb=>⟨hn b hb,(f2 b hb).2⟩
 refine codeAny_forLoop_any (λn s'=>∃i σ' H',Inv X ζ σ' H' s'/\tn i s'.heap/\(∀b∈fp,H' b=none)/\W i n σ' H') ?_ m0 ⟨0,σ,H2,I2,j',λb hb=>(f2 b hb).1,w0⟩;rintro n s3 ⟨i,σ3,H3,I3,vb,fr3,w3⟩
 rcases turn i n σ3 H3 w3 with⟨stop,qn⟩ | ⟨go,N,hN,step⟩
 ·refine GD hp (thn (T.done X rfl rfl rfl hc i ζ s3 σ3 H3 X.xe I3 (vq fr3) vb stop) λr s4 ⟨hr,I4⟩=>?_)
  subst hr;exact Oa ⟨σ3,H3,I4,qn⟩
 ·refine GD hp (thn (T.item X rfl rfl rfl hc i ζ s3 σ3 H3 X.xe I3 (vq fr3) vb go) λr s4 ⟨u,hr,h4⟩=>?_)
  subst hr;refine GD hp (thn h4 λ_ s5 ⟨x,H5,I5,r5,y5,wg,fr5⟩=>?_);have M':=I5.pinned (vq fr5) (T.obj _ _ wg);refine GD hp (thn (hg _ s5 σ3 H5 x u _ M' r5 (step x H5 y5)) λ_ s6 ⟨σ6,H6,I6,q6⟩=>?_);refine GD hp (thn (hb _ s6 σ6 H6 _ I6 q6) λf s7 q7=>?_)
  have qR:∀{σ7:St} {H7:Hp},Inv X (ζ++SQ fp s5.heap) σ7 H7 s7->N σ7 H7->∃m,m < n/\∃i σ' H',Inv X ζ σ' H' s7/\tn i s7.heap/\(∀b∈fp,H' b=none)/\W i m σ' H':=λ{σ7 H7} I7 n7=>by
   obtain⟨m',hm,w7⟩:=hN σ7 H7 n7;refine⟨m',hm,i+1,σ7,H7,I7.unpinned,T.keep _ _ _ wg λb hb o e=>(I7.pin (b,o) (BY _ (BY _ (Li hb e)))).1,λb hb=>?_,w7⟩;obtain⟨o,e,d⟩:=T.obj _ _ wg b hb;exact(I7.pin (b,o) (BY _ (BY _ (Li hb e)))).2.1
  cases f with
  | next=>obtain⟨σ7,H7,I7,n7⟩:=q7;exact qR I7 n7
  | cont=>obtain⟨σ7,H7,I7,n7⟩:=q7;exact qR I7 n7
  | brk=>obtain⟨σ7,H7,I7,q7⟩:=q7;exact⟨σ7,H7,I7.unpinned,q7⟩
  | ret v=>obtain⟨x7,σ7,H7,I7,r7,q7⟩:=q7;exact⟨x7,σ7,H7,I7.unpinned,r7,q7⟩
end
abbrev R2:=V->V->Hp->VK->Prop
def OpR(X:Cx)(f:AJ->AJ->Sem AJ)(r:R2):Prop:=
 ∀(ζ:List (Ab×Obj)) (s:AS) (σ:St) (H:Hp) (x y:V) (v u:AJ) (Q:VK),Inv X ζ σ H s->RelV x v->RelV y u->r x y H Q ->
  Aq (Ad X.prog X.w) X.A (f v u) (EP X ζ σ Q) X.xe s
def UnR(X:Cx)(f:AJ->Sem AJ)(r:V->Hp->VK->Prop):Prop:=
 ∀(ζ:List (Ab×Obj)) (s:AS) (σ:St) (H:Hp) (x:V) (v:AJ) (Q:VK),Inv X ζ σ H s->RelV x v->r x H Q ->
  Aq (Ad X.prog X.w) X.A (f v) (EP X ζ σ Q) X.xe s
def K5(X:Cx)(f:AJ)(r:List V->Hp->VK->Prop):Prop:=
 ∀(ζ:List (Ab×Obj)) (s:AS) (σ:St) (H:Hp) (xs:List V) (us:List AJ) (Q:VK),Inv X ζ σ H s->B0 xs us->r xs H Q ->
  Aq (Ad X.prog X.w) X.A (call f us) (EP X ζ σ Q) X.xe s
def TruR(X:Cx)(r:V->Hp->(Bool->Hp->Prop)->Prop):Prop:=
 ∀(ζ:List (Ab×Obj)) (s:AS) (σ:St) (H:Hp) (x:V) (v:AJ) (Q:Bool->Hp->Prop),Inv X ζ σ H s->RelV x v->r x H Q ->
  Aq (Ad X.prog X.w) X.A (truthy v) (TP X ζ σ Q) X.xe s
def tOp(r:R2)(ta tb:TE):TE:=λσ H Q=>ta σ H λx H1=>tb σ H1 λy H2=>r x y H2 Q
def tUn(r:V->Hp->VK->Prop)(ta:TE):TE:=λσ H Q=>ta σ H λx H1=>r x H1 Q
def rI(C:Int->Int->Prop)(g:Int->Int->V):R2:=λx y H Q=>∃i j,x=.int i/\y=.int j/\C i j/\Q (g i j) H
def rI0(g:Int->Int->V):R2:=λx y H Q=>∃i j,x=.int i/\y=.int j/\Q (g i j) H
def rU(g:Int->V):V->Hp->VK->Prop:=λx H Q=>∃i,x=.int i/\Q (g i) H
section
variable{X:Cx}{a b:Expr}{ta tb:TE}{pos:Pos}
theorem qD(ha:PE X a ta)(hb:PE X b tb){ζ:List (Ab×Obj)}{s:AS}{σ:St}{H:Hp}{R:V->V->Hp->Prop}(I:Inv X ζ σ H s)
  (h:ta σ H λx H1=>tb σ H1 λy H2=>R x y H2) {Q:AJ->AS->Prop} {f:AJ->AJ->Sem AJ}
  (hf:∀v u s2 x y H2,Inv X ζ σ H2 s2->RelV x v->RelV y u->R x y H2->Aq (Ad X.prog X.w) X.A (f v u) Q X.xe s2) :
  Aq (Ad X.prog X.w) X.A (Co a X.env) (λv s₁=>Aq (Ad X.prog X.w) X.A (Co b X.env) (λu s₂=>Aq (Ad X.prog X.w) X.A (f v u) Q X.xe s₂) X.xe s₁) X.xe s:=by
 refine thn (ha ζ s σ H _ I h) λv s1 ⟨x,H1,I1,r1,q1⟩=>?_
 refine thn (hb ζ s1 σ H1 _ I1 q1) λu s2 ⟨y,H2,I2,r2,q2⟩=>?_
 exact hf v u s2 x y H2 I2 r1 r2 q2
theorem sG{op:Operator}{r:R2}(ho:OpR X (DR op) r)(ha:PE X a ta)(hb:PE X b tb):PE X (.BinOp a op b pos) (tOp r ta tb):=by
 intro ζ s σ H Q I h;exact wpAny_BinOp (qD ha hb I h λv u s2 x y H2 I2 rx ry q=>ho ζ s2 σ H2 x y v u Q I2 rx ry q)
theorem sD(ho:UnR X (unaryOp op) r)(ha:PE X a ta):PE X (.UnaryOp op a pos) (tUn r ta):=by
 intro ζ s σ H Q I h;exact UnaryOp_ (thn (ha ζ s σ H _ I h) λv s1 ⟨x,H1,I1,r1,q1⟩=>ho ζ s1 σ H1 x v Q I1 r1 q1)
theorem opI{f:AJ->AJ->Sem AJ}{C:Int->Int->Prop}{g:Int->Int->Int}
  (rule:∀(i j:Int) (t u:Tok) (s:AS) (Q:AJ->AS->Prop) (E:AJ->AS->Prop),C i j->Q (.int (g i j) s.toks) { s with toks:=s.toks+1 }->Aq (Ad X.prog X.w) X.A (f (.int i t) (.int j u)) Q E s) :
  OpR X f (rI C λi j=>.int (g i j)):=by
 intro ζ s σ H x y v u Q I rx ry h;obtain⟨i,j,rfl,rfl,hc,q⟩:=h;obtain⟨t,rfl⟩:=rx;obtain⟨t',rfl⟩:=ry;exact rule i j t t' s _ _ hc ⟨.int (g i j),H,I.tok _,⟨_,rfl⟩,q⟩
theorem oi{f:AJ->AJ->Sem AJ}{g:Int->Int->Int}
  (rule:∀(i j:Int) (t u:Tok) (s:AS) (Q:AJ->AS->Prop) (E:AJ->AS->Prop),Q (.int (g i j) s.toks) { s with toks:=s.toks+1 }->Aq (Ad X.prog X.w) X.A (f (.int i t) (.int j u)) Q E s) :
  OpR X f (rI0 λi j=>.int (g i j)):=by
 intro ζ s σ H x y v u Q I rx ry h;obtain⟨i,j,rfl,rfl,q⟩:=h;obtain⟨t,rfl⟩:=rx;obtain⟨t',rfl⟩:=ry;exact rule i j t t' s _ _ ⟨.int (g i j),H,I.tok _,⟨_,rfl⟩,q⟩
theorem kE{f:AJ->AJ->Sem AJ}{g:Int->Int->Bool}
  (rule:∀(i j:Int) (t u:Tok) (s:AS) (Q:AJ->AS->Prop) (E:AJ->AS->Prop),Q (.bool (g i j)) s->Aq (Ad X.prog X.w) X.A (f (.int i t) (.int j u)) Q E s) :
  OpR X f (rI0 λi j=>.bl (g i j)):=by
 intro ζ s σ H x y v u Q I rx ry h;obtain⟨i,j,rfl,rfl,q⟩:=h;obtain⟨t,rfl⟩:=rx;obtain⟨t',rfl⟩:=ry;exact rule i j t t' s _ _ ⟨.bl (g i j),H,I,rfl,q⟩
def hZ(i j:Int):Prop:=0 < j/\j < 1073741824
def hX(i j:Int):Prop:=0<=j/\j<=1000000/\i.natAbs < 2 ^ 64
def cb(i j:Int):Prop:=(-(2 ^ 64) < i/\i < 2 ^ 64)∨(-(2 ^ 64) < j/\j < 2 ^ 64)
theorem cb.ok(h:cb i j):IntMulOk i j:=by
 rcases h with⟨h1,h2⟩ | ⟨h1,h2⟩
 ·exact .of_left (intBits_le_64 h1 h2)
 ·exact .of_right (intBits_le_64 h1 h2)
theorem YX(k:Nat):(0:Int)<=2 ^ k:=by
 rw[two_pow_cast];exact KI _
theorem oh:OpR X (DR .Add) (rI0 λi j=>.int (i+j)):=oi λ_ _ _ _ _ _ _ q=>add_int q
theorem oU:OpR X (DR .Sub) (rI0 λi j=>.int (i - j)):=oi λ_ _ _ _ _ _ _ q=>sub_int q
theorem oX:OpR X (DR .Mult) (rI cb λi j=>.int (i * j)):=opI λ_ _ _ _ _ _ _ hc q=>mul_int q hc.ok
theorem kB:OpR X (DR .FloorDiv) (rI hZ λi j=>.int (i / j)):=opI λi j _ _ _ _ _ hc q=>by
 have h1:(0:Int) < j:=hc.1;have h2:j < 1073741824:=hc.2;exact floordiv_int (by lia) (by rw[VC i (by lia)];exact q) (.inl (PyProof.noPylong_small (by omega)))
theorem oY:OpR X (DR .Mod) (rI (λ_ j=>0 < j) λi j=>.int (i % j)):=opI λi j _ _ _ _ _ hc q=>by
 have h1:(0:Int) < j:=hc;exact mod_int' (by lia) (by rw[Int.fmod_eq_emod_of_nonneg i (by lia)];exact q)
theorem oW:OpR X (DR .LShift) (rI hX λi j=>.int (i * 2 ^ j.toNat)):=opI λ_ _ _ _ _ _ _ hc q=>lshift_int_small hc.1 hc.2.1 hc.2.2 q
theorem oV:OpR X (DR .RShift) (rI (λ_ j=>0<=j) λi j=>.int (i / 2 ^ j.toNat)):=opI λi j _ _ _ _ _ hc q=>
 rshift_int hc (by rw[VC i (YX _)];exact q)
theorem og:OpR X (DR .BitAnd) (rI0 λi j=>.int (Bh i j)):=oi λ_ _ _ _ _ _ _ q=>and_int q
theorem unI{f:AJ->Sem AJ}{g:Int->Int}
  (rule:∀(i:Int) (t:Tok) (s:AS) (Q:AJ->AS->Prop) (E:AJ->AS->Prop),Q (.int (g i) s.toks) { s with toks:=s.toks+1 }->Aq (Ad X.prog X.w) X.A (f (.int i t)) Q E s) :
  UnR X f (rU λi=>.int (g i)):=by
 intro ζ s σ H x v Q I rx h;obtain⟨i,rfl,q⟩:=h;obtain⟨t,rfl⟩:=rx;exact rule i t s _ _ ⟨.int (g i),H,I.tok _,⟨_,rfl⟩,q⟩
theorem nG:UnR X (unaryOp .USub) (rU λi=>.int (-i)):=unI λ_ _ _ _ _ q=>neg_int q
end
section
variable{X:Cx}{a b c:Expr}{ta tb tc:TE}{pos:Pos}
theorem sK:OpR X (Ch .Lt) (rI0 λi j=>.bl (decide (i < j))):=kE λ_ _ _ _ _ _ _ q=>lt_int q
theorem sL:OpR X (Ch .LtE) (rI0 λi j=>.bl (decide (i<=j))):=kE λ_ _ _ _ _ _ _ q=>le_int q
theorem sM:OpR X (Ch .Gt) (rI0 λi j=>.bl (decide (j < i))):=kE λ_ _ _ _ _ _ _ q=>gt_int q
theorem sO:OpR X (Ch .GtE) (rI0 λi j=>.bl (decide (j<=i))):=kE λ_ _ _ _ _ _ _ q=>ge_int q
theorem OpR.or(h:OpR X f r)(h':OpR X f r'):OpR X f (λx y H Q=>r x y H Q∨r' x y H Q):=by
 intro ζ s σ H x y v u Q I rx ry q
 rcases q with q | q
 ·exact h ζ s σ H x y v u Q I rx ry q
 ·exact h' ζ s σ H x y v u Q I rx ry q
theorem Eb(b:Expr)(h:op≠.In:=by decide)(h2:op≠.NotIn:=by decide):Cy op b=false:=by
 have e1:(op==CmpOp.In)=false:=by cases op <;> first | rfl | exact zX rfl h
 have e2:(op==CmpOp.NotIn)=false:=by cases op <;> first | rfl | exact zX rfl h2
 cases b <;> simp[Cy,e1,e2]
theorem j6{op:CmpOp}{r:R2}(ho:OpR X (Ch op) r)(ha:PE X a ta)(hb:PE X b tb)(hm:Cy op b=false):PE X (.Compare a [op] [b] pos) (tOp r ta tb):=by
 intro ζ s σ H Q I h;exact wpAny_Compare1 (qD ha hb I h λv u s2 x y H2 I2 rx ry q=>ho ζ s2 σ H2 x y v u Q I2 rx ry q) hm
def ll(t:TE):TT:=λσ H Q=>t σ H λx H'=>∃k,x=.bl k/\Q k H'
theorem jj(ho:OpR X (Ch op) r)(ha:PE X a ta)(hb:PE X b tb)(hm:Cy op b=false):PT X (.Compare a [op] [b] pos) (ll (tOp r ta tb)):=by
 intro ζ s σ H Q I h
 refine iA (thn (ha ζ s σ H _ I h) λv s1 ⟨x,H1,I1,r1,q1⟩=>thn (hb ζ s1 σ H1 _ I1 q1) λu s2 ⟨y,H2,I2,r2,q2⟩=>
  thn (ho ζ s2 σ H2 x y v u _ I2 r1 r2 q2) λc s3 ⟨z,H3,I3,r3,k,e,q3⟩=>?_) hm
 subst e;cases r3;exact EE ⟨H3,I3,q3⟩
def dm(r r':R2)(ta tb tc:TE):TE:=λσ H Q=>ta σ H λx H1=>tb σ H1 λy H2=>r x y H2 λz H3=>∃k,z=.bl k /\
 (if k=true then tc σ H3 λw' H4=>r' y w' H4 Q else Q (.bl false) H3)
theorem eM(ho:OpR X (Ch op) r)(vS:OpR X (Ch op') r')(ha:PE X a ta)(hb:PE X b tb)(hc:PE X c tc)
  (hm:lastMarks [op,op'] [b,c]=false:=by with_unfolding_all rfl):PT X (.Compare a [op,op'] [b,c] pos) (ll (dm r r' ta tb tc)):=by
 intro ζ s σ H Q I h
 refine isTrue_chain (thn (ha ζ s σ H _ I h) λv s1 ⟨x,H1,I1,r1,q1⟩=>test_link (thn (hb ζ s1 σ H1 _ I1 q1) λu s2 ⟨y,H2,I2,r2,q2⟩=>
  thn (ho ζ s2 σ H2 x y v u _ I2 r1 r2 q2) λd s3 ⟨z,H3,I3,r3,k,e,q3⟩=>?_)) hm
 subst e;cases r3;refine EE ?_
 cases k with
 | false=>
  obtain⟨k',e',q'⟩:=q3;cases e';exact ite_ff ⟨H3,I3,q'⟩
 | true=>
  refine ite_tt (test_last (thn (hc ζ s3 σ H3 _ I3 q3) λw' s4 ⟨z',H4,I4,r4,q4⟩=>thn (vS ζ s4 σ H4 y z' u w' _ I4 r2 r4 q4) λd' s5 ⟨z2,H5,I5,r5,k2,e2,q5⟩=>?_));subst e2;cases r5;exact EE ⟨H5,I5,q5⟩
def qG(K:AG)(x:V)(H:Hp)(k:Bool):Prop:=
 match x with
 | .non=>k=false
 | .bl b=>k=b
 | .int i=>k=(i != 0)
 | .str y=>y.length<=sizeLine/\k=((y.length:Int) != 0)
 | .byt y=>y.size<=sizeLine/\k=((y.size:Int) != 0)
 | .ref p=>(∃xs,SqL K H p xs/\k = !xs.isEmpty)∨(∃xs,SqT K H p xs/\k = !xs.isEmpty)∨∃f',H p=some (.dK f')/\k = !f'.isEmpty
 | _=>False
theorem ZC{κ:Type}{f':List (κ×V)}{vs:List (κ×AJ)}(r:KV f' vs):(!vs.isEmpty) = !f'.isEmpty:=by
 cases r <;> rfl
theorem Sm(r:B0 xs i'):(!i'.toArray.isEmpty) = !xs.isEmpty:=by
 cases r <;> simp
theorem QH:(sizeLine:Nat) < 2 ^ 63:=by rw[iL];decide
theorem nH:TruR X (λx H Q=>∃k,qG X.K x H k/\Q k H):=by
 intro ζ s σ H x v Q I rx h;obtain⟨k,e,q⟩:=h;have hl:=QH;have hs:sizeLine=16777216:=iL
 cases x with
 | non=>
  cases rx;have e':k=false:=e;subst e';exact truthy_none ⟨H,I,q⟩
 | bl b=>
  cases rx;have e':k=b:=e;subst e';exact EE ⟨H,I,q⟩
 | int i=>
  obtain⟨t,rfl⟩:=rx;have e':k=(i != 0):=e;subst e';exact PySem.P.truthy_int ⟨H,I,q⟩
 | str y=>
  obtain⟨t,rfl⟩:=rx;obtain⟨hy,e'⟩:y.length<=sizeLine/\k=((y.length:Int) != 0):=e;subst e';exact PySem.P.truthy_str (by lia) ⟨H,I.tok _,q⟩
 | byt y=>
  obtain⟨t,rfl⟩:=rx;obtain⟨hy,e'⟩:y.size<=sizeLine/\k=((y.size:Int) != 0):=e;subst e';exact PySem.W.truthy_bytes (by lia) ⟨H,I.tok _,q⟩
 | ref p=>
  cases rx
  have e':(∃xs,SqL X.K H p xs/\k = !xs.isEmpty)∨(∃xs,SqT X.K H p xs/\k = !xs.isEmpty)∨∃f',H p=some (.dK f')/\k = !f'.isEmpty:=e
  rcases e' with⟨xs,hx,e'⟩ | ⟨xs,hx,e'⟩ | ⟨f',hx,e'⟩
  ·subst e'
   obtain⟨i',r,pl,hz⟩:=I.list hx;have hlen:=r.length;exact wpAny_truthy_list pl.isList (by simp only[Aj];lia) ⟨H,I.tok _,by rw[Sm r];exact q⟩
  ·subst e'
   obtain⟨i',r,pl,hz⟩:=I.tuple hx;have hlen:=r.length;exact truthy_tuple pl (by simp only[Aj];lia) ⟨H,I.tok _,by rw[Sm r];exact q⟩
  ·subst e'
   obtain⟨hz,hS,vs,r,m⟩:f'.length<=sizeLine/\(p==EG)=false/\∃vs,KV f' vs/\s.heap.DictOf (Ev X.prog X.w) p vs:=I.hok p _ hx
   have hlen:f'.length=vs.length:=FK r;exact wpAny_truthy_dict hS m (by lia) ⟨H,I.tok _,by rw[ZC r];exact q⟩
 | _=>exact(show False from e).elim
theorem eI(ha:PE X a ta)(he:∀whole,mP a X.env whole=(do let v <-whole;qM a.pos;X5 [v] (truthy v))) :
  PT X a (λσ H Q=>ta σ H λx H'=>∃k,qG X.K x H' k/\Q k H'):=by
 intro ζ s σ H Q I h;exact isTrue_plain (thn (ha ζ s σ H _ I h) λv s1 ⟨x,H1,I1,r1,q1⟩=>nH ζ s1 σ H1 x v Q I1 r1 q1) (he _)
theorem vals1(r:B0 [x] us):∃u,us=[u]/\RelV x u:=by
 cases r with
 | cons r1 r2=>cases r2;exact⟨_,rfl,r1⟩
theorem vals2(r:B0 [x,y] us):∃u w',us=[u,w']/\RelV x u/\RelV y w':=by
 cases r with
 | cons r1 r2=>
  cases r2 with
  | cons r3 r4=>cases r4;exact⟨_,_,rfl,r1,r3⟩
theorem cW(hc:X.calm=true):K5 X (.builtin "max") (λxs H Q=>∃i j,xs=[.int i,.int j]/\Q (.int (if j > i then j else i)) H):=by
 intro ζ s σ H xs us Q I r h;obtain⟨i,j,rfl,q⟩:=h;obtain⟨u,w',rfl,⟨t,rfl⟩,⟨t',rfl⟩⟩:=vals2 r
 refine max_two_ints (I.ok.hd hc) λh' tk k=>⟨_,H,I.kept k,?_,q⟩
 by_cases hj:j > i
 ·rw[qX hj,qX hj];exact⟨_,rfl⟩
 ·rw[qY hj,qY hj];exact⟨_,rfl⟩
theorem cV(hc:X.calm=true):K5 X (.builtin "min") (λxs H Q=>∃i j,xs=[.int i,.int j]/\Q (.int (if j < i then j else i)) H):=by
 intro ζ s σ H xs us Q I r h;obtain⟨i,j,rfl,q⟩:=h;obtain⟨u,w',rfl,⟨t,rfl⟩,⟨t',rfl⟩⟩:=vals2 r
 refine min_two_ints (I.ok.hd hc) λh' tk k=>⟨_,H,I.kept k,?_,q⟩
 by_cases hj:j < i
 ·rw[qX hj,qX hj];exact⟨_,rfl⟩
 ·rw[qY hj,qY hj];exact⟨_,rfl⟩
theorem cX:K5 X (.type "int") (λxs H Q=>(∃i,xs=[.int i]/\Q (.int i) H)∨∃k,xs=[.bl k]/\Q (.int (if k then 1 else 0)) H):=by
 intro ζ s σ H xs us Q I r h
 rcases h with⟨i,rfl,q⟩ | ⟨k,rfl,q⟩
 ·obtain⟨u,rfl,t,rfl⟩:=vals1 r
  exact call_int_int ⟨.int i,H,I,⟨_,rfl⟩,q⟩
 ·obtain⟨u,rfl,r1⟩:=vals1 r
  cases r1;exact call_int_bool ⟨.int (if k then 1 else 0),H,I.tok _,⟨_,rfl⟩,q⟩
end
structure ZY(h:DT)(x dx C:Ab)(mA:Str->Option AJ):Prop where
 obj:h.get? x=some (Eh C dx)
 ns:h.Ns1 dx mA
 ne:dx≠x
theorem bx{h:DT}{dx:Ab}{mA:Str->Option AJ}(n:h.Ns1 dx mA):∃od,h.get? dx=some od/\∀name,MZ name od=some (mA name):=by
 obtain⟨o,es,ep,ho,hd,hk,_,hm⟩:=n;refine⟨o,ho,λname=>?_⟩;have e:=hm name;unfold nsFind findBy at e;rw[<-Array.find?_toList]at e;unfold MZ;rw[hd];dsimp only;split
 ·rename_i y q
  rw[q]at e;exact congrArg some e
 ·rename_i q
  rw[q]at e
  have a:es.toList.any (·.refKey)=false:=by
   rw[cz];intro y hy;obtain⟨z,t,wA⟩:=hk y (Bk.mp hy);simp[Qd.refKey,wA]
  have a':¬es.toList.any (·.refKey)=true:=by rw[a];exact AK
  rw[qY a'];exact congrArg some e
theorem ZY.look{h}{x dx C}{mA}(I:ZY h x dx C mA):∃od,PySem.W.InstAt h x (Eh C dx) C (some od)/\∀name,MZ name od=some (mA name):=
 let ⟨od,ho,hl⟩:=bx I.ns
 ⟨od,⟨I.obj,rfl,rfl,ho⟩,hl⟩
section
variable{prog:Bs}{w:CV}{A:Cj}{E:AJ->AS->Prop}{s:AS}{K:AG}{x dx C f:Ab}{mA:Str->Option AJ}{name:Str}{v:AJ}
theorem ke(X:K.In s.heap)(I:ZY s.heap x dx C mA)(hg:Kj K C name=true)(hh:Oh K C=true)
  (ha:EI K (.ref C) name=some none) (hv:mA name=some v) (yt:ax v=true) (h:Q v { s with toks:=s.toks+1 }) :
  Aq (Ad prog w) A (getAttr (.ref x) name expr) Q E s:=by
 obtain⟨od,J,hl⟩:=I.look;exact PySem.W.get_value X J (Nj hg).1 (PySem.W.findObj_own hh ha rfl (by rw[hl,hv])) yt h
theorem gK(X:K.In s.heap)(I:ZY s.heap x dx C mA)(hg:Kj K C name=true)
  (hf:EI K (.ref C) name=some (some (.ref f))) (ht:Uw K (.ref f)=true) (hv:mA name=none) (h:Q (.ref f,[.ref x]) s) :
  Aq (Ad prog w) A (cc (.ref x) name pl) Q E s:=by
 obtain⟨od,J,hl⟩:=I.look;exact PySem.W.method_fn X J (Nj hg).1 (Nj hg).2 hf (beq_iff_eq.mp ht) (by show(MZ name od).map (·.isSome)=some false;rw[hl,hv];rfl) h
theorem jY(X:K.In s.heap)(I:ZY s.heap x dx C mA)
  (hs:EI K (.ref C) "__setattr__" = some (some (.builtin "object.__setattr__"))) (hp:Za K C=true) (ht:Qr K C name=some none) (hh:Oh K C=true)
  (hw:We mA ns) (hsz:ns.length<=sizeLine)
  (h:∀h',ZY h' x dx C (λy=>if y=name then some v else mA y)->FI dx s.heap h'->Q () { s with heap:=h',toks:=s.toks+2 }) :
  Aq (Ad prog w) A (setAttr (.ref x) name v) Q E s:=by
 obtain⟨od,J,hl⟩:=I.look;refine PySem.W.set_plain X J hs (PySem.W.osa_open (s:={ s with toks:=s.toks+1 }) (r:=none) X J hp ht λb=>?_);obtain⟨cd,hc,vT⟩:=PySem.W.any_some hh;have hx:s.heap.get? x=some ⟨.ref C,some dx,.plain,#[]⟩:=I.obj;refine AC (AO (AC (AC (wpAny_loadPart hx (AC (ql (s:={ s with toks:=s.toks+1 }) (PySem.W.looks_clsIn X hc) ?_))))));rw[vT];refine AO (a:=some dx) (AC (AO (AC ?_)))
 refine wpAny_nsSet1 (s:={ s with toks:=s.toks+1 }) I.ns λh' vd uS=>?_
 obtain⟨oD,esD,epD,hoD,hdD,hcD⟩:=vd.count (tp name v hw);refine AC (wpAny_lookBehind hoD (by rw[hdD];exact pastItsLine_dict (Aw hcD (by rw[BB];lia))) ?_);exact AO (h _ ⟨(uS.2 _ (Ci I.ne)).trans I.obj,vd,I.ne⟩ uS)
theorem fP(X:K.In s.heap)(hm:ci K C=true)
  (hi:EI K (.ref C) "__init__" = some (some (.ref f))) (hf:PySem.W.typeIn K (.ref f)=some (.type "function"))
  (h:OA (Ad prog w) (A.under (.builtin "type.__call__" ⟨.ref C :: vs,kw⟩)) (.call (.ref f) ⟨.ref (s.heap.objs.size+1) :: vs,kw⟩) (PySem.W.InitBack (s.heap.objs.size+1) R)
   { s with heap:=(s.heap.push DM).push (Eh C s.heap.objs.size) }) :
  OA (Ad prog w) A (.call (.ref C) ⟨vs,kw⟩) R s:=by
 obtain⟨hh,g,d,t,os⟩:=s;exact PySem.W.make_core (PySem.W.makes_of X hm) (PySem.W.looks_findIn X hi) (λself=>PySem.W.bind_fn X self hf) (.inl rfl) h
end
def putF(f:Str)(v:V):List (Str×V)->List (Str×V)
 | []=>[(f,v)]
 | (g,x) :: r=>if g=f then(g,v) :: r else(g,x) :: putF f v r
theorem Qm(f g:Str)(v:V):∀fs:List (Str×V),(putF f v fs).lookup g=if g=f then some v else fs.lookup g
 | []=>by
  show Ik g [(f,v)]=_
  by_cases h:g=f
  ·have hb:(g==f)=true:=beq_iff_eq.mpr h
   simp only[Ik,hb,qX h]
  ·have hb:(g==f)=false:=beq_eq_false_iff_ne.mpr h
   simp only[Ik,hb,qY h]
 | (k,x) :: r=>by
  have ih:=Qm f g v r;rw[show putF f v ((k,x) :: r)=(if k=f then(k,v) :: r else(k,x) :: putF f v r)from rfl]
  by_cases hk:k=f
  ·rw[qX hk]
   by_cases h:g=k
   ·have hb:(g==k)=true:=beq_iff_eq.mpr h
    simp only[Ik,hb,qX (h.trans hk)]
   ·have hb:(g==k)=false:=beq_eq_false_iff_ne.mpr h
    simp only[Ik,hb,qY (λe:g=f=>h (e.trans hk.symm))]
  ·rw[qY hk]
   by_cases h:g=k
   ·have hb:(g==k)=true:=beq_iff_eq.mpr h
    simp only[Ik,hb,qY (λe:g=f=>hk (h.symm.trans e))]
   ·have hb:(g==k)=false:=beq_eq_false_iff_ne.mpr h
    simp only[Ik,hb];exact ih
theorem QJ(f:Str)(v:V):∀fs:List (Str×V),f∈(putF f v fs).map (·.1)/\∀g,g∈fs.map (·.1)->g∈(putF f v fs).map (·.1)
 | []=>⟨by simp[putF],λg h=>by simp at h⟩
 | (k,x) :: r=>by
  obtain⟨i1,i2⟩:=QJ f v r;rw[show putF f v ((k,x) :: r)=(if k=f then(k,v) :: r else(k,x) :: putF f v r)from rfl]
  by_cases hk:k=f
  ·rw[qX hk]
   subst hk;exact⟨by simp,λg h=>by simpa using h⟩
  ·rw[qY hk]
   refine⟨?_,λg h=>?_⟩
   ·rw[BG]
    exact AY _ i1
   ·rw[BG]at h ⊢
    rcases Ap.mp h with e | e
    ·exact Ap.mpr (.inl e)
    ·exact AY _ (i2 g e)
theorem Qo(f:Str)(v:V):∀fs:List (Str×V),(putF f v fs).length<=fs.length+1
 | []=>by simp[putF]
 | (k,x) :: r=>by
  have ih:=Qo f v r;rw[show putF f v ((k,x) :: r)=(if k=f then(k,v) :: r else(k,x) :: putF f v r)from rfl]
  by_cases hk:k=f
  ·rw[qX hk,BB,BB];lia
  ·rw[qY hk,BB,BB];lia
theorem Nt.some_of(r:Nt (some v) o):∃u,o=some u/\RelV v u:=by
 cases o with
 | none=>exact(show False from r).elim
 | some u=>exact⟨u,rfl,r⟩
theorem Nt.none_of(r:Nt none o):o=none:=by
 cases o with
 | none=>rfl
 | some u=>exact(show False from r).elim
theorem cE(r:RelV v u):ax u=true:=by
 cases v with
 | non=>cases(show u=EV from r);rfl
 | bl b=>cases(show u=av b from r);rfl
 | int i=>obtain⟨t,e⟩:=(show ∃t,u=WW i t from r);cases e;rfl
 | str x=>obtain⟨t,e⟩:=(show ∃t,u=WV x t from r);cases e;rfl
 | byt b=>obtain⟨t,e⟩:=(show ∃t,u=qV b t from r);cases e;rfl
 | flt b=>obtain⟨t,e⟩:=(show ∃t,u=qU b t from r);cases e;rfl
 | ref a=>cases(show u=Bb a from r);rfl
 | ty n=>cases(show u=G8 n from r);rfl
section
variable{P:Bs}{w:CV}{H:Hp}{h:DT}{a C dx:Ab}{fs:List (Str×V)}
theorem V3(hok:HOk P w H h)(e:H a=some (.ins C dx fs)):∃mA,ZY h a dx C mA/\(∀f,Nt (fs.lookup f) (mA f))/\We mA (fs.map (·.1))/\fs.length<=1000/\H dx=some (.own a):=by
 obtain⟨d,z,ne,ob,mA,n,r,q⟩:=(show Df P w H h a (.ins C dx fs)from hok a _ e);exact⟨mA,⟨ob,n,ne⟩,r,q,z,d⟩
end
structure Cls(K:AG)(C:Ab):Prop where
 pg:Kj K C Str.empty=true
 hd:Oh K C=true
 po:Za K C=true
 sa:EI K (.ref C) "__setattr__" = some (some (.builtin "object.__setattr__"))
theorem Cls.get{K}{C}(c:Cls K C)(f:Str):Kj K C f=true:=c.pg
def FS(K:AG)(C:Ab)(f:Str):Prop:=EI K (.ref C) f=some none
theorem FS.taker{K}{C}{f}(n:FS K C f):Qr K C f=some none:=by
 unfold Qr;rw[show EI K (.ref C) f=some none from n];rfl
structure WR(K:AG)(C:Ab)(m:Str)(f:Ab):Prop where
 at_:EI K (.ref C) m=some (some (.ref f))
 fn:Uw K (.ref f)=true
 kp:Fe K (.ref f)=true
section
variable{X:Cx}{ζ:List (Ab×Obj)}{σ:St}{H:Hp}{s:AS}{a C dx:Ab}{fs:List (Str×V)}{f:Str}{v:V}{A:Cj}{E:AJ->AS->Prop}
theorem ZF(I:Inv X ζ σ H s)(e:H a=some (.ins C dx fs))(c:Cls X.K C)(n:FS X.K C f)(l:fs.lookup f=some v)
  (h:∀u s',Inv X ζ σ H s'->RelV v u->Q u s'):Aq (Ad X.prog X.w) A (getAttr (.ref a) f b) Q E s:=by
 obtain⟨mA,O,r,_,_,_⟩:=V3 I.hok e;obtain⟨u,hu,ru⟩:=Nt.some_of (v:=v) (o:=mA f) (by rw[<-l];exact r f);exact ke I.kIn O (c.get f) c.hd n hu (cE ru) (h u _ (I.tok _) ru)
theorem ZE(I:Inv X ζ σ H s)(e:H a=some (.ins C dx fs))(c:Cls X.K C)(k:WR X.K C m g)(l:fs.lookup m=none)
  (h:Q (.ref g,[.ref a]) s):Aq (Ad X.prog X.w) A (cc (.ref a) m pl) Q E s:=by
 obtain⟨mA,O,r,_,_,_⟩:=V3 I.hok e;have hn:mA m=none:=Nt.none_of (by rw[<-l];exact r m);exact gK I.kIn O (c.get m) k.at_ k.fn hn h
theorem Yk(I:Inv X ζ σ H s)(e:H a=some (.ins C dx fs))(c:Cls X.K C)(n:FS X.K C f)(hl:fs.length < 1000)(ry:RelV y u)
  (h:∀s',Inv X ζ σ (upd H a (.ins C dx (putF f y fs))) s'->Q () s'):Aq (Ad X.prog X.w) A (setAttr (.ref a) f u) Q E s:=by
 obtain⟨mA,O,r,wi,_,ho⟩:=V3 I.hok e
 have hz:(fs.map (·.1)).length<=sizeLine:=by rw[AF,iL];lia
 refine jY I.kIn O c.sa c.po n.taker c.hd wi hz λh' O' sb=>h _ ?_
 have hd:∃o,h'.get? dx=some o:=let ⟨o,_,_,e',_⟩:=O'.ns;⟨o,e'⟩
 refine I.write (x:=a) (e:=dx) (by rw[e];exact MV) (.inr ho) (λb q hb z=>(sb.2 b hb).trans z) hd ?_;refine⟨by rw[Bo O.ne];exact ho,?_,O.ne,O'.obj,_,O'.ns,λg=>?_,λg hg=>?_⟩
 ·have:=Qo f y fs;lia
 ·show Nt ((putF f y fs).lookup g) (if g=f then some u else mA g)
  rw[Qm]
  by_cases q:g=f
  ·rw[qX q,qX q];exact ry
  ·rw[qY q,qY q];exact r g
 ·by_cases q:g=f
  ·rw[q];exact(QJ f y fs).1
  ·refine(QJ f y fs).2 g (wi g λz=>hg ?_)
   show(if g=f then some u else mA g)=none;rw[qY q];exact z
theorem Inv.made(I:Inv X ζ σ H s):Inv X ζ σ (upd (upd H s.heap.objs.size (.own (s.heap.objs.size+1))) (s.heap.objs.size+1) (.ins C s.heap.objs.size []))
  { s with heap:=(s.heap.push DM).push (Eh C s.heap.objs.size) }:=by
 have e1:(s.heap.push DM).get? s.heap.objs.size=some DM:=Ao s.heap rfl
 have e2:((s.heap.push DM).push (Eh C s.heap.objs.size)).get? (s.heap.objs.size+1)=some (Eh C s.heap.objs.size):=by
  have:=Ao (s.heap.push DM) (o:=Eh C s.heap.objs.size) rfl;rwa [E4]at this
 have e3:(s.heap.push DM).Ns s.heap.objs.size (λ_=>none):=⟨DM,#[],_,e1,rfl,(λe he=>zX he (by simp)),λ_=>rfl⟩;have I1:=I.laid (a:=s.heap.objs.size) (o:=.own (s.heap.objs.size+1)) (h':=s.heap.push DM) (t':=s.toks) (λb u q=>AT _ q) (AL _) ⟨_,e1⟩;refine I1.laid (a:=s.heap.objs.size+1) (o:=.ins C s.heap.objs.size []) (t':=s.toks) (λb u q=>AT _ q) (qo (E4 _ _)) ?_;have ne:s.heap.objs.size≠s.heap.objs.size+1:=BN (Dj _);refine⟨by rw[Bo ne,CJ],Dv _,ne,e2,λ_=>none,(DT.Ns1.of_empty e3).at λo q=>AT _ q,λ_=>MV,λy hy=>zX rfl hy⟩
theorem lL(hb:GU e f env (Co e env)=Co e env)
  (h:Aq (Ad prog w) A (Co e env) (λo s₁=>Aq (Ad prog w) A (getAttr o f true) Q E s₁) E s):Aq (Ad prog w) A (Co (.Attribute e f pos) env) Q E s:=
 Attribute_any_ h (by rw[arm_eval_Attribute,hb])
end
def tFld(K:AG)(ta:TE)(f:Str):TE:=λσ H Q=>ta σ H λx H1=>∃a C dx fs v,x=.ref a/\H1 a=some (.ins C dx fs)/\Cls K C/\FS K C f/\fs.lookup f=some v/\Q v H1
def sFld(K:AG)(ta tv:TE)(f:Str):TS:=λD σ H=>tv σ H λy H1=>ta σ H1 λx H2=>∃a C dx fs,x=.ref a/\H2 a=some (.ins C dx fs)/\Cls K C/\FS K C f/\fs.length < 1000 /\
 D.nx σ (upd H2 a (.ins C dx (putF f y fs)))
section
variable{X:Cx}{o e value:Expr}{f:Str}{pos pos':Pos}{ta tv:TE}
theorem oO(he:PE X e ta)(hb:GU e f X.env (Co e X.env)=Co e X.env):PE X (.Attribute e f pos) (tFld X.K ta f):=by
 intro ζ s σ H Q I h;refine lL hb (thn (he ζ s σ H _ I h) λu s1 ⟨x,H1,I1,rx,a,C,dx,fs,v,ex,ea,c,n,l,q⟩=>?_);subst ex;obtain rfl:u=Bb a:=rx
 exact ZF I1 ea c n l λu' s2 I2 ru=>⟨v,H1,I2,ru,q⟩
theorem n8(ha:PE X o ta)(hv:PE X value tv)(hs:G6 value (some (.Attribute o f pos')) pos.line X.env=pure false):PS X (.Assign [.Attribute o f pos'] value pos) (sFld X.K ta tv f):=by
 intro ζ s σ H D I h;refine plainObj_wpAny_Assign_Attribute (thn (hv ζ s σ H _ I h) λu s1 ⟨y,H1,I1,ry,q⟩=>thn (ha ζ s1 σ H1 _ I1 q) λov s2 ⟨x,H2,I2,rx,a,C,dx,fs,ex,ea,c,n,l,q2⟩=>?_) hs;subst ex;obtain rfl:ov=Bb a:=rx
 exact Yk I2 ea c n l ry λs3 I3=>⟨σ,_,I3,q2⟩
end
structure Hj(k:Nat)(A:Cj):Prop where
 hd:A.handled=none
 dp:A.depth+3 * k+5 < recursionLimit
 un:A.units+16 * k+200 < FX
theorem Hj.mono(r:Hj k A)(h:j<=k):Hj j A:=⟨r.hd,by have:=r.dp;lia,by have:=r.un;lia⟩
theorem Hj.deeper(r:Hj (k+1) A)(env:Env):Hj k (A.deeper env):=
 ⟨r.hd,by have:=r.dp;show A.depth+1+3 * k+5 < _;lia,by have:=r.un;show A.units+3+16 * k+200 < _;lia⟩
theorem Y3{A:Cj}{C:Ab}{us:List AJ}{kw:List (Str×AJ)}:(A.under (.builtin "type.__call__" ⟨.ref C :: us,kw⟩)).depth=A.depth+1:=by
 first | rfl | simp[Wa,Code.weight,Code.isCreation,Code.isGuard,Code.isCaller,qr,YA,guardIds]
theorem Y2{A:Cj}{C:Ab}{us:List AJ}{kw:List (Str×AJ)}:(A.under (.builtin "type.__call__" ⟨.ref C :: us,kw⟩)).units=A.units+1:=by
 first | rfl | simp[Wa,Code.cUnits,qr,YA]
theorem Hj.make{k}{A}(r:Hj (k+1) A)(C:Ab)(us:List AJ)(kw:List (Str×AJ)):Hj k (A.under (.builtin "type.__call__" ⟨.ref C :: us,kw⟩)):=
 ⟨r.hd,by have:=r.dp;rw[Y3];lia,by have:=r.un;rw[Y2];lia⟩
theorem Hj.depth(r:Hj k A):A.depth < recursionLimit:=by have:=r.dp;lia
theorem Hj.units(r:Hj k A):A.units+64 < FX:=by have:=r.un;lia
def tNil:TA:=λ_ H Q=>Q [] H
def rS(ta:TE)(tr:TA):TA:=λσ H Q=>ta σ H λx H1=>tr σ H1 λxs H2=>Q (x :: xs) H2
section
variable{X:Cx}{e:Expr}{es:List Expr}{te:TE}{t:TA}{pos:Pos}
theorem JY:PA X [] tNil:=λ_ _ _ _ H Q I h=>Calls.spliced_nil ⟨[],H,I,.nil,h⟩
theorem HK(ha:PE X e te)(hr:PA X es t)(hs:Ag (e :: es) X.env=(false,Co e X.env) :: Ag es X.env:=by rfl):PA X (e :: es) (rS te t):=by
 intro pos ζ s σ H Q I h;rw[hs];show Aq _ _ (spliced ((false,Co e X.env) :: E6 pos (Ag es X.env))) _ _ s;refine Calls.spliced_cons (thn (ha ζ s σ H _ I h) λu s1 ⟨x,H1,I1,r1,q1⟩=>?_)
 exact thn (hr pos ζ s1 σ H1 _ I1 q1) λus s2 ⟨xs,H2,I2,r2,q2⟩=>⟨x :: xs,H2,I2,.cons r1 r2,q2⟩
def tTup(t:TA):TE:=λσ H Q=>t σ H λxs H1=>xs.length<=sizeLine/\∀p,H1 p=none->Q (.ref p) (upd H1 p (.tup xs))
def tLst(t:TA):TE:=λσ H Q=>t σ H λxs H1=>xs.length<=sizeLine/\∀p,H1 p=none->Q (.ref p) (upd H1 p (.lst xs))
theorem oG{x1}(h:PA X es t):PE X (.Tuple es x1 pos) (tTup t):=by
 intro ζ s σ H Q I hq;refine wpAny_Tuple_spliced (thn (h pos ζ s σ H _ I hq) λus s1 ⟨xs,H1,I1,r,z,q⟩=>⟨by rw[<-r.length];exact z,?_⟩);have hf:H1 s1.heap.objs.size=none:=I1.hok.fresh (AL _);refine⟨.ref s1.heap.objs.size,upd H1 s1.heap.objs.size (.tup xs),I1.laid (t':=s1.toks) (λb u e=>AT _ e) (AL _) ?_,rfl,q _ hf⟩;exact⟨⟨z,⟨_,Ao _ rfl,rfl⟩⟩,us,r,⟨_,Ao _ rfl,rfl,_,rfl⟩⟩
theorem oK(h:PA X es t):PE X (.List es pos) (tLst t):=by
 intro ζ s σ H Q I hq;refine wpAny_List_spliced (thn (h pos ζ s σ H _ I hq) λus s1 ⟨xs,H1,I1,r,z,q⟩=>⟨by rw[<-r.length];exact z,?_⟩);have hf:H1 s1.heap.objs.size=none:=I1.hok.fresh (AL _);refine⟨.ref s1.heap.objs.size,upd H1 s1.heap.objs.size (.lst xs),I1.laid (t':=s1.toks) (λb u e=>AT _ e) (AL _) ?_,rfl,q _ hf⟩;exact⟨z,us,0,r,Ao _ rfl⟩
end
abbrev Sp:=List V->Hp->VK->XK->Prop
abbrev CXT:=List Env->Hp->AS->XK->AJ->AS->Prop
structure ZZ(P:Bs)(w:CV)(K:AG)(mg:Str->Option AJ)(base:DT)(A:Cj)(outer:List Env)(s:AS)(H:Hp):Prop where
 frames:A.frames=some outer
 mod:Mod K mg base
 bs:∀b o,base.get? b=some o->s.heap.get? b=some o/\H b=none
 bsz:base.objs.size<=s.heap.objs.size
 funs:s.heap.FunFrames base outer
 frf:∀b∈frs outer,H b=none
 hok:HOk P w H s.heap
 bare:Km s.gens
def CE(outer:List Env)(P:Bs)(w:CV)(H:Hp)(s:AS)(Q:VK)(u:AJ)(s':AS):Prop:=
 ∃v H',s'.os=s.os/\Km s'.gens/\Un (frs outer) [] H H' s.heap s'.heap/\HOk P w H' s'.heap/\RelV v u/\Q v H'
def CR(CX:CXT)(outer:List Env)(P:Bs)(w:CV)(H:Hp)(s:AS)(Q:VK)(E:XK)(r:Result)(s':AS):Prop:=
 match r with
 | .ok (.ret u)=>CE outer P w H s Q u s'
 | .ok _=>False
 | .error e=>CX outer H s E e s'
structure DC(P:Bs)(w:CV)(K:AG)(mg:Str->Option AJ)(base:DT)(CX:CXT)(k:Nat)(f:Ab)(fd:LG)(ps:List Str)(sp:Sp):Prop where
 len:∀vs H Q E,sp vs H Q E->vs.length=ps.length
 run:∀(A:Cj) (outer:List Env) (s:AS) (H:Hp) (args:Args) (us:List AJ) (vs:List V) (Q:VK) (E:XK),Hj k A->ZZ P w K mg base A outer s H->YB s fd args (ps.zip us)->B0 vs us->sp vs H Q E ->
  OA (Ad P w) A (.call (.ref f) args) (CR CX outer P w H s Q E) s
theorem DC.imp{P}{w}{K}{mg}{base}{CX}{k}{f}{fd}{ps}{sp sp'}(F:DC P w K mg base CX k f fd ps sp)
  (h:∀vs H Q E,sp' vs H Q E->sp vs H Q E):DC P w K mg base CX k f fd ps sp':=
 ⟨λvs H Q E q=>F.len vs H Q E (h _ _ _ _ q),λA outer s H args us vs Q E hr he hb hv hs=>F.run A outer s H args us vs Q E hr he hb hv (h _ _ _ _ hs)⟩
theorem ZZ.make{P}{w}{K}{mg}{base}{A}{outer}{s}{H}(e:ZZ P w K mg base A outer s H)(C:Ab)(us:List AJ)(kw:List (Str×AJ)) :
  ZZ P w K mg base (A.under (.builtin "type.__call__" ⟨.ref C :: us,kw⟩)) outer s H:=⟨by first | exact e.frames | (simpa[Wa,Code.envs,YA,pushEnvs]using e.frames),e.mod,e.bs,e.bsz,e.funs,e.frf,e.hok,e.bare⟩
section
variable{X:Cx}{ζ:List (Ab×Obj)}{σ:St}{H:Hp}{s s':AS}
theorem Inv.env0(I:Inv X ζ σ H s):ZZ X.prog X.w X.K X.mg X.base X.A X.stack s H:=
 ⟨I.ok.frames,I.ok.mod,I.bs,Aw I.ok.bsz I.sz,I.stack,I.stkFree,I.hok,I.bare⟩
theorem Inv.after(I:Inv X ζ σ H s)(h:CE X.stack X.prog X.w H s Q u s'):EP X ζ σ Q u s':=by
 obtain⟨v,H',os,bare,un,hok,r,q⟩:=h;obtain⟨hh,g,d,t,os'⟩:=s';obtain rfl:os'=s.os:=os;exact⟨v,H',I.call (h':=hh) (g':=g) (d':=d) (t':=t) (ch:=[]) un hok bare (λb z=>zX z (by simp)),r,q⟩
end
def rT(sp:Sp)(ve:List V)(E:St->XK)(t:TA):TE:=λσ H Q=>t σ H λvs H1=>sp (vs++ve) H1 Q (E σ)
def lq(C:Ab)(m:Str)(sp:Sp)(ve:List V)(E:St->XK)(ta:TE)(t:TA):TE:=λσ H Q=>ta σ H λx H1=>∃a dx fs,x=.ref a/\H1 a=some (.ins C dx fs)/\fs.lookup m=none /\
 t σ H1 λvs H2=>sp (x :: (vs++ve)) H2 Q (E σ)
def rL(C:Ab)(sp:Sp)(ve:List V)(E:St->XK)(t:TA):TE:=λσ H Q=>t σ H λvs H1=>∀x dx,H1 x=none->H1 dx=none->dx≠x ->
 sp (.ref x :: (vs++ve)) (upd (upd H1 dx (.own x)) x (.ins C dx [])) (λv H2=>v=.non/\Q (.ref x) H2) (E σ)
def Binds(K:AG)(fd:LG)(ps:List Str)(ds:List AJ):Prop:=
 ∀(s:AS) (us:List AJ),K.In s.heap->(us++ds).length=ps.length->YB s fd ⟨us,[]⟩ (ps.zip (us++ds))
theorem Binds.all{K}{fd}{ps}(h:∀us:List AJ,us.length=ps.length->iP fd ⟨us,[]⟩=pure (ps.zip us)):Binds K fd ps []:=λs us _ hl=>by
 rw[CB]at hl ⊢;exact .of_eq (h us hl)
def L6(CX:CXT)(X:Cx)(E:St->XK):Prop:=∀(ζ:List (Ab×Obj)) (σ:St) (H:Hp) (s:AS) (e:AJ) (s':AS),Inv X ζ σ H s->CX X.stack H s (E σ) e s'->X.xe e s'
section
variable{X:Cx}{k:Nat}{f C:Ab}{fd:LG}{ps:List Str}{sp:Sp}{E:St->XK}{x m:Str}{p pos apos:Pos}{e o:Expr}{es:List Expr}{ta:TE}{t:TA}
theorem eC(F:DC X.prog X.w X.K X.mg X.base CX k f fd ps sp)(hr:Hj k X.A)(hb:Binds X.K fd ps ds)(hd:B0 ve ds)(hx:L6 CX X E)
  (I:Inv X ζ σ H s) (r:B0 vs us) (h:sp (vs++ve) H Q (E σ)):Aq (Ad X.prog X.w) X.A (call (.ref f) us) (EP X ζ σ Q) X.xe s:=by
 have r2:B0 (vs++ve) (us++ds):=r.append hd
 have hl:(us++ds).length=ps.length:=by rw[<-r2.length];exact F.len _ _ _ _ h
 refine wpAny_call (TW (F.run X.A X.stack s H ⟨us,[]⟩ (us++ds) (vs++ve) Q (E σ) hr I.env0 (hb s us I.kIn hl) r2 h) λr s' hq=>?_)
 cases r with
 | error e=>exact hx ζ σ H s e s' I hq
 | ok fl=>
  cases fl with
  | ret u=>exact I.after hq
  | next=>exact Et hq
  | brk=>exact Et hq
  | cont=>exact Et hq
theorem j7(F:DC X.prog X.w X.K X.mg X.base CX k f fd ps sp)(hr:Hj k X.A)(hg:Gl X x)(hm:X.mg x=some (.ref f))(hk:Fe X.K (.ref f)=true)(hb:Binds X.K fd ps ds)(hd:B0 ve ds)(hx:L6 CX X E)
  (ha:PA X (e :: es) t) (uW:(x==("__debug__" : Str))=false:=by decide) (he:Ag (e :: es) X.env=(false,Co e X.env) :: Ag es X.env:=by rfl) (uz:(E6 pos (Ag es X.env)).any (·.1)=false:=by rfl) :
  PE X (.Call (.Name x p) (e :: es) [] pos) (rT sp ve E t):=by
 intro ζ s σ H Q I h;refine LA (V1 I hg hm ?_ uW);refine OB (h₀:=X.base) I.ok.mod.kin hk (thn (ha pos ζ s σ H _ I h) λus s1 ⟨vs,H1,I1,r,q⟩=>⟨I1.kIn,?_⟩) he uz;exact eC F hr hb hd hx I1 r q
theorem jz(he:PE X o ta)(c:Cls X.K C)(hm:WR X.K C m f)(F:DC X.prog X.w X.K X.mg X.base CX k f fd ps sp)(hr:Hj k X.A)(hb:Binds X.K fd ps ds)(hd:B0 ve ds)(hx:L6 CX X E)(ha:PA X (e :: es) t)
  (vp:Ag (e :: es) X.env=(false,Co e X.env) :: Ag es X.env:=by rfl) (uz:(E6 pos (Ag es X.env)).any (·.1)=false:=by rfl)
  (ht:Co (.Call (.Attribute o m apos) (e :: es) [] pos) X.env=(do
   let ov <-Co o X.env
   qM apos.atName
   let (f,fts) <-X5 [ov] (cc ov m pl)
   callWith pos f fts (E6 pos (Ag (e :: es) X.env)) (YH pos (Pm [] X.env))):=by rfl) :
  PE X (.Call (.Attribute o m apos) (e :: es) [] pos) (lq C m sp ve E ta t):=by
 intro ζ s σ H Q I h;refine PySem.W.methodCall_KW (pl:=pl) (thn (he ζ s σ H _ I h) λu s1 ⟨x,H1,I1,rx,a,dx,fs,ex,ea,l,q⟩=>?_) ht;subst ex;obtain rfl:u=Bb a:=rx;refine ZE I1 ea c hm l ?_;refine OB (first:=[.ref a]) (h₀:=X.base) I.ok.mod.kin hm.kp (thn (ha pos ζ s1 σ H1 _ I1 q) λus s2 ⟨vs,H2,I2,r,q2⟩=>⟨I2.kIn,?_⟩) vp uz;exact eC (us:=.ref a :: us) (vs:=.ref a :: vs) F hr hb hd hx I2 (.cons rfl r) q2
structure Mk(K:AG)(C f:Ab):Prop where
 makes:ci K C=true
 init:EI K (.ref C) "__init__" = some (some (.ref f))
 fn:Uw K (.ref f)=true
 kp:Fe K (.ref C)=true
theorem dz(M:Mk X.K C f)(F:DC X.prog X.w X.K X.mg X.base CX k f fd ps sp)(hr:Hj (k+1) X.A)(hb:Binds X.K fd ps ds)(hd:B0 ve ds)
  (hx:L6 CX X E) (I:Inv X ζ σ H s) (r:B0 vs us)
  (h:∀x dx,H x=none->H dx=none->dx≠x->sp (.ref x :: (vs++ve)) (upd (upd H dx (.own x)) x (.ins C dx [])) (λv H2=>v=.non/\Q (.ref x) H2) (E σ)) :
  Aq (Ad X.prog X.w) X.A (call (.ref C) us) (EP X ζ σ Q) X.xe s:=by
 have hq:=h (s.heap.objs.size+1) s.heap.objs.size (I.hok.fresh (OC _)) (I.hok.fresh (AL _)) (BN (Dj _));have I2:=Inv.made (C:=C) I;have r2:B0 (V.ref (s.heap.objs.size+1) :: (vs++ve)) (Bb (s.heap.objs.size+1) :: (us++ds)):=.cons rfl (r.append hd)
 have hl:(Bb (s.heap.objs.size+1) :: us++ds).length=ps.length:=by
  have e:=r2.length;rw[F.len _ _ _ _ hq]at e;exact e.symm
 refine wpAny_call (fP (f:=f) I.kIn M.makes M.init (beq_iff_eq.mp M.fn) (TW (F.run _ X.stack _ _ ⟨Bb (s.heap.objs.size+1) :: us,[]⟩ (Bb (s.heap.objs.size+1) :: (us++ds)) _ _ (E σ) (hr.make C us [])
  (I2.env0.make C us []) (hb _ (Bb (s.heap.objs.size+1) :: us) I2.kIn hl) r2 hq) λr s' yu=>?_))
 cases r with
 | error e=>exact hx ζ σ _ _ e s' I2 yu
 | ok fl=>
  cases fl with
  | ret u=>
   obtain⟨v,H',I3,rv,ev,q3⟩:=I2.after yu;subst ev;exact⟨rv,⟨V.ref (s.heap.objs.size+1),H',I3,rfl,q3⟩⟩
  | next=>exact Et yu
  | brk=>exact Et yu
  | cont=>exact Et yu
theorem j0(M:Mk X.K C f)(F:DC X.prog X.w X.K X.mg X.base CX k f fd ps sp)(hr:Hj (k+1) X.A)(hg:Gl X x)(hm:X.mg x=some (.ref C))(hb:Binds X.K fd ps ds)(hd:B0 ve ds)(hx:L6 CX X E)
  (ha:PA X (e :: es) t) (uW:(x==("__debug__" : Str))=false:=by decide) (he:Ag (e :: es) X.env=(false,Co e X.env) :: Ag es X.env:=by rfl) (uz:(E6 pos (Ag es X.env)).any (·.1)=false:=by rfl) :
  PE X (.Call (.Name x p) (e :: es) [] pos) (rL C sp ve E t):=by
 intro ζ s σ H Q I h;refine LA (V1 I hg hm ?_ uW);refine OB (h₀:=X.base) I.ok.mod.kin M.kp (thn (ha pos ζ s σ H _ I h) λus s1 ⟨vs,H1,I1,r,q⟩=>⟨I1.kIn,?_⟩) he uz;exact dz M F hr hb hd hx I1 r q
end
structure Bg(N P:List Str)(sc:TY):Prop where
 kind:sc.kind=.function
 co:sc.isCoroutine=false
 gen:sc.isGenerator=false
 nd:N.Nodup
 pre:N.take P.length=P
 par:∀x∈P,sc.names.lookup x=some .local∨sc.names.lookup x=some .cell
 nofree:∀y∈sc.names,y.2≠.free
theorem Um{kindOf}{x}:∀{binds:List (Str×AJ)} {m:Str->Option AJ},(∀v,(x,v)∉binds)->cf kindOf binds m x=m x
 | [],_,_=>rfl
 | (n,v) :: r,m,h=>by
  unfold cf;rw[Um λw hw=>h w (AY _ hw)];split
  ·have:x≠n:=by rintro rfl;exact h v Af
   simp[this]
  ·rfl
theorem Uq{kindOf}{x}:∀{binds:List (Str×AJ)} {m:Str->Option AJ},(∀v,(x,v)∉binds)->cg kindOf binds m x=m x
 | [],_,_=>rfl
 | (n,v) :: r,m,h=>by
  unfold cg;rw[Uq λw hw=>h w (AY _ hw)];split
  ·rfl
  ·have:x≠n:=by rintro rfl;exact h v Af
   simp[this]
theorem Uo{kindOf}{x}{v}:∀{P:List Str} {vs:List AJ} {i:Nat} {m:Str->Option AJ},P.Nodup->P[i]?=some x->vs[i]?=some v->kindOf x=some .local ->
  cf kindOf (P.zip vs) m x=some v
 | [],_,_,_,_,h,_,_=>by simp at h
 | _ :: _,[],_,_,_,_,h,_=>by simp at h
 | p :: P,w :: vs,0,m,nd,h1,h2,hk=>by
  simp at h1 h2;subst h1;subst h2;show cf kindOf ((p,w) :: P.zip vs) m p=_;unfold cf;rw[Um λv hv=>(Bt.mp nd).1 (Mc hv).1,qX hk];simp
 | p :: P,w :: vs,i+1,m,nd,h1,h2,hk=>by
  show cf kindOf ((p,w) :: P.zip vs) m x=_;unfold cf;exact Uo (i:=i) (Bt.mp nd).2 (by simpa using h1) (by simpa using h2) hk
theorem Ur{kindOf}{x}{v}:∀{P:List Str} {vs:List AJ} {i:Nat} {m:Str->Option AJ},P.Nodup->P[i]?=some x->vs[i]?=some v->kindOf x≠some .local ->
  cg kindOf (P.zip vs) m x=some v
 | [],_,_,_,_,h,_,_=>by simp at h
 | _ :: _,[],_,_,_,_,h,_=>by simp at h
 | p :: P,w :: vs,0,m,nd,h1,h2,hk=>by
  simp at h1 h2;subst h1;subst h2;show cg kindOf ((p,w) :: P.zip vs) m p=_;unfold cg;rw[Uq λv hv=>(Bt.mp nd).1 (Mc hv).1,qY hk];simp
 | p :: P,w :: vs,i+1,m,nd,h1,h2,hk=>by
  show cg kindOf ((p,w) :: P.zip vs) m x=_;unfold cg;exact Ur (i:=i) (Bt.mp nd).2 (by simpa using h1) (by simpa using h2) hk
def start(N:List Str)(vs:List V):St:=vs.map some++Bw (N.length - vs.length) none
def ZL(CX:CXT)(P:Bs)(w:CV)(K:AG)(mg:Str->Option AJ)(base:DT)(N:List Str)(qual:Str)(scope:TY)(f:Ab)(cd:AJ)(A:Cj)(outer:List Env)(s:AS)(H:Hp)(E:XK):Cx where
 prog:=P
 w:=w
 K:=K
 mg:=mg
 base:=base
 A:=A.deeper (N9 qual scope s.heap.objs.size f cd)
 N:=N
 s₀:=s
 H₀:=H
 env:=N9 qual scope s.heap.objs.size f cd
 outer:=outer
 stack:=N9 qual scope s.heap.objs.size f cd :: outer
 ex:=[]
 calm:=true
 fn:=λ_=>true
 pn:=[]
 xe:=λe s'=>Aq (Ad P w) (A.deeper (N9 qual scope s.heap.objs.size f cd)) (leaving (N9 qual scope s.heap.objs.size f cd) e) (λ_ U'=>CX outer H s E e U') (λe' U'=>CX outer H s E e' U') s'
theorem Xx{sc:TY}{n:Nat}{x:Str}(h:sc.names.lookup x=some .cell):∃c,(CY n sc.names []).lookup x=some c:=by
 have q:=Ux sc.names n [] (.inl h);exact CZ.mp q
theorem cB{CX:CXT}{P:Bs}{w:CV}{K:AG}{mg:Str->Option AJ}{base:DT}{N ps:List Str}{qual:Str}{scope:TY}{f:Ab}{cd:AJ}{A:Cj}{outer:List Env}{s s1:AS}{H:Hp}{E:XK}{us:List AJ}{vs:List V}
  (S:Bg N ps scope) (hd:A.handled=none) (e0:ZZ P w K mg base A outer s H) (hl:vs.length=ps.length) (r:B0 vs us)
  (x:InCallC s s.heap.objs.size (cf (N9 qual scope s.heap.objs.size f cd).kindOf (ps.zip us) λ_=>none) (CY (s.heap.objs.size+1) scope.names []) (cg (N9 qual scope s.heap.objs.size f cd).kindOf (ps.zip us) λ_=>none) s1) :
  Inv (ZL CX P w K mg base N qual scope f cd A outer s H E) [] (start N vs) H s1:=by
 have uz:ps.length<=N.length:=by have:=congrArg Il S.pre;rw[Di]at this;lia
 obtain⟨h1,tk,rfl,hk⟩:=x.done
 have yw:∀b:Ab,b∉(ZL CX P w K mg base N qual scope f cd A outer s H E).ex:=λb z=>zX (show b∈([]:List Ab)from z) (by simp)
 refine⟨⟨e0.mod,S.kind,rfl,rfl,AL _,λy z c h1 h2=>?_,λy hy=>?_,λy c _ h=>?_,λ_=>hd,Cj.frames_deeper e0.frames,.inr ⟨rfl,rfl⟩,λb z=>zX z (yw b),e0.bs,e0.bsz,λb _ _=>yw b,λb z=>zX z (yw b),e0.funs,e0.frf⟩,
  rfl,e0.bare,Un.kept hk,⟨_,x.toInCall.ns,λi y v h1 h2 h3=>?_⟩,λy c h=>⟨_,x.cell y c h⟩,e0.hok.fresh (AL _),λy c h=>?_,λp hp=>zX (show p∈([]:List (Ab×Obj))from hp) (by simp),e0.hok.kept hk,?_⟩
 ·exact name_of_addr x.apart (D7 h1) (D7 h2)
 ·have hy:scope.names.lookup y=some .cell∨scope.names.lookup y=some .free:=hy
  rcases hy with hy | hy
  ·exact Xx hy
  ·exact zX rfl (S.nofree _ (D7 hy))
 ·exact Ma (x.above y c (D7 h))
 ·have hi:i < vs.length:=by
   unfold start at h2
   by_cases hi:i < vs.length
   ·exact hi
   ·rw[Bn (by simpa using hi)]at h2
    rw[Dz]at h2
    split at h2 <;> cases h2
  have ha:vs[i]?=some v:=by
   unfold start at h2;rw[Av (by simpa using hi),Ak]at h2
   cases e:vs[i]? with
   | none=>rw[e]at h2;cases h2
   | some a=>rw[e]at h2;cases h2;rfl
  obtain⟨u,hu,rv⟩:=r.get ha
  have hp:ps[i]?=some y:=by
   rw[<-S.pre,WX (by lia)];exact h1
  have ndP:ps.Nodup:=by rw[<-S.pre];exact S.nd.sublist (cr _ _)
  refine⟨u,rv,?_⟩
  rcases S.par y (BL hp)with k | k
  ·exact .inl ⟨k,Uo ndP hp hu k⟩
  ·obtain⟨c,e⟩:=Xx (n:=s.heap.objs.size+1) k
   refine .inr ⟨.inl k,c,e,?_⟩;have q:=x.cell y c e;rw[Ur ndP hp hu (by show scope.names.lookup y≠_;rw[k];decide)]at q;exact q
 ·exact e0.hok.fresh (Ma (x.above y c (D7 h)))
 ·unfold start
  show _=N.length;rw[AX,AF,NT]
  lia
theorem tM{CX}{P}{w}{K}{mg}{base}{k}{f}{name qual}{params}{body}{scope}{dV kV doc pm uq ct oc}{an od}
  {vO} {N ps} {sp} (lk:K.lookup f=some ⟨oc,od,.func (Iq name qual params body scope dV kV doc pm an uq ct),vO⟩) (vE:Rn K uq qual=true) (S:Bg N ps scope)
  (len:∀vs H Q E,sp vs H Q E->vs.length=ps.length)
  (vf:∀(A:Cj) (outer:List Env) (s:AS) (H:Hp) (vs:List V) (Q:VK) (E:XK),Hj k (A.deeper (N9 qual scope s.heap.objs.size f uq))->sp vs H Q E ->
   ∃t,PSs (ZL CX P w K mg base N qual scope f uq A outer s H E) body t/\t { nx:=λ_ H'=>Q .non H',rt:=Q } (start N vs) H) :
  DC P w K mg base CX (k+1) f (Iq name qual params body scope dV kV doc pm an uq ct) ps sp:=by
 refine⟨len,λA outer s H args us vs Q E hr e0 hb r yd=>?_⟩;have hl:=len _ _ _ _ yd
 have KX:K.In s.heap:=e0.mod.kin.keeps λb o e=>(e0.bs b o e).1
 have lim:s.heap.NoLimit:=e0.mod.nolimit.keeps λb o e=>(e0.bs b o e).1
 have yx:∀y∈ps.zip us,scope.names.lookup y.1=some .local∨(scope.names.lookup y.1=some .cell/\((CY (s.heap.objs.size+1) scope.names []).lookup y.1).isSome=true):=by
  rintro ⟨n,v⟩ hy
  rcases S.par n (Mc hy).1 with q | q
  ·exact .inl q
  ·exact .inr ⟨q,Ux _ _ _ (.inl q)⟩
 refine codeAny_call_function hr.depth (KX _ _ lk) rfl S.co S.gen rfl (PySem.W.codeRec_of KX vE) (hb _ _ _ _ ?_)
 refine wpAny_newFunctionEnv_cells S.kind yx λenv he s1 x=>?_
 subst he;refine⟨lim.keeps x.toInCall.keep,codeAny_func ?_⟩;obtain⟨t,ht,hq⟩:=vf A outer s H vs Q E (hr.deeper _) yd;have I:Inv (ZL CX P w K mg base N qual scope f uq A outer s H E) [] (start N vs) H s1:=cB S hr.hd e0 hl r x
 refine Hr (ht [] s1 (start N vs) H _ I hq) (λfl s' hs=>?_) λe s' hs=>hs
 have fin:∀{σ':St} {H':Hp} {v:V} {u:AJ},Inv (ZL CX P w K mg base N qual scope f uq A outer s H E) [] σ' H' s'->RelV v u->Q v H'->CE outer P w H s Q u s':=
  λ{σ' H' v u} J rv q=>⟨v,H',J.os,J.bare,J.base,J.hok,rv,q⟩
 cases fl with
 | ret u=>
  obtain⟨v,σ',H',J,rv,q⟩:=hs;exact fin J rv q
 | next=>
  obtain⟨σ',H',J,q⟩:=hs;exact fin (v:=V.non) (u:=EV) J rfl q
 | brk=>
  obtain⟨_,_,_,q⟩:=hs;exact Et q
 | cont=>
  obtain⟨_,_,_,q⟩:=hs;exact Et q
section
variable{X:Cx}{x:Str}{p pos:Pos}{e:Expr}{es:List Expr}{t:TA}{id T:String}{r:List V->Hp->VK->Prop}
def tCB(r:List V->Hp->VK->Prop)(t:TA):TE:=λσ H Q=>t σ H λvs H1=>r vs H1 Q
theorem O4(hc:K5 X (.builtin id) r)(hg:Gl X x)(hm:X.mg x=none)(hv:G7 x=some (.builtin id))(ha:PA X (e :: es) t)(hn:x≠"__name__":=by decide) (uW:(x==("__debug__" : Str))=false:=by decide)
  (he:Ag (e :: es) X.env=(false,Co e X.env) :: Ag es X.env:=by rfl) (uz:(E6 pos (Ag es X.env)).any (·.1)=false:=by rfl):PE X (.Call (.Name x p) (e :: es) [] pos) (tCB r t):=by
 intro ζ s σ H Q I h;refine LA (QI I hg hm hv ?_ hn uW);exact tq (thn (ha pos ζ s σ H _ I h) λus s1 ⟨vs,H1,I1,r1,q1⟩=>hc ζ s1 σ H1 vs us Q I1 r1 q1) he uz
theorem QA(hc:K5 X (.type T) r)(hg:Gl X x)(hm:X.mg x=none)(hv:G7 x=some (.type T))(ha:PA X (e :: es) t)(hn:x≠"__name__":=by decide) (uW:(x==("__debug__" : Str))=false:=by decide)
  (he:Ag (e :: es) X.env=(false,Co e X.env) :: Ag es X.env:=by rfl) (uz:(E6 pos (Ag es X.env)).any (·.1)=false:=by rfl):PE X (.Call (.Name x p) (e :: es) [] pos) (tCB r t):=by
 intro ζ s σ H Q I h;refine LA (QI I hg hm hv ?_ hn uW);exact Dq (thn (ha pos ζ s σ H _ I h) λus s1 ⟨vs,H1,I1,r1,q1⟩=>hc ζ s1 σ H1 vs us Q I1 r1 q1) he uz
end
end L2
namespace HT
open PySem PyProof.Rows
section
variable{prog:Bs}{w:CV}{A:Cj}{E:AJ->AS->Prop}{s:AS}
theorem lH(ht:iZ s.heap t vs.toArray)(hb:iZ s.heap b ws.toArray)(hv:vs≠[])
  (h1:ws=[]->Q (.ref t) s) (h2:ws≠[]->Q (.ref s.heap.objs.size) { s with heap:=s.heap.push { cls:=.type "tuple",data:=.seq (vs++ws).toArray } })
  (hsz:vs.length+ws.length<=sizeLine):Aq (Ad prog w) A (DR .Add (.ref t) (.ref b)) Q E s:=by
 obtain⟨⟨cls,dd,data,sl⟩,ho,hc,n,hd⟩:=id ht;obtain⟨⟨cls2,dd2,data2,sl2⟩,ho2,hc2,n2,hd2⟩:=id hb;simp only at hc hd hc2 hd2;subst hc hd hc2 hd2
 have e:vs.toArray++ws.toArray=(vs++ws).toArray:=by simp
 by_cases hw:ws=[]
 ·exact cq ⟨_,ho,rfl⟩ ⟨_,ho2,rfl⟩ Uv ap LD Kk (KF _ _)
   (tuple_addW1 t b vs.toArray ws.toArray n n2 dd dd2 sl sl2 (by simpa using hv) (by simp[hw])) ⟨ho,ho2,h1 hw⟩
 ·refine cq ⟨_,ho,rfl⟩ ⟨_,ho2,rfl⟩ Uv ap LD Kk (KF _ _)
   (tuple_addW2 t b vs.toArray ws.toArray n n2 dd dd2 sl sl2 (by simpa using hv) (by simpa using hw) (by rw[Aj,Aj];exact hsz)) ⟨ho,ho2,?_⟩
  rw[e];exact h2 hw
def sIx(n d:Nat):Option Int->Nat
 | none=>d
 | some v=>if v < 0 then(v+(n:Int)).toNat else min v.toNat n
theorem XG(n d:Nat):sIx n d none=d:=rfl
theorem Zt(n d k:Nat):sIx n d (some (k:Int))=min k n:=by
 show(if (k:Int) < 0 then((k:Int)+(n:Int)).toNat else min (k:Int).toNat n)=min k n;rw[qY (by lia),As]
theorem nj(n d:Nat)(hd:d<=n)(o:Option Int):sIx n d o<=n:=by
 cases o with
 | none=>exact hd
 | some v=>
  show(if v < 0 then(v+(n:Int)).toNat else min v.toNat n)<=n
  by_cases hv:v < 0
  ·rw[qX hv];lia
  ·rw[qY hv];exact iS _ _
theorem ae(v:Int)(n d:Nat):(if v < 0 then max (v+(n:Int)) 0 else min v (n:Int))=((sIx n d (some v):Nat):Int):=by
 show(if v < 0 then max (v+(n:Int)) 0 else min v (n:Int))=(((if v < 0 then(v+(n:Int)).toNat else min v.toNat n):Nat):Int)
 by_cases hv:v < 0
 ·simp only[qX hv];lia
 ·simp only[qY hv];lia
theorem ZV(lo hi:Option Int)(n:Nat):Ie lo hi 1 (n:Int)=(((sIx n 0 lo:Nat):Int),((sIx n n hi:Nat):Int)):=by
 have h1:¬((1:Int) < 0):=by lia
 unfold Ie;simp only[h1,if_false];refine UF ?_ ?_
 ·cases lo with
  | none=>rfl
  | some v=>exact ae v n 0
 ·cases hi with
  | none=>rfl
  | some v=>exact ae v n n
theorem Ys(i j:Nat):FT (i:Int) (j:Int) 1=j - i:=by
 unfold FT
 have h1:(1:Int) > 0:=by lia
 simp only[h1,if_true,Int.ediv_one]
 split <;> lia
theorem SF(p:Pr v o)(h:Q o s):Aq (Ad prog w) A (qu v) Q E s:=by
 cases p with
 | none=>exact slicePart_none h
 | int i t=>exact slicePart_int h
theorem Ks{sl:Ab}{vl vu:AJ}{lo hi:Option Int}{n:Nat}{Q:Int×Int×Nat->AS->Prop}(hs:s.heap.IsSliceOf sl vl vu .none)(pl:Pr vl lo)(pu:Pr vu hi)
  (h:Q (((sIx n 0 lo:Nat):Int),1,sIx n n hi - sIx n 0 lo) s):Aq (Ad prog w) A (Ol (.ref sl) (pure (n:Int))) Q E s:=by
 obtain⟨os,wB,zA,yy⟩:=id hs;unfold Ol qv;refine AC (AC (IE wB yy (x:=vl) rfl (AC (IE wB yy (x:=vu) rfl (AC (IE wB yy (x:=.none) rfl (AO ?_)))))));refine AC (slicePart_none ?_);show Aq _ _ (if ((1:Int)==0)=true then _ else _) _ _ s;rw[qY (by decide)];refine AC (SF pl (AC (SF pu (AC (AO ?_)))));show Aq _ _ (match Ie lo hi 1 (n:Int)with | (lo,hi)=>pure (lo,(1:Int),FT lo hi 1)) _ _ s;rw[ZV lo hi n];show Aq _ _ (pure (((sIx n 0 lo:Nat):Int),(1:Int),FT ((sIx n 0 lo:Nat):Int) ((sIx n n hi:Nat):Int) 1)) _ _ s;rw[Ys];exact AO h
theorem eV(xs:Array AJ)(i k:Nat):((D4 k).filterMap λ(m:Nat)=>xs[((i:Int)+(m:Int) * 1).toNat]?).toArray=((xs.toList.drop i).take k).toArray:=by
 have e:(λ(m:Nat)=>xs[((i:Int)+(m:Int) * 1).toNat]?)=λm=>xs[i+m]?:=by
  funext m
  have:((i:Int)+(m:Int) * 1).toNat=i+m:=by lia
  rw[this]
 rw[e];have:=pick_run xs i k;rw[List.filterMap_map]at this
 have e2:((λx=>xs[x]?)∘λx=>i+x)=λm=>xs[i+m]?:=rfl
 rw[e2]at this;rw[this]
theorem PQ{t sl}{items}{vl vu}{lo hi}{Q}(ht:iZ s.heap t items)(hs:s.heap.IsSliceOf sl vl vu .none)(pl:Pr vl lo)(pu:Pr vu hi)
  (hw:¬(sIx items.size 0 lo=0/\sIx items.size items.size hi=items.size))
  (h:Q (.ref s.heap.objs.size) { s with heap:=s.heap.push { cls:=.type "tuple",data:=.seq ((items.toList.drop (sIx items.size 0 lo)).take (sIx items.size items.size hi - sIx items.size 0 lo)).toArray } })
  (hsz:items.size<=sizeLine):Aq (Ad prog w) A (Ki (.ref t) (.ref sl)) Q E s:=by
 have vx:sizeOk (.seq ((items.toList.drop (sIx items.size 0 lo)).take (sIx items.size items.size hi - sIx items.size 0 lo)).toArray):=by
  show((items.toList.drop (sIx items.size 0 lo)).take (sIx items.size items.size hi - sIx items.size 0 lo)).toArray.size<=sizeLine;rw[Aj,Di,IY,Bq];omega
 have hj:sIx items.size items.size hi<=items.size:=nj _ _ (AL _) hi;obtain⟨os,wB,zA,yy⟩:=id hs;have V':s.TypeIs (.ref sl) "slice":=⟨os,wB,zA⟩;unfold Ki
 try with_reducible refine MY ?_
 first | refine AC (AO ?_) | skip
 refine AC (qJ ht.typeIs (by decide) ?_)
 refine AC (DQ (name:=Hs "__getitem__") ht.typeIs Cd
  (Du Cd ht.typeIs lV ?_ (mS _ _)))
 show Aq _ _ (Oj (.ref t) >>= _) _ _ s;refine AC (tupleItemsOf_ ht ?_);refine AC (TQ V' ?_);rw[qX (by decide)];refine AC (Ks hs pl pu ?_)
 have W':¬((((sIx items.size 0 lo:Nat):Int)==0&&(1:Int)==1&&(sIx items.size items.size hi - sIx items.size 0 lo)==items.size)=true):=by
  intro q;rw[DJ,DJ]at q;have q1:((sIx items.size 0 lo:Nat):Int)=0:=eq_of_beq q.1.1;have q2:sIx items.size items.size hi - sIx items.size 0 lo=items.size:=eq_of_beq q.2;exact hw ⟨by lia,by omega⟩
 show Aq _ _ (if (((sIx items.size 0 lo:Nat):Int)==0&&(1:Int)==1&&(sIx items.size items.size hi - sIx items.size 0 lo)==items.size)=true then _ else _) _ _ s;rw[qY W',eV]
 first
  | exact AC (m:=Fh _) (DG (AO ⟨_,rfl,AO h⟩) vx)
  | exact AC (m:=Fh _) (DG (AC (AO (AO ⟨_,rfl,AO h⟩))) vx)
  | exact AC (AC (m:=Fh _) (DG (AO (AO ⟨_,rfl,AO h⟩)) vx))
  | exact AC (AC (m:=Fh _) (DG (AO ⟨_,rfl,AO h⟩) vx))
end
end HT
namespace L2
open PySem PySem.Spec PyProof.Rows
section
abbrev TO:=St->Hp->(Option Int->Hp->Prop)->Prop
def PO(X:Cx)(e:Option Expr)(t:TO):Prop:=
 ∀(ζ:List (Ab×Obj)) (s:AS) (σ:St) (H:Hp) (Q:Option Int->Hp->Prop),Inv X ζ σ H s->t σ H Q ->
  Aq (Ad X.prog X.w) X.A (evalPart e X.env) (λu s'=>∃o H',Inv X ζ σ H' s'/\Pr u o/\Q o H') X.xe s
def jO:TO:=λ_ H Q=>Q none H
def rH(t:TE):TO:=λσ H Q=>t σ H λx H1=>∃i,x=.int i/\Q (some i) H1
theorem intsAre_of:∀{us:List AJ},B0 (ns.map V.int) us->G9 us ns:=by
 induction ns with
 | nil=>intro us r;rw[QZ]at r;cases r;exact .nil
 | cons n ns ih=>
  intro us r;rw[BG]at r
  cases r with
  | cons r1 r2=>
   obtain⟨t,e⟩:=r1;subst e;exact .cons n t (ih r2)
section
variable{κ:Type}[DecidableEq κ]
def LK(f':List (κ×V))(k:κ):Option V:=(f'.find? λkv=>decide (kv.1=k)).map (·.2)
def MM(f':List (κ×V))(k:κ)(v:V):List (κ×V):=
 if (f'.any λkv=>decide (kv.1=k))=true then f'.map (λkv=>if kv.1=k then(kv.1,v)else kv)else f'++[(k,v)]
theorem R3{p:κ×V}{r:List (κ×V)}{k:κ}(e:p.1=k):LK (p :: r) k=some p.2:=by simp[LK,Cb,e]
theorem R4{p:κ×V}{r:List (κ×V)}{k:κ}(e:¬p.1=k):LK (p :: r) k=LK r k:=by simp[LK,Cb,e]
theorem W0(k:κ):∀f':List (κ×V),(f'.any λkv=>decide (kv.1=k))=(LK f' k).isSome
 | []=>rfl
 | p :: r=>by
  rw[Ic]
  by_cases e:p.1=k
  ·simp only[R3 e,wX e,Bool.true_or,Od]
  ·rw[R4 e,wY e,mX];exact W0 k r
theorem Qn(f':List (κ×V))(k:κ)(v:V):(MM f' k v).length<=f'.length+1:=by
 unfold MM;split
 ·rw[AF];lia
 ·rw[AX,BB,Me];lia
theorem Nt.isSome_eq(r:Nt o u):o.isSome=u.isSome:=by
 cases o with
 | none=>cases u with
  | none=>rfl
  | some _=>exact(show False from r).elim
 | some _=>cases u with
  | none=>exact(show False from r).elim
  | some _=>rfl
theorem KV.val{f':List (κ×V)}{vs:List (κ×AJ)}(r:KV f' vs)(k:κ):Nt (LK f' k) (TU vs k):=by
 unfold KV at r
 induction r with
 | nil=>exact MV
 | @cons p q ps qs h t ih=>
  obtain⟨h1,h2⟩:=h
  by_cases e:p.1=k
  ·have e':q.1=k:=h1.symm.trans e
   have b:TU (q :: qs) k=some q.2:=by simp[TU,Cb,e']
   rw[R3 e,b];exact h2
  ·have e':¬q.1=k:=λz=>e (h1.trans z)
   have b:TU (q :: qs) k=TU qs k:=by simp[TU,Cb,e']
   rw[R4 e,b];exact ih
theorem KV.any(r:KV f' vs)(k:κ):(f'.any λkv=>decide (kv.1=k))=vs.any λkv=>decide (kv.1=k):=by
 unfold KV at r
 induction r with
 | nil=>rfl
 | cons h t ih=>rw[Ic,Ic,ih,h.1]
theorem KV.repl(r:KV f' vs)(k:κ)(ry:RelV y u) :
  KV (f'.map λkv=>if kv.1=k then(kv.1,y)else kv) (vs.map λkv=>if kv.1=k then(kv.1,u)else kv):=by
 unfold KV at r ⊢
 induction r with
 | nil=>exact .nil
 | @cons p q ps qs h t ih=>
  rw[BG,BG];refine .cons ?_ ih;obtain⟨h1,h2⟩:=h
  by_cases e:p.1=k
  ·rw[qX e,qX (h1.symm.trans e)];exact⟨h1,ry⟩
  ·rw[qY e,qY (λz=>e (h1.trans z))];exact⟨h1,h2⟩
theorem KV.put(r:KV f' vs)(k:κ)(ry:RelV y u):KV (MM f' k y) (stored vs k u):=by
 unfold MM stored;rw[r.any k]
 by_cases e:(vs.any λkv=>decide (kv.1=k))=true
 ·rw[qX e,qX e];exact r.repl k ry
 ·rw[qY e,qY e];exact X7 r ⟨rfl,ry⟩
theorem KV.length(r:KV f' vs):f'.length=vs.length:=FK r
end
theorem Xo(r:RelV (kV k) u):(Ev P w).is k u=true:=by
 cases k with
 | inl i=>obtain⟨t,e⟩:=(show ∃t,u=WW i t from r);subst e;exact Xe P w i t
 | inr x=>obtain⟨t,e⟩:=(show ∃t,u=WV x t from r);subst e;exact Xd P w x t
theorem Ub:∀{ks:List Key} {us:List AJ},B0 (ks.map kV) us->ItemsAre (Ev P w) ks us
 | [],_,r=>by rw[QZ]at r;cases r;exact .nil
 | k :: ks,_,r=>by
  rw[BG]at r
  cases r with
  | cons h t=>exact .cons (Xo h) (Ub t)
abbrev KT(H:Hp):List (List Key×V)->List (List Key×Ab×AJ)->Prop:=Gx λp q=>p.1=q.1/\H q.2.1=some (.tup (p.1.map kV))/\RelV p.2 q.2.2
theorem KT.val{H:Hp}{f':List (List Key×V)}{xs:List (List Key×Ab×AJ)}(r:KT H f' xs)(k:List Key):Nt (LK f' k) ((YI xs k).map (·.2)):=by
 induction r with
 | nil=>exact MV
 | @cons p q ps qs h t ih=>
  obtain⟨h1,_,h2⟩:=h
  by_cases e:p.1=k
  ·have e':q.1=k:=h1.symm.trans e
   have b:YI (q :: qs) k=some q.2:=by simp[YI,Cb,e']
   rw[R3 e,b];exact h2
  ·have e':¬q.1=k:=λz=>e (h1.trans z)
   have b:YI (q :: qs) k=YI qs k:=by simp[YI,Cb,e']
   rw[R4 e,b];exact ih
theorem KT.repl(r:KT H f' xs)(k:List Key)(ry:RelV y u) :
  KT H (f'.map λkv=>if kv.1=k then(kv.1,y)else kv) (xs.map (putAt k u)):=by
 induction r with
 | nil=>exact .nil
 | @cons p q ps qs h t ih=>
  rw[BG,BG];refine .cons ?_ ih;obtain⟨h1,h2,h3⟩:=h;unfold putAt
  by_cases e:p.1=k
  ·rw[qX e,qX (h1.symm.trans e)];exact⟨h1,h2,ry⟩
  ·rw[qY e,qY (λz=>e (h1.trans z))];exact⟨h1,h2,h3⟩
theorem KT.put(r:KT H f' xs)(k:List Key)(hb:H b=some (.tup (k.map kV)))(ry:RelV y u) :
  KT H (MM f' k y) (storedH xs k b u):=by
 have e:(f'.any λkv=>decide (kv.1=k))=(YI xs k).isSome:=by
  rw[W0,(r.val k).isSome_eq,Hg]
 unfold MM storedH;rw[e]
 by_cases q:(YI xs k).isSome=true
 ·rw[qX q,qX q];exact r.repl k ry
 ·rw[qY q,qY q];exact X7 r ⟨rfl,hb,ry⟩
theorem KT.keeps(r:KT H f' xs)(ht:∀b ys,H b=some (.tup ys)->H' b=some (.tup ys)):KT H' f' xs:=
 Gx.mapP r λ_ _ z=>⟨z.1,ht _ _ z.2.1,z.2.2⟩
variable{X:Cx}{e:Expr}{lo hi:Option Expr}{pos p2:Pos}
theorem jr:PO X none jO:=by
 intro ζ s σ H Q I h;rw[evalPart_none];exact AO ⟨none,H,I,.none,h⟩
theorem jq(h:PE X e te):PO X (some e) (rH te):=by
 intro ζ s σ H Q I hw;rw[evalPart_some]
 refine thn (h ζ s σ H _ I hw) λu s1 ⟨x,H1,I1,r1,q1⟩=>?_
 obtain⟨i,rfl,q⟩:=q1;obtain⟨t,rfl⟩:=r1;exact⟨some i,H1,I1,.int i t,q⟩
def SlR(X:Cx)(r:V->Option Int->Option Int->Hp->VK->Prop):Prop:=
 ∀(ζ:List (Ab×Obj)) (s:AS) (σ:St) (H:Hp) (x:V) (v vl vu:AJ) (lo hi:Option Int) (sl:Ab) (Q:VK),Inv X ζ σ H s->RelV x v->s.heap.IsSliceOf sl vl vu .none->Pr vl lo->Pr vu hi->r x lo hi H Q ->
  ∃T id,typeLookup (.type T) "__getitem__" = pure (some (.builtin id))/\s.TypeIs v T/\Aq (Ad X.prog X.w) X.A (Ki v (.ref sl)) (EP X ζ σ Q) X.xe s
theorem SlR.or(h:SlR X r)(h':SlR X r'):SlR X (λx lo hi H Q=>r x lo hi H Q∨r' x lo hi H Q):=by
 intro ζ s σ H x v vl vu lo hi sl Q I rx hs pl pu q
 rcases q with q | q
 ·exact h ζ s σ H x v vl vu lo hi sl Q I rx hs pl pu q
 ·exact h' ζ s σ H x v vl vu lo hi sl Q I rx hs pl pu q
def tSl(r:V->Option Int->Option Int->Hp->VK->Prop)(te:TE)(tl th:TO):TE:=λσ H Q=>te σ H λx H1=>tl σ H1 λl H2=>th σ H2 λu H3=>r x l u H3 Q
theorem eX(hr:SlR X r)(he:PE X e te)(hl:PO X lo tl)(hu:PO X hi th):PE X (.Subscript e (.Slice lo hi none p2) pos) (tSl r te tl th):=by
 intro ζ s σ H Q I h;refine YJ (thn (he ζ s σ H _ I h) λv s1 ⟨x,H1,I1,r1,q1⟩=>?_);refine wpAny_Slice (thn (hl ζ s1 σ H1 _ I1 q1) λvl s2 ⟨l,H2,I2,pl,q2⟩=>thn (hu ζ s2 σ H2 _ I2 q2) λvu s3 ⟨u,H3,I3,pu,q3⟩=>?_);rw[evalPart_none];refine AO ?_
 have I4:Inv X ζ σ H3 { s3 with heap:=s3.heap.push { cls:=.type "slice",data:=.fields #[vl,vu,.none] } }:=I3.kept (t':=s3.toks) λb ob q=>AT _ q
 obtain⟨T,id,hT,ht,hg⟩:=hr ζ { s3 with heap:=s3.heap.push { cls:=.type "slice",data:=.fields #[vl,vu,.none] } } σ H3 x v vl vu l u s3.heap.objs.size Q I4 r1 (TN ..) pl pu q3;show Aq (Ad X.prog X.w) X.A (RG e (.Slice lo hi none p2) v (.ref s3.heap.objs.size)) (EP X ζ σ Q) X.xe { s3 with heap:=s3.heap.push { cls:=.type "slice",data:=.fields #[vl,vu,.none] } };exact tail_any (ops:=[.ref s3.heap.objs.size,v]) ht hT hg (by with_unfolding_all rfl)
def ZM(xs:List V)(lo hi:Option Int):List V:=(xs.drop (HT.sIx xs.length 0 lo)).take (HT.sIx xs.length xs.length hi - HT.sIx xs.length 0 lo)
theorem Xv(xs:List V)(lo hi:Option Int):(ZM xs lo hi).length<=xs.length:=by
 unfold ZM;rw[Di,IY]
 lia
def rSlT(K:AG):V->Option Int->Option Int->Hp->VK->Prop:=λx lo hi H Q=>∃a xs,x=.ref a/\SqT K H a xs /\
 ¬(HT.sIx xs.length 0 lo=0/\HT.sIx xs.length xs.length hi=xs.length)/\∀p,H p=none->Q (.ref p) (upd H p (.tup (ZM xs lo hi)))
theorem nW:SlR X (rSlT X.K):=by
 intro ζ s σ H x v vl vu lo hi sl Q I rx hs pl pu h;obtain⟨a,xs,rfl,hx,hw,q⟩:=h;cases rx;obtain⟨i',r,ht,hz⟩:=I.tuple hx
 have hlen:i'.toArray.size=xs.length:=by rw[Aj];exact r.length.symm
 refine⟨"tuple",_,Cd.lookup,ht.typeIs,?_⟩;refine HT.PQ ht hs pl pu (by rw[hlen];exact hw) ?_ (by rw[hlen];exact hz);rw[hlen];refine⟨.ref s.heap.objs.size,_,I.laid (t':=s.toks) (o:=.tup (ZM xs lo hi)) (λb ob q=>AT _ q) (AL _) ?_,rfl,q _ (I.hok.fresh (AL _))⟩;exact⟨⟨Aw (Xv xs lo hi) hz,⟨_,Ao _ rfl,rfl⟩⟩,_,(r.drop (HT.sIx xs.length 0 lo)).take (HT.sIx xs.length xs.length hi - HT.sIx xs.length 0 lo),c6 _ _⟩
def rm(K:AG):R2:=λx y H Q=>∃a b xs ys,x=.ref a/\y=.ref b/\SqT K H a xs/\SqT K H b ys/\xs≠[]/\xs.length+ys.length<=sizeLine /\
 (ys=[]->Q (.ref a) H)/\(ys≠[]->∀p,H p=none->Q (.ref p) (upd H p (.tup (xs++ys))))
theorem B0.nil_iff(r:B0 xs us):us=[]↔xs=[]:=by
 cases r with
 | nil=>simp
 | cons _ _=>simp
theorem kC:OpR X (DR .Add) (rm X.K):=by
 intro ζ s σ H x y v u Q I rx ry h;obtain⟨a,b,xs,ys,rfl,rfl,ha,hb,hx,hz,q1,q2⟩:=h;cases rx;cases ry;obtain⟨i',r1,p1,_⟩:=I.tuple ha;obtain⟨ur,r2,p2,_⟩:=I.tuple hb;refine HT.lH p1 p2 (λz=>hx (r1.nil_iff.mp z)) (λz=>⟨.ref a,H,I,rfl,q1 (r2.nil_iff.mp z)⟩) (λz=>?_) (by rw[<-r1.length,<-r2.length];exact hz);refine⟨.ref s.heap.objs.size,_,I.laid (t':=s.toks) (o:=.tup (xs++ys)) (λb ob q=>AT _ q) (AL _) ?_,rfl,q2 (λw=>z (r2.nil_iff.mpr w)) _ (I.hok.fresh (AL _))⟩;exact⟨⟨by rw[AX];exact hz,⟨_,Ao _ rfl,rfl⟩⟩,_,r1.append r2,c6 _ _⟩
end
section
def ixN(n:Nat)(i:Int):Option Nat:=if 0<=i then(if i < n then some i.toNat else none)else if -(n:Int)<=i then some (i+n).toNat else none
def atI{α:Type}(xs:List α)(i:Int):Option α:=(ixN xs.length i).bind λj=>xs[j]?
theorem aG(h:ixN n i=some j):seqIndex? i n=some j/\j < n/\-(n:Int)<=i/\i < n:=by
 unfold ixN at h
 by_cases h0:0<=i
 ·rw[qX h0]at h
  by_cases h1:i < n
  ·rw[qX h1]at h
   have e:i.toNat=j:=By h;exact⟨by rw[iM h0 h1,e],by lia,by lia,h1⟩
  ·rw[qY h1]at h;cases h
 ·rw[qY h0]at h
  by_cases h1:-(n:Int)<=i
  ·rw[qX h1]at h
   have e:(i+n).toNat=j:=By h;exact⟨by rw[seqIndex_neg (by lia) h1,e],by lia,h1,by lia⟩
  ·rw[qY h1]at h;cases h
theorem ai{α:Type}{xs:List α}{i:Int}{v:α}(h:atI xs i=some v):∃j,seqIndex? i xs.length=some j/\xs[j]?=some v/\j < xs.length/\-(xs.length:Int)<=i/\i < xs.length:=by
 unfold atI at h
 cases e:ixN xs.length i with
 | none=>rw[e]at h;cases h
 | some j=>
  rw[e]at h;obtain⟨h1,h2,h3,h4⟩:=aG e;exact⟨j,h1,h,h2,h3,h4⟩
def WQ(b:Expr):Prop:=∀o i,WT b false o i=operate [o,i] (Ki o i)
def IxR(X:Cx)(r:R2):Prop:=
 ∀(value slice:Expr) (ζ:List (Ab×Obj)) (s:AS) (σ:St) (H:Hp) (x y:V) (v u:AJ) (Q:VK),Inv X ζ σ H s->RelV x v->RelV y u->r x y H Q ->
  WT slice false v u=operate [v,u] (Ki v u)->Aq (Ad X.prog X.w) X.A (RG value slice v u) (EP X ζ σ Q) X.xe s
def MtR(X:Cx)(id:String)(r:V->List V->Hp->VK->Prop):Prop:=
 ∀(ζ:List (Ab×Obj)) (s:AS) (σ:St) (H:Hp) (x:V) (xs:List V) (v:AJ) (us:List AJ) (Q:VK),Inv X ζ σ H s->RelV x v->B0 xs us->r x xs H Q ->
  Aq (Ad X.prog X.w) X.A (call (.builtin id) (v :: us)) (EP X ζ σ Q) X.xe s
section
variable{P:Bs}{w:CV}{H:Hp}{h:DT}{a:Ab}
theorem ls(ok:HOk P w H h)(e:Rd H a u):Df P w H h a u:=e.ok ok
theorem Xt(ok:HOk P w H h)(e:Rd H a (.dK f')):f'.length<=sizeLine/\(a==EG)=false/\∃vs,KV f' vs/\h.DictOf (Ev P w) a vs:=
 show Df P w H h a (.dK f')from ls ok e
theorem tQ(ok:HOk P w H h)(e:H a=some (.dK f')):f'.length<=sizeLine/\(a==EG)=false/\∃vs,KV f' vs/\h.DictOf (Ev P w) a vs:=Xt ok (.inl e)
theorem Sk(ok:HOk P w H h)(e:H a=some (.tup (ks.map kV))):(Ut (Ev P w)).is h ks a:=by
 obtain⟨_,i',r,o,h1,h2,n,h3⟩:=(show Df P w H h a (.tup (ks.map kV))from ok a _ e);exact⟨o,i'.toArray,n,h1,h2,h3,by simpa using Ub r⟩
theorem Xs(ok:HOk P w H h)(e:Rd H a (.dT f')):f'.length<=sizeLine/\(a==EG)=false /\
  ∃xs,KT H f' xs/\h.DictOfH (Ut (Ev P w)) a xs:=by
 obtain⟨z,y,xs,r,o,es,ep,h1,h2,h3,h4,h5⟩:=(show Df P w H h a (.dT f')from ls ok e);refine⟨z,y,xs,r,o,es,ep,h1,h2,h3,h4,λx hx=>?_,h5⟩
 have all:∀{l:List (List Key×V)} {m:List (List Key×Ab×AJ)},KT H l m->∀x∈m,(Ut (Ev P w)).is h x.1 x.2.1:=by
  intro l m q
  induction q with
  | nil=>intro x hx;exact nomatch hx
  | @cons p q ps qs hq t ih=>
   intro x hx
   rcases Ap.mp hx with e | hx
   ·subst e
    exact Sk ok (by rw[<-hq.1];exact hq.2.1)
   ·exact ih x hx
 exact all r x hx
theorem tO(ok:HOk P w H h)(e:H a=some (.dT f')):f'.length<=sizeLine/\(a==EG)=false /\
  ∃xs,KT H f' xs/\h.DictOfH (Ut (Ev P w)) a xs:=Xs ok (.inl e)
end
def Pe(H:Hp)(a:Ab)(y:V)(r:Option V):Prop:=
 (∃f' k,Rd H a (.dK f')/\y=kV k/\r=LK f' k)∨∃f' k b,Rd H a (.dT f')/\y=.ref b/\H b=some (.tup (k.map kV))/\r=LK f' k
def X3(H:Hp)(a:Ab)(y v:V)(H':Hp):Prop:=
 (∃f' k,H a=some (.dK f')/\y=kV k/\f'.length < sizeLine/\H'=upd H a (.dK (MM f' k v))) ∨
 ∃f' k b,H a=some (.dT f')/\y=.ref b/\H b=some (.tup (k.map kV))/\f'.length < sizeLine/\H'=upd H a (.dT (MM f' k v))
theorem Pe.k{H}{a}{f'}{k}(e:H a=some (.dK f')):Pe H a (kV k) (LK f' k):=.inl ⟨f',k,.inl e,rfl,rfl⟩
theorem Pe.t{H}{a b}{f'}{k}(e:H a=some (.dT f'))(eb:H b=some (.tup (k.map kV))):Pe H a (.ref b) (LK f' k):=.inr ⟨f',k,b,.inl e,rfl,eb,rfl⟩
theorem X3.k{H}{a}{f'}{k}{v}(e:H a=some (.dK f'))(hl:f'.length < sizeLine):X3 H a (kV k) v (upd H a (.dK (MM f' k v))):=.inl ⟨f',k,e,rfl,hl,rfl⟩
theorem X3.t{H}{a b}{f'}{k}{v}(e:H a=some (.dT f'))(eb:H b=some (.tup (k.map kV)))(hl:f'.length < sizeLine) :
  X3 H a (.ref b) v (upd H a (.dT (MM f' k v))):=.inr ⟨f',k,b,e,rfl,eb,hl,rfl⟩
variable{X:Cx}{a b:Expr}{ta tb:TE}{pos:Pos}
theorem IxR.or(h:IxR X r)(h':IxR X r'):IxR X (λx y H Q=>r x y H Q∨r' x y H Q):=by
 intro value slice ζ s σ H x y v u Q I rx ry q hs
 rcases q with q | q
 ·exact h value slice ζ s σ H x y v u Q I rx ry q hs
 ·exact h' value slice ζ s σ H x y v u Q I rx ry q hs
theorem sH(hr:IxR X r)(ha:PE X a ta)(hb:PE X b tb)(hs:WQ b):PE X (.Subscript a b pos) (tOp r ta tb):=by
 intro ζ s σ H Q I h;exact YJ (qD ha hb I h λv u s2 x y H2 I2 rx ry q=>hr a b ζ s2 σ H2 x y v u Q I2 rx ry q (hs _ _))
def rIxL(K:AG):R2:=λx y H Q=>∃p xs i v,x=.ref p/\y=.int i/\SqL K H p xs/\atI xs i=some v/\Q v H
def rIxT(K:AG):R2:=λx y H Q=>∃p xs i v,x=.ref p/\y=.int i/\SqT K H p xs/\atI xs i=some v/\Q v H
theorem ix_list:IxR X (rIxL X.K):=by
 intro value slice ζ s σ H x y v u Q I rx ry h hs;obtain⟨p,xs,i,z,rfl,rfl,hq,he,q⟩:=h;cases rx;obtain⟨t,rfl⟩:=ry;obtain⟨i',r,pl,hz⟩:=I.list hq;obtain⟨j,h1,h2,h3,h4,h5⟩:=ai he;obtain⟨w,ew,uT⟩:=r.get h2;have hl:=r.length;have hn:=QH;have fin:EP X ζ σ Q w s:=⟨z,H,I,uT,q⟩
 by_cases h0:0<=i
 ·have hj:i.toNat=j:=by
   rw[iM h0 h5]at h1;exact By h1
  exact item_listR pl.isList h0 (by lia) (by rw[hj];simpa using ew) fin hs
 ·have hj:(i+(i'.toArray.size:Int)).toNat=j:=by
   rw[seqIndex_neg (by lia) h4]at h1;rw[Aj,<-hl];exact By h1
  exact cp (x:=w) pl.isList.typeIs qN.lookup
   (wpAny_getItem_list_neg (Q:=λr s'=>r=w/\EP X ζ σ Q r s') pl.isList (by lia) (by rw[Aj] <;> lia) (by lia) (by rw[hj];simpa using ew) ⟨rfl,fin⟩) hs
theorem pG:IxR X (rIxT X.K):=by
 intro value slice ζ s σ H x y v u Q I rx ry h hs;obtain⟨p,xs,i,z,rfl,rfl,hq,he,q⟩:=h;cases rx;obtain⟨t,rfl⟩:=ry;obtain⟨i',r,pl,hz⟩:=I.tuple hq;obtain⟨j,h1,h2,h3,h4,h5⟩:=ai he;obtain⟨w,ew,uT⟩:=r.get h2;have hl:=r.length;have hn:=QH;have fin:EP X ζ σ Q w s:=⟨z,H,I,uT,q⟩
 exact cp (x:=w) pl.typeIs slot_tuple_getitem.lookup
  (getItem_tuple (j:=j) (Q:=λr s'=>r=w/\EP X ζ σ Q r s') pl (by lia) (by lia) (by rw[Aj,<-hl];exact h1) (by simpa using ew) ⟨rfl,fin⟩) hs
theorem Y1(i':List AJ)(n j:Nat)(u:AJ):GY (·.setIfInBounds j u) { cls:=.type "list",data:=.seq i'.toArray n }={ cls:=.type "list",data:=.seq (i'.set j u).toArray n }:=by
 simp[GY]
theorem Inv.lst(I:Inv X ζ σ H s)(h:H p=some (.lst xs)) :
  ∃(i':List AJ) (n:Nat),B0 xs i'/\s.heap.get? p=some { cls:=.type "list",data:=.seq i'.toArray n }/\xs.length<=sizeLine:=by
 obtain⟨z,i',n,r,e⟩:=I.hok p _ h;exact⟨i',n,r,e,z⟩
theorem Inv.lstUpd{ζ:List (Ab×Obj)}{σ:St}{H:Hp}{s:AS}{p:Ab}{xs ys:List V}{i' its':List AJ}{n n':Nat}{f:Obj->Obj}(I:Inv X ζ σ H s)(h:H p=some (.lst xs))
  (ho:s.heap.get? p=some { cls:=.type "list",data:=.seq i'.toArray n }) (hf:f { cls:=.type "list",data:=.seq i'.toArray n }={ cls:=.type "list",data:=.seq its'.toArray n' }) (r:B0 ys its') (hz:ys.length<=sizeLine) (t:Nat) :
  Inv X ζ σ (upd H p (.lst ys)) { s with heap:=s.heap.update p f,toks:=t }:=by
 have e:(s.heap.update p f).get? p=some { cls:=.type "list",data:=.seq its'.toArray n' }:=by
  rw[NU f ho (by rw[hf] <;> rfl),hf]
 refine I.write (x:=p) (e:=p) (by rw[h];trivial) (.inl rfl) (λb u hb q=>(X9 _ _ (Ci hb)).trans q) ⟨_,e⟩ ?_;exact⟨hz,its',n',r,e⟩
def rj:V->V->V->Hp->(Hp->Prop)->Prop:=λo i v H Q=>∃p xs k j,o=.ref p/\i=.int k/\H p=some (.lst xs)/\ixN xs.length k=some j/\Q (upd H p (.lst (xs.set j v)))
theorem dw:tZ X rj:=by
 intro ζ s σ H o i v ov iv u Q I ro ri rv h;obtain⟨p,xs,k,j,rfl,rfl,hp,hj,q⟩:=h;cases ro;obtain⟨t,rfl⟩:=ri;obtain⟨i',n,r,ho,hz⟩:=I.lst hp;obtain⟨h1,h2,h3,h4⟩:=aG hj;have hl:=r.length;have hn:=QH
 have I':Inv X ζ σ (upd H p (.lst (xs.set j v))) { s with heap:=s.heap.update p (GY (·.setIfInBounds j u)) }:=
  I.lstUpd hp ho (Y1 i' n j u) (r.set rv j) (by rw[D5];exact hz) s.toks
 by_cases h0:0<=k
 ·have hk:k.toNat=j:=by
   rw[iM h0 h4]at h1;exact By h1
  exact PySem.W.ki_setAt ho h0 (by lia) (by rw[Aj,<-hl];exact h4) (by rw[hk];exact⟨_,I',q⟩)
 ·have hk:(k+(i'.toArray.size:Int)).toNat=j:=by
   rw[seqIndex_neg (by lia) h3]at h1;rw[Aj,<-hl];exact By h1
  exact PySem.W.ki_setBack ho (by lia) (by rw[Aj,<-hl];exact h3) (by lia) (by rw[hk];exact⟨_,I',q⟩)
theorem WK:K5 X (.builtin "len") (λxs H Q=>∃p ys,xs=[.ref p]/\(SqL X.K H p ys∨SqT X.K H p ys)/\Q (.int ys.length) H):=by
 intro ζ s σ H xs us Q I r h;obtain⟨p,ys,rfl,hq,q⟩:=h;obtain⟨u,rfl,rx⟩:=vals1 r;cases rx;have hn:=QH
 rcases hq with hq | hq
 ·obtain⟨i',r',pl,hz⟩:=I.list hq
  have hlen:=r'.length;exact Calls.call_len_list pl.isList (by simp only[Aj] <;> lia) ⟨.int ys.length,H,I.tok _,⟨s.toks+1,by rw[Aj,hlen]⟩,q⟩
 ·obtain⟨i',r',pl,hz⟩:=I.tuple hq
  have hlen:=r'.length;exact len_tuple pl (by simp only[Aj] <;> lia) ⟨.int ys.length,H,I.tok _,⟨s.toks+1,by rw[Aj,hlen]⟩,q⟩
theorem WJ:K5 X (.type "list") (λxs H Q=>∃p ys,xs=[.ref p]/\(SqL X.K H p ys∨SqT X.K H p ys)/\∀l,H l=none->Q (.ref l) (upd H l (.lst ys))):=by
 intro ζ s σ H xs us Q I r h;obtain⟨p,ys,rfl,hq,q⟩:=h;obtain⟨u,rfl,rx⟩:=vals1 r;cases rx
 have fin:∀(i':List AJ),B0 ys i'->ys.length<=sizeLine->∀(h':DT) (c':Nat),(∀b o',s.heap.get? b=some o'->h'.get? b=some o') ->
   h'.get? s.heap.objs.size=some { cls:=.type "list",dict:=none,data:=.seq i'.toArray c',slots:=#[] }->EP X ζ σ Q (.ref s.heap.objs.size) { s with heap:=h' }:=λi' r' hz h' c' kp e=>
  ⟨.ref s.heap.objs.size,_,I.laid (t':=s.toks) kp (AL _) (show Df X.prog X.w _ h' _ (.lst ys)from⟨hz,i',c',r',e⟩),rfl,q _ (I.hok.fresh (AL _))⟩
 rcases hq with hq | hq
 ·obtain⟨i',r',pl,hz⟩:=I.list hq
  have hlen:=r'.length;obtain⟨o,ho,hc,n,hd⟩:=pl.isList;exact call_list_seq p (.inl rfl) ho hc hd (λh' c' kp e=>fin i' r' hz h' c' kp e) (by simp only[Aj] <;> lia)
 ·obtain⟨i',r',pl,hz⟩:=I.tuple hq
  have hlen:=r'.length;obtain⟨o,ho,hc,n,hd⟩:=pl;exact call_list_seq p (.inr rfl) ho hc hd (λh' c' kp e=>fin i' r' hz h' c' kp e) (by simp only[Aj] <;> lia)
theorem UA:K5 X (.type "tuple") (λxs H Q=>∃p ys,xs=[.ref p]/\((SqL X.K H p ys/\∀l,H l=none->Q (.ref l) (upd H l (.tup ys)))∨(SqT X.K H p ys/\Q (.ref p) H))):=by
 intro ζ s σ H xs us Q I r h;obtain⟨p,ys,rfl,h⟩:=h;obtain⟨u,rfl,rx⟩:=vals1 r;cases rx
 rcases h with⟨hq,q⟩ | ⟨hq,q⟩
 ·obtain⟨i',r',pl,hz⟩:=I.list hq
  have hlen:=r'.length;refine call_tuple_list pl.isList (λh' kp=>?_) (by simp only[Aj] <;> lia);have I1:Inv X ζ σ H { s with heap:=h' }:=I.kept (t':=s.toks) kp
  have I2:Inv X ζ σ (upd H h'.objs.size (.tup ys)) { s with heap:=h'.push { cls:=.type "tuple",data:=.seq i'.toArray } }:=
   I1.laid (t':=s.toks) (λb o e=>AT _ e) (AL _) (show Df X.prog X.w _ _ _ (.tup ys)from⟨⟨hz,⟨_,Ao _ rfl,rfl⟩⟩,i',r',c6 _ _⟩)
  exact⟨.ref h'.objs.size,_,I2,rfl,q _ (I1.hok.fresh (AL _))⟩
 ·obtain⟨i',r',pl,hz⟩:=I.tuple hq
  exact call_tuple_same pl ⟨.ref p,H,I,rfl,q⟩
def tyV(K:AG)(T:String)(x:V)(H:Hp):Prop:=match x with
 | .str _=>T = "str"
 | .int _=>T = "int"
 | .ref p=>(T = "list"/\∃xs,SqL K H p xs)∨(T = "tuple"/\∃o,K.lookup p=some o/\o.cls=.type "tuple"/\o.dict=none) ∨
   (T = "dict"/\((∃f',H p=some (.dK f'))∨∃f',H p=some (.dT f')))∨(T = "set"/\∃S n,H p=some (.set S n))
 | _=>False
theorem dc(I:Inv X ζ σ H s)(r:RelV x v)(ty:tyV X.K T x H) :
  s.TypeIs v T/\∀a,v=.ref a->∃ob,s.heap.get? a=some ob/\ob.dict=none:=by
 cases x with
 | str z=>
  obtain⟨t,rfl⟩:=r;cases(show T = "str" from ty);exact⟨typeIs_str s z t,λ_ e=>nomatch e⟩
 | int i=>
  obtain⟨t,rfl⟩:=r;cases(show T = "int" from ty);exact⟨typeIs_int s i t,λ_ e=>nomatch e⟩
 | ref p=>
  cases r
  rcases ty with⟨rfl,xs,hq⟩ | ⟨rfl,o,hk,hc,hd⟩ | ⟨rfl,hk⟩ | ⟨rfl,S,n,hk⟩
  ·obtain⟨i',_,pl,_⟩:=I.list hq
   refine⟨pl.isList.typeIs,λa e=>?_⟩;cases e;obtain⟨o,n,e,c,hd,_⟩:=pl;exact⟨o,e,hd⟩
  ·refine⟨⟨o,I.kIn p o hk,hc⟩,λa e=>?_⟩
   cases e;exact⟨o,I.kIn _ o hk,hd⟩
  ·have z:∃o,s.heap.get? p=some o/\o.ExactDict:=by
    rcases hk with⟨f',hk⟩ | ⟨f',hk⟩
    ·obtain⟨_,_,_,_,o,_,_,e,ex,_⟩:=I.hok p _ hk
     exact⟨o,e,ex⟩
    ·obtain⟨_,_,_,_,o,_,_,e,ex,_⟩:=I.hok p _ hk
     exact⟨o,e,ex⟩
   obtain⟨o,e,ex⟩:=z;refine⟨⟨o,e,ex.1⟩,λa e2=>?_⟩;cases e2;exact⟨o,e,ex.2.1⟩
  ·obtain⟨o,_,_,_,e,ex,_⟩:=I.hok p _ hk
   refine⟨⟨o,e,ex.1⟩,λa e2=>?_⟩;cases e2;exact⟨o,e,ex.2.1⟩
 | _=>exact Et ty
def tBM0(K:AG)(T:String)(r:V->List V->Hp->VK->Prop)(to:TE):TE:=λσ H Q=>to σ H λx H1=>tyV K T x H1/\r x [] H1 Q
def tBM(K:AG)(T:String)(r:V->List V->Hp->VK->Prop)(to:TE)(t:TA):TE:=λσ H Q=>to σ H λx H1=>tyV K T x H1/\t σ H1 λxs H2=>r x xs H2 Q
variable{o e:Expr}{es:List Expr}{to:TE}{t:TA}{name:Str}{apos ui:Pos}{T id:String}{r:V->List V->Hp->VK->Prop}
theorem oQ(pa:PlainAttrs T)(slot:Slot T name id)(Y':typeOf (.builtin id)=pure (.type "method_descriptor")) (hm:MtR X id r) (ho:PE X o to)
  (uE:GU o name X.env (Co o X.env)=Co o X.env:=by rfl) (uF:(apos.endLine==ui.line)=true:=by rfl):PE X (.Call (.Attribute o name apos) [] [] ui) (tBM0 X.K T r to):=by
 intro ζ s σ H Q I h;refine wpAny_Call_method0_late uE uF (thn (ho ζ s σ H _ I h) λv s1 ⟨x,H1,I1,r1,ty,q1⟩=>?_);obtain⟨h1,h2⟩:=dc I1 r1 ty;exact⟨T,id,pa,slot,Y',h1,h2,Wm rfl (PySem.evalArgs_none (hm ζ s1 σ H1 x [] v [] Q I1 r1 .nil q1))⟩
theorem lv(pa:PlainAttrs T)(slot:Slot T name id)(Y':typeOf (.builtin id)=pure (.type "method_descriptor")) (hm:MtR X id r) (ho:PE X o to) (ha:PA X (e :: es) t)
  (uE:GU o name X.env (Co o X.env)=Co o X.env:=by rfl)
  (vU:((E6 ui (Ag (e :: es) X.env)).all (λx=>!x.1)&&(YH ui (Pm [] X.env)).all (λx=>x.1.isSome)
    &&decide ((e :: es).length+([]:List X8).length+(if ([]:List X8).isEmpty then 0 else 1) < 30))=true:=by rfl)
  (uF:(apos.endLine==ui.line)=true:=by rfl) (hs:Ag (e :: es) X.env=(false,Co e X.env) :: Ag es X.env:=by rfl) (uO:(E6 ui (Ag es X.env)).any (·.1)=false:=by rfl) :
  PE X (.Call (.Attribute o name apos) (e :: es) [] ui) (tBM X.K T r to t):=by
 intro ζ s σ H Q I h;refine wpAny_Call_method_late uE vU uF rfl (thn (ho ζ s σ H _ I h) λv s1 ⟨x,H1,I1,r1,ty,q1⟩=>?_);obtain⟨h1,h2⟩:=dc I1 r1 ty;refine⟨T,id,pa,slot,Y',h1,h2,?_⟩;have hA:=ha ui ζ s1 σ H1 _ I1 q1;rw[hs]at hA ⊢;refine Wm (by show(false||(E6 ui (Ag es X.env)).any (·.1))=false;rw[uO] <;> rfl) (Calls.evalArgs_plain ?_)
 exact thn hA λus s2 ⟨vs,H2,I2,r2,q2⟩=>hm ζ s2 σ H2 x vs v us Q I2 r1 r2 q2
end
section
def MtM(X:Cx)(id:String)(r:V->List V->Hp->VK->Prop):Prop:=
 ∀(ζ:List (Ab×Obj)) (s:AS) (σ:St) (H:Hp) (x:V) (xs:List V) (v:AJ) (us:List AJ) (Q:VK),Inv X ζ σ H s->RelV x v->B0 xs us->r x xs H Q ->
  Aq (Ad X.prog X.w) X.A (call (.builtin id) (v :: us)) (EP X ζ σ Q) X.xe s
theorem B0.one:∀{x:V} {us:List AJ},B0 [x] us->∃u,us=[u]/\RelV x u
 | _,_,.cons r .nil=>⟨_,rfl,r⟩
section
variable{X:Cx}{ζ:List (Ab×Obj)}{σ:St}{H:Hp}{s:AS}{a:Ab}{y v:V}{u r:AJ}{o:Option V}{A:Cj}{E:AJ->AS->Prop}
theorem Inv.big(I:Inv X ζ σ H s):EG < s.heap.objs.size:=by
 have h:Bc < s.heap.objs.size:=(I.mod.glob.keeps I.bk).lt;exact qm (by decide) h
theorem cR(hu:A.units+1 < FX)(I:Inv X ζ σ H s)(g:Pe H a y (some v))(ry:RelV y u)(h:∀w' s',Inv X ζ σ H s'->RelV v w'->Q w' s') :
  Aq (Ad X.prog X.w) A (Ki (.ref a) u) Q E s:=by
 rcases g with⟨f',k,e,ey,l⟩ | ⟨f',k,b,e,ey,eb,l⟩
 ·subst ey
  obtain⟨z,hd,vs,rel,dd⟩:=Xt I.hok e;obtain⟨w',hw,uT⟩:=Nt.some_of (v:=v) (o:=TU vs k) (by rw[l];exact rel.val k);exact wpAny_getItem_of (Xo ry) dd.mapOf hw (h w' _ (I.tok _) uT)
 ·subst ey
  cases(show u=Bb b from ry);obtain⟨z,hd,xs,rel,dd⟩:=Xs I.hok e;obtain⟨w',hw,uT⟩:=Nt.some_of (v:=v) (o:=(YI xs k).map (·.2)) (by rw[l];exact rel.val k);obtain⟨p,hp,wZ⟩:=He.mp hw;refine wpAny_getItem_heap (LB hu) (Sk I.hok eb) dd hp ?_;rw[wZ];exact h w' _ (I.tok _) uT
theorem d_in(hu:A.units+1 < FX)(I:Inv X ζ σ H s)(g:Pe H a y o)(ry:RelV y u)(h:∀s',Inv X ζ σ H s'->Q (.bool o.isSome) s') :
  Aq (Ad X.prog X.w) A (Ch .In u (.ref a)) Q E s:=by
 rcases g with⟨f',k,e,ey,l⟩ | ⟨f',k,b,e,ey,eb,l⟩
 ·subst ey
  obtain⟨z,hd,vs,rel,dd⟩:=Xt I.hok e;refine wpAny_in_of (Xo ry) hd dd.mapOf ?_;rw[<-(rel.val k).isSome_eq,<-l];exact h _ (I.tok _)
 ·subst ey
  cases(show u=Bb b from ry);obtain⟨z,hd,xs,rel,dd⟩:=Xs I.hok e;refine wpAny_in_heap (LB hu) (Sk I.hok eb) hd dd ?_;have q:=(rel.val k).isSome_eq;rw[Hg]at q;rw[<-q,<-l];exact h _ (I.tok _)
theorem lE(hu:A.units+1 < FX)(I:Inv X ζ σ H s)(g:Pe H a y o)(ry:RelV y u)(h:∀s',Inv X ζ σ H s'->Q (.bool (!o.isSome)) s') :
  Aq (Ad X.prog X.w) A (Ch .NotIn u (.ref a)) Q E s:=by
 rcases g with⟨f',k,e,ey,l⟩ | ⟨f',k,b,e,ey,eb,l⟩
 ·subst ey
  obtain⟨z,hd,vs,rel,dd⟩:=Xt I.hok e;refine wpAny_notIn_of (Xo ry) hd dd.mapOf ?_;rw[<-(rel.val k).isSome_eq,<-l];exact h _ (I.tok _)
 ·subst ey
  cases(show u=Bb b from ry);obtain⟨z,hd,xs,rel,dd⟩:=Xs I.hok e;refine wpAny_notIn_heap (LB hu) (Sk I.hok eb) hd dd ?_;have q:=(rel.val k).isSome_eq;rw[Hg]at q;rw[<-q,<-l];exact h _ (I.tok _)
theorem aX(I:Inv X ζ σ H s)(mu:Mut (H a))(hs:FI a s.heap h')(he:∃q,h'.get? a=some q)(new:Df X.prog X.w (upd H a ob) h' a ob) :
  Inv X ζ σ (upd H a ob) { s with heap:=h',toks:=t' }:=
 I.write (x:=a) (e:=a) mu (.inl rfl) (λb q hb z=>(hs.2 b hb).trans z) he new
theorem p8(z:f'.length<=sizeLine)(hd:(a==EG)=false)(rel:KV f' vs)(dd:h'.DictOf (Ev P w) a vs) :
  Df P w H' h' a (.dK f'):=⟨z,hd,vs,rel,dd⟩
theorem cQ(hu:A.units+1 < FX)(I:Inv X ζ σ H s)(g:X3 H a y v H')(ry:RelV y u)(rv:RelV v r)(h:∀s',Inv X ζ σ H' s'->Q () s') :
  Aq (Ad X.prog X.w) A (qO (.ref a) u r) Q E s:=by
 rcases g with⟨f',k,e,ey,l,eH⟩ | ⟨f',k,b,e,ey,eb,l,eH⟩
 ·subst ey eH
  obtain⟨z,hd,vs,rel,dd⟩:=tQ I.hok e
  have hz:vs.length<=sizeLine:=by rw[<-rel.length];exact z
  have hl:(MM f' k v).length<=sizeLine:=by have:=Qn f' k v;lia
  refine wpAny_setItem_pairs (hsz:=hz) (Xo ry) dd λh' zB hs=>h _ ?_
  have he:∃q,h'.get? a=some q:=let ⟨q,_,_,hq,_⟩:=zB;⟨q,hq⟩
  exact aX I (by rw[e];exact MV) hs he (p8 hl hd (rel.put k rv) zB)
 ·subst ey eH
  cases(show u=Bb b from ry);obtain⟨z,hd,xs,rel,dd⟩:=tO I.hok e
  have hz:xs.length<=sizeLine:=by rw[<-FK rel];exact z
  have hl:(MM f' k v).length<=sizeLine:=by have:=Qn f' k v;lia
  refine wpAny_setItem_heap (hsz:=hz) (LB hu) (Sk I.hok eb) dd λh' zB hs=>h _ ?_
  obtain⟨q,es,ep,hq,h2,h3,h4,_,h5⟩:=zB;refine aX I (by rw[e];exact MV) hs ⟨q,hq⟩ ⟨hl,hd,_,(rel.put k eb rv).keeps λc ys ec=>?_,q,es,ep,hq,h2,h3,h4,h5⟩;rw[Bo (sY ec e (λz=>nomatch z))];exact ec
variable{X:Cx}{ζ:List (Ab×Obj)}{σ:St}{H:Hp}{s:AS}{l:Ab}{xs ys:List V}
theorem Inv.lset{i' its':List AJ}{n:Nat}{f:Array AJ->Array AJ}{t':Nat}(I:Inv X ζ σ H s)(hH:H l=some (.lst xs))
  (e:s.heap.get? l=some { cls:=.type "list",data:=.seq i'.toArray n }) (hf:f i'.toArray=its'.toArray) (hv:B0 ys its') (hz:ys.length<=sizeLine) :
  Inv X ζ σ (upd H l (.lst ys)) { s with heap:=s.heap.update l (GY f),toks:=t' }:=by
 have q:=PySem.IsL.update e f;rw[hf]at q;refine I.write (x:=l) (e:=l) (by rw[hH];exact trivial) (.inl rfl) (λb' u hb hu=>(X9 s.heap (GY f) (Ci hb)).trans hu) ⟨_,q⟩ ?_;exact⟨hz,its',_,hv,q⟩
theorem Inv.lnew(I:Inv X ζ σ H s)(hv:B0 ys i')(hz:ys.length<=sizeLine) :
  Inv X ζ σ (upd H s.heap.objs.size (.lst ys)) { s with heap:=s.heap.push { cls:=.type "list",data:=.seq i'.toArray },toks:=t' }:=
 I.laid (λ_ _ q=>AT _ q) (AL _) ⟨hz,i',0,hv,Ao _ rfl⟩
theorem Inv.fresh(I:Inv X ζ σ H s):H s.heap.objs.size=none:=I.hok.fresh (AL _)
theorem Inv.lstM(I:Inv X ζ σ H s)(hH:H l=some (.lst xs)):xs.length<=sizeLine/\∃(i':List AJ) (n:Nat),B0 xs i'/\xs.length=i'.length/\s.heap.get? l=some { cls:=.type "list",data:=.seq i'.toArray n }:=by
 obtain⟨z,i',n,r,e⟩:=I.hok l _ hH;exact⟨z,i',n,r,r.length,e⟩
theorem fG(h:n<=sizeLine):JG n=false:=by
 unfold JG;exact wY (by lia)
end
def qH(i:Expr):Prop:=∀ov iv,WT i false ov iv=operate [ov,iv] (Ki ov iv)
theorem jT{prog}{w}{A}{E}{s}{env}{value slice}{pos}{T id}{Q}
  (hl:typeLookup (.type T) "__getitem__" = pure (some (.builtin id))) (hs:qH slice)
  (h:Aq (Ad prog w) A (Co value env) (λo s₁=>Aq (Ad prog w) A (Co slice env) (λi s₂=>s₂.TypeIs o T/\Aq (Ad prog w) A (Ki o i) Q E s₂) E s₁) E s) :
  Aq (Ad prog w) A (Co (.Subscript value slice pos) env) Q E s:=by
 refine YJ (Hr h (λo s₁ h₁=>Hr h₁ (λi s₂ h₂=>?_) λ_ _ x=>x) λ_ _ x=>x);obtain⟨hT,h₂⟩:=h₂;unfold RG;refine AC ?_;rw[getitemInPython_of_ne hT.not_modules];refine AC (wpAny_specialOf hT hl ?_)
 have fin:Aq (Ad prog w) A (WT slice false o i) (λr s₃=>Aq (Ad prog w) A (letTemporaryGo value o r >>= λ_=>pure r) Q E s₃) E s₂:=by
  rw[hs o i];exact wpAny_operating (Hr h₂ (λr s₃ h₃=>AC (wpAny_letTemporaryGo (AO h₃))) λ_ _ x=>x)
 first
  | exact AO (AC fin)
  | exact AC (AO (AC fin))
  | exact AC fin
theorem Xu(I:Inv X ζ σ H s)(g:Pe H a y o):s.TypeIs (.ref a) "dict":=by
 rcases g with⟨f',k,e,_,_⟩ | ⟨f',k,b,e,_,_,_⟩
 ·obtain⟨_,_,vs,_,dd⟩:=Xt I.hok e
  exact dd.typeIs
 ·obtain⟨_,_,xs,_,dd⟩:=Xs I.hok e
  exact dd.typeIs
def rR(td ty:TE):TE:=λσ H Q=>td σ H λx H1=>ty σ H1 λy H2=>∃a v,x=.ref a/\Pe H2 a y (some v)/\Q v H2
def rP(ty td:TE):TE:=λσ H Q=>ty σ H λy H1=>td σ H1 λx H2=>∃a o,x=.ref a/\Pe H2 a y o/\Q (.bl o.isSome) H2
def Zq(ty td:TE):TE:=λσ H Q=>ty σ H λy H1=>td σ H1 λx H2=>∃a o,x=.ref a/\Pe H2 a y o/\Q (.bl (!o.isSome)) H2
def rf(td ty tv:TE):TS:=λD σ H=>tv σ H λv H1=>td σ H1 λx H2=>ty σ H2 λy H3=>∃a H4,x=.ref a/\X3 H3 a y v H4/\D.nx σ H4
variable{X:Cx}
def jg:V->List V->Hp->VK->Prop:=λx vs H Q=>∃l xs y,x=.ref l/\vs=[y]/\H l=some (.lst xs)/\xs.length < sizeLine/\Q .non (upd H l (.lst (xs++[y])))
theorem UX:MtM X "list.append" jg:=by
 intro ζ s σ H x vs v us Q I rx rv h;obtain⟨l,xs,y,rfl,rfl,hH,hz,q⟩:=h;cases rx;obtain⟨u,rfl,ru⟩:=rv.one;obtain⟨z,i',n,r,hl,e⟩:=I.lstM hH;refine call_meets F.slot_list_append ⟨_,e,rfl⟩ F.entry_list_append (F.args_list_append_2 _ _) (PySem.list_append l i'.toArray n u (by rw[Aj];lia)) ⟨e,?_⟩;refine⟨.non,_,I.lset (its':=i'++[u]) hH e (by simp) (r.append (.cons ru .nil)) ?_,rfl,q⟩;rw[AX,Au]
 lia
def jf:V->List V->Hp->VK->Prop:=λx vs H Q=>∃l b xs zs,x=.ref l/\vs=[.ref b]/\H l=some (.lst xs)/\H b=some (.lst zs)/\xs.length+zs.length<=sizeLine/\Q .non (upd H l (.lst (xs++zs)))
theorem bw:MtM X "list.extend" jf:=by
 intro ζ s σ H x vs v us Q I rx rv h;obtain⟨l,b,xs,zs,rfl,rfl,hH,hB,hz,q⟩:=h;cases rx;obtain⟨u,rfl,ru⟩:=rv.one;cases ru;obtain⟨z,i',n,r,hl,e⟩:=I.lstM hH;obtain⟨z2,ur,n2,r2,vy,e2⟩:=I.lstM hB
 have hsz:i'.toArray.size+ur.toArray.size<=sizeLine:=by rw[Aj,Aj];lia
 have yz:¬(!i'.toArray.isEmpty&&JG (i'.toArray.size+ur.toArray.size))=true:=by
  rw[fG hsz,Bool.and_false];exact AK
 refine call_meets F.slot_list_extend ⟨_,e,rfl⟩ F.entry_list_extend (F.args_list_extend_2 _ _)
  (AutoSeq1.list_extend_list_list_0 l i'.toArray n b ur.toArray n2 yz (by rw[Aj];lia) (by lia)) ⟨e,e2,?_⟩
 refine⟨.non,_,I.lset (its':=i'++ur) hH e (by simp) (r.append r2) ?_,rfl,q⟩;rw[AX];omega
def rCat:R2:=λx y H Q=>∃l b xs zs,x=.ref l/\y=.ref b/\H l=some (.lst xs)/\H b=some (.lst zs)/\xs.length+zs.length<=sizeLine/\∀p,H p=none->Q (.ref p) (upd H p (.lst (xs++zs)))
theorem oZ:OpR X (DR .Add) rCat:=by
 intro ζ s σ H x y v u Q I rx ry h;obtain⟨l,b,xs,zs,rfl,rfl,hH,hB,hz,q⟩:=h;cases rx;cases ry;obtain⟨z,i',n,r,hl,e⟩:=I.lstM hH;obtain⟨z2,ur,n2,r2,vy,e2⟩:=I.lstM hB;refine PySem.P.add_list e e2 ?_ (by rw[Aj,Aj];lia)
 have ea:i'.toArray++ur.toArray=(i'++ur).toArray:=by simp
 rw[ea];exact⟨.ref _,_,I.lnew (t':=s.toks) (r.append r2) (by rw[AX];omega),rfl,q _ I.fresh⟩
section
variable{X:Cx}{o i value:Expr}{pos pos':Pos}{td ty tv:TE}
theorem j4(hu:X.A.units+1 < FX)(ho:PE X o td)(hi:PE X i ty)(hs:qH i):PE X (.Subscript o i pos) (rR td ty):=by
 intro ζ s σ H Q I h;refine jT PySem.F.slot_dict_getitem.lookup hs (thn (ho ζ s σ H _ I h) λu s1 ⟨x,H1,I1,rx,q1⟩=>thn (hi ζ s1 σ H1 _ I1 q1) λiv s2 ⟨y,H2,I2,ry,a,v,ex,g,q2⟩=>?_);subst ex;obtain rfl:u=Bb a:=rx;exact⟨Xu I2 g,cR hu I2 g ry λw' s3 I3 uT=>⟨v,H2,I3,uT,q2⟩⟩
theorem oR(hu:X.A.units+1 < FX)(hi:PE X i ty)(ho:PE X o td):PC X .In i o (rP ty td):=by
 intro ζ s σ H Q I h
 refine thn (hi ζ s σ H _ I h) λiv s1 ⟨y,H1,I1,ry,q1⟩=>thn (ho ζ s1 σ H1 _ I1 q1) λu s2 ⟨x,H2,I2,rx,a,ov,ex,g,q2⟩=>?_
 subst ex;obtain rfl:u=Bb a:=rx
 exact d_in hu I2 g ry λs3 I3=>⟨.bl ov.isSome,H2,I3,rfl,q2⟩
theorem UR(hu:X.A.units+1 < FX)(hi:PE X i ty)(ho:PE X o td):PC X .NotIn i o (Zq ty td):=by
 intro ζ s σ H Q I h
 refine thn (hi ζ s σ H _ I h) λiv s1 ⟨y,H1,I1,ry,q1⟩=>thn (ho ζ s1 σ H1 _ I1 q1) λu s2 ⟨x,H2,I2,rx,a,ov,ex,g,q2⟩=>?_
 subst ex;obtain rfl:u=Bb a:=rx
 exact lE hu I2 g ry λs3 I3=>⟨.bl (!ov.isSome),H2,I3,rfl,q2⟩
theorem jn(hu:X.A.units+1 < FX)(ho:PE X o td)(hi:PE X i ty)(hv:PE X value tv)(hs:G6 value (some (.Subscript o i pos')) pos.line X.env=pure false) :
  PS X (.Assign [.Subscript o i pos'] value pos) (rf td ty tv):=by
 intro ζ s σ H D I h;refine wpAny_Assign_Subscript (thn (hv ζ s σ H _ I h) λr s1 ⟨v,H1,I1,rv,q1⟩=>thn (ho ζ s1 σ H1 _ I1 q1) λu s2 ⟨x,H2,I2,rx,q2⟩=>thn (hi ζ s2 σ H2 _ I2 q2) λiv s3 ⟨y,H3,I3,ry,a,H4,ex,g,q3⟩=>?_) hs;subst ex;obtain rfl:u=Bb a:=rx
 exact cQ hu I3 g ry rv λs4 I4=>⟨σ,H4,I4,q3⟩
end
theorem gj(h:DT)(hb:EG < h.objs.size):Df P w H (h.push { cls:=.type "dict",data:=.dict #[] }) h.objs.size (.dK []):=
 ⟨Dv _,beq_eq_false_iff_ne.mpr (Ci (BN hb)),[],.nil,DT.DictOf.new h⟩
theorem gg(h:DT)(hb:EG < h.objs.size):Df P w H (h.push { cls:=.type "dict",data:=.dict #[] }) h.objs.size (.dT []):=
 ⟨Dv _,beq_eq_false_iff_ne.mpr (Ci (BN hb)),[],.nil,_,#[],0,Ao _ rfl,⟨rfl,rfl,rfl⟩,rfl,rfl,EX⟩
def nP:TE:=λ_ H Q=>∀p,H p=none->Q (.ref p) (upd H p (.dK []))
def nO:TE:=λ_ H Q=>∀p,H p=none->Q (.ref p) (upd H p (.dT []))
variable{s:AS}
section
variable{X:Cx}{pos:Pos}
theorem ed:PE X (.Dict [] [] pos) nP:=λζ s σ H Q I h=>
 qi ⟨.ref s.heap.objs.size,_,I.laid (a:=s.heap.objs.size) (o:=.dK []) (t':=s.toks) (λ_ _ q=>AT _ q) (AL _) (gj s.heap I.big),rfl,h _ (I.hok.fresh (AL _))⟩
theorem eZ:PE X (.Dict [] [] pos) nO:=λζ s σ H Q I h=>
 qi ⟨.ref s.heap.objs.size,_,I.laid (a:=s.heap.objs.size) (o:=.dT []) (t':=s.toks) (λ_ _ q=>AT _ q) (AL _) (gg s.heap I.big),rfl,h _ (I.hok.fresh (AL _))⟩
end
end
end L2
namespace Att
open PySem PySem.W PySem.Calls PyProof.Rows
theorem RC:∀(ns:ZLi) (vs:List AJ),WellAll P h vs (ns.map tj)->G9 vs ns:=by
 intro ns
 induction ns with
 | nil=>
  intro vs w;rw[QZ]at w;cases w;exact .nil
 | cons n ns ih=>
  intro vs w;rw[BG]at w
  cases w with
  | cons a b=>
   cases a;exact .cons _ _ (ih _ b)
theorem bW{l:OpenLaw}{n:Nat}(hn:l.most=some n){P:Params}{h:DT}{args:List WData}{vals:List AJ}
  (wC:l.row.toRowW.claim.pre args=true) (Z':WellAll P h vals args) :
  ∃a vs ns,vals=[Bb a]/\args=[WData.list (ns.map tj)]/\h.get? a=some { cls:=.type "list",data:=.seq vs.toArray }/\G9 vs ns/\ns.length<=n:=by
 have Α:WShape.hasAll [] args [.list .int]=true:=(pre_splitW wC).1;have hc:l.pre.holds [] { args:=args }=true:=(pre_splitW wC).2;obtain⟨d,r,rfl,h1,h2⟩:=hasAllW_cons Α;obtain rfl:=hasAllW_nil h2;obtain⟨xs,rfl,h3⟩:=hasW_list h1;obtain⟨ns,rfl⟩:=items_int h3
 have hlen:ns.length<=n:=by
  unfold OpenLaw.pre at hc
  have h4:(WTm.not (.lt (.lit (.int (n:Int))) (.len (.arg 0)))).holds [] { args:=[.list (ns.map .int)] }=true:=by
   have h4:=(holds_andW hc).1;rw[hn]at h4;exact h4
  have h5:=condW_of h4 (w_not (w_lt w_lit (w_len_list (w_arg rfl))));rw[AF]at h5
  refine Ro λq=>?_
  have q':(n:Int) < ((ns.length:Nat):Int):=by omega
  first
   | (rw[wX q']at h5;exact zX h5 (by decide))
   | (simp at h5;omega)
 cases Z' with
 | cons w1 w2=>
  cases w2
  cases w1 with
  | list ho xw=>exact⟨_,_,ns,rfl,rfl,ho,RC ns _ xw,hlen⟩
theorem bj(l:OpenLaw)(args:List WData):l.row.toRowW.claim.post args (.bool true) args=true:=
 postW_of (r:=l.row.toRowW) (X:=(true==true))
  (show qS [] (.bool true) .bool=true by first | rfl | decide | simp[qS,WShape.arms,WShape.armsAll])
  (show(WTm.eq .res (.lit (.bool true))).value [] { args:=args,res:=some (.bool true),after:=args }=some (.bool (true==true))from w_eq_bool (w_res rfl) w_lit) rfl
theorem Xz{l:OpenLaw}{n:Nat}{q:Bs}{loose:List Str}{XP:(Str->Option AJ)->DT->Prop}{YP:CV->DT->Prop}{d:DefRec}
  (hn:l.most=some n) (yA:d.params.defaults=[])
  (call:∀(w:CV) (s₀ s₁:AS) (mg mb:Str->Option AJ) (fa:Ab) (o:Obj) (pm cd doc:AJ) (a:Ab) (vs:List AJ) (ns:ZLi),
   Ground q loose [] XP w s₀ mg mb s₁.heap->YP w s₁.heap ->
   s₁.heap.get? fa=some o->o.data=.func (docDef d.name d.params d.body d.scope pm cd doc)->s₁.heap.CodeRec cd d.name->mg d.name=some (.ref fa) ->
   s₁.heap.get? a=some { cls:=.type "list",data:=.seq vs.toArray }->G9 vs ns->ns.length<=n->s₁.gens = #[] ->
   OA (Ad l.prog w) TX (.call (.ref fa) ⟨[.ref a],[]⟩) (λr s'=>r=.ok (.ret (.bool true))/\OldK s₁.heap s'.heap/\s'.os=s₁.os/\Km s'.gens) s₁) :
  WalkO q loose XP YP l.row.toRowW d [] (λf vs=>aw f vs):=by
 intro w s₀ s₁ mg mb G Y fa o pm cd doc dV kV ho hd vE hD xx hg args vals as wC hlay hrd Z' wD;obtain rfl:dV=.none:=Dflts.none hD yA;obtain rfl:kV=.none:=Dflts.noKw hD;obtain⟨a,vs,ns,rfl,rfl,xy,hints,hlen⟩:=bW hn wC Z';refine enter_call (TW (call w s₀ s₁ mg mb fa o pm cd doc a vs ns G Y ho (fd_plain hd) vE xx xy hints hlen hg) λr s' hq=>?_);obtain⟨rfl,h2,h3,h4⟩:=hq;exact⟨.inl ⟨.bool true,.bool true,[],rfl,λ_=>rfl,.bool true,bj l _,λ_=>⟨qq,λ_ hm=>(nomatch hm)⟩⟩,h2,h3,h4⟩
end Att
namespace L2
open PySem PySem.Spec PyProof.Rows
theorem UM:∀{vs:List AJ} {ns:ZLi},G9 vs ns->B0 (ns.map V.int) vs
 | _,_,.nil=>.nil
 | _,_,.cons n t h=>.cons ⟨t,rfl⟩ (UM h)
def lR(H:Hp):Prop:=∀b,H b=none∨∃o xs,H b=some (.frz o (.lst xs))
theorem fZ{P}{w}{K}{mg mb}{CX}{k}{fa a}{fd}{x}{sp}{s₁}{vs}{ns}
  (KX:K.In s₁.heap) (vF:s₁.heap.Ns Bc mg) (hb:s₁.heap.Ns YG mb) (hbb:∀x:Str,x≠"__name__"->mb x=G7 x) (Β:s₁.heap.NoLimit) (hg:s₁.gens = #[])
  (ha:s₁.heap.get? a=some { cls:=.type "list",data:=.seq vs.toArray }) (hi:G9 vs ns) (hl:ns.length<=sizeLine) (hr:Hj k TX)
  (F:∀base:DT,K.In base->base.Ns Bc mg->DC P w K mg base CX k fa fd [x] sp) (yB:∀(s:AS) (u:AJ),YB s fd ⟨[u],[]⟩ [(x,u)])
  (yd:∀H:Hp,lR H->SqL K H a (ns.map V.int)->sp [.ref a] H (λv _=>v=.bl true) λ_ _ _=>False)
  (Γ:∀H e s',CX [] H s₁ (λ_ _ _=>False) e s'->False) :
  OA (Ad P w) TX (.call (.ref fa) ⟨[.ref a],[]⟩) (λr s'=>r=.ok (.ret (.bool true))/\OldK s₁.heap s'.heap/\s'.os=s₁.os/\Km s'.gens) s₁:=by
 have rv:=UM hi;have Δ:=hi.length
 have core:∀H:Hp,lR H->SqL K H a (ns.map V.int)->HOk P w H s₁.heap->(∀b,H b≠none->b=a)->(H a≠none->K.lookup a=none) ->
   OA (Ad P w) TX (.call (.ref fa) ⟨[.ref a],[]⟩) (λr s'=>r=.ok (.ret (.bool true))/\OldK s₁.heap s'.heap/\s'.os=s₁.os/\Km s'.gens) s₁:=by
  intro H hO hS hok hA hK
  have vz:∀{b:Ab} {o:Obj},s₁.heap.get? b=some o->H b=none->(V5 s₁.heap H).get? b=some o:=λe n=>gC e n
  have yw:∀{b:Ab} {o:Obj} {es:Array Qd} {ep:Nat},s₁.heap.get? b=some o->o.data=.dict es ep->H b=none:=λ{b o es ep} e d=>by
   cases q:H b with
   | none=>rfl
   | some u=>
    have e':b=a:=hA b (by rw[q];simp);subst e';rw[ha]at e;cases e;have d':Data.seq vs.toArray _=Data.dict es ep:=d;cases d'
  have zC:∀{b:Ab} {m:Str->Option AJ},s₁.heap.Ns b m->(V5 s₁.heap H).Ns b m:=λ{b m} ⟨o,es,ep,e,d,r⟩=>⟨o,es,ep,vz e (yw e d),d,r⟩
  have hKb:K.In (V5 s₁.heap H):=λb o e=>vz (KX b o e) (by
   cases q:H b with
   | none=>rfl
   | some u=>
    have e':b=a:=hA b (by rw[q];simp);subst e'
    rw[hK (by rw[q];simp)]at e;cases e)
  have hM:Mod K mg (V5 s₁.heap H):=⟨hKb,zC vF,⟨mb,zC hb,hbb⟩,let ⟨mc,h1,h2⟩:=Β;⟨mc,zC h1,h2⟩⟩;have e0:ZZ P w K mg (V5 s₁.heap H) TX [] s₁ H:=⟨rfl,hM,λb o e=>kH e,qo (cD _ _),trivial,λb hb=>zX (show b∈([]:List Ab)from hb) (by simp),hok,.of_eq hg⟩
  refine TW ((F _ hKb (zC vF)).run TX [] s₁ H ⟨[.ref a],[]⟩ [.ref a] [.ref a] _ _ hr e0 (yB s₁ (.ref a)) (.cons rfl .nil) (yd H hO hS)) λr s' h=>?_
  cases r with
  | error e=>exact(Γ H e s' h).elim
  | ok fl=>
   cases fl with
   | next=>exact Et h
   | brk=>exact Et h
   | cont=>exact Et h
   | ret u=>
    obtain⟨v,H',os,bare,un,Ε,r',q⟩:=h;have q':v=.bl true:=q;subst q';obtain rfl:u=av true:=r';refine⟨rfl,OldK.of_keep λb o e=>?_,os,bare⟩
    cases q:H b with
    | none=>exact un.keep b o e q (by intro z;exact zX (show b∈([]:List Ab)from z) (by simp)) (by simp)
    | some u=>
     rcases hO b with z | ⟨ob,xs,z⟩
     ·rw[q]at z;cases z
     ·have z2:=un.frzs b ob _ z
      obtain⟨e1,_⟩:=hok b _ z;obtain⟨e2,_⟩:=Ε b _ z2;rw[e]at e1;cases e1;exact e2
 cases hk:K.lookup a with
 | some o=>
  have e:=KX a o hk;rw[ha]at e;cases e
  refine core (λ_=>none) (λ_=>.inl rfl) (.inr ⟨_,vs.toArray,_,hk,rfl,rfl,rfl,by rw[Aj,Δ];exact hl,by simpa using rv⟩) (λb u z=>by have z':(none:Option HO)=some u:=z;cases z') (λb z=>zX rfl z) λz=>zX rfl z
 | none=>
  refine core (λb=>if b=a then some (.frz { cls:=.type "list",data:=.seq vs.toArray } (.lst (ns.map V.int)))else none) (λb=>?_) (.inl (.inr ⟨{ cls:=.type "list",data:=.seq vs.toArray },qX rfl⟩)) (λb u z=>?_) (λb z=>?_) λ_=>hk
  ·by_cases hb:b=a
   ·exact .inr ⟨_,_,qX hb⟩
   ·exact .inl (qY hb)
  ·by_cases hb:b=a
   ·have z':=(qX hb).symm.trans z
    cases z';subst hb;exact⟨ha,by rw[AF];exact hl,vs,_,rv,ha⟩
   ·have z':=(qY hb).symm.trans z
    cases z'
  ·by_cases hb:b=a
   ·exact hb
   ·exact zX (qY hb) z
theorem ip{l:PySem.W.OpenLaw}{n k:Nat}{q:Bs}{loose:List Str}{XP:(Str->Option AJ)->DT->Prop}{YP:CV->DT->Prop}{d:DefRec}{K:Params->AG}{CX:CV->CXT}{sp:CV->Sp}{x:Str}
  (hn:l.most=some n) (vd:n<=sizeLine) (yA:d.params.defaults=[]) (hr:Hj k TX)
  (hY:∀(w:CV) (h:DT),YP w h->(K w.params).In h)
  (F:∀(w:CV) (mg:Str->Option AJ) (fa:Ab) (h:DT),(K w.params).In h->h.Ns Bc mg->mg d.name=some (.ref fa) ->
   ∃fd:LG,(∀(s:AS) (u:AJ),YB s fd ⟨[u],[]⟩ [(x,u)]) /\
    ∀base:DT,(K w.params).In base->base.Ns Bc mg->DC l.prog w (K w.params) mg base (CX w) k fa fd [x] (sp w))
  (yd:∀(w:CV) (H:Hp) (a:Ab) (ns:ZLi),ns.length<=n->lR H->SqL (K w.params) H a (ns.map V.int)->sp w [.ref a] H (λv _=>v=.bl true) λ_ _ _=>False)
  (Γ:∀(w:CV) (H:Hp) (s:AS) (e:AJ) (s':AS),CX w [] H s (λ_ _ _=>False) e s'->False) :
  PySem.W.WalkO q loose XP YP l.row.toRowW d [] (λf vs=>aw f vs):=by
 refine Att.Xz hn yA λw s₀ s₁ mg mb fa o pm cd doc a vs ns G Y ho hd vE xx xy hints hlen hg=>?_
 have KX:=hY w _ Y;obtain⟨fd,hb,hF⟩:=F w mg fa _ KX G.T.g xx
 exact fZ KX G.T.g G.T.b G.T.builtins G.T.nolimit hg xy hints (Aw hlen vd) hr hF hb (λH hO hS=>yd w H a ns hlen hO hS) λH e s'=>Γ w H s₁ e s'
def Lj(s:DS)(j:Nat):DS:=match s with
 | .ClassDef _ _ _ body _ _ _ _ _ _ _=>body.getD j (.Pass ⟨0,0,0,0⟩)
 | _=>.Pass ⟨0,0,0,0⟩
def Ls(s:DS):Arguments:=match s with
 | .FunctionDef _ a _ _ _ _ _ _ _ _=>a
 | _=>{ posonlyargs:=[],args:=[],vararg:=none,kwonlyargs:=[],kw_defaults:=[],kwarg:=none,defaults:=[] }
def JD(s:DS):List DS:=match s with
 | .FunctionDef _ _ b _ _ _ _ _ _ _=>b
 | _=>[]
def BE(s:DS):TY:=match s with
 | .FunctionDef _ _ _ _ _ _ sc _ _ _=>sc
 | _=>{ kind:=.function,names:=[],isGenerator:=false,isCoroutine:=false }
structure Fun(K:AG)(x qual:Str)(st:DS)(f:Ab)(fd:LG):Prop where
 ex:∃(oc:AJ) (od:Option Ab) (kV doc pm:AJ) (an:Option Ab) (uq ct:AJ) (vO:Array (Option AJ)),
  fd=Iq x qual (Ls st) (JD st) (BE st) .none kV doc pm an uq ct/\K.lookup f=some ⟨oc,od,.func fd,vO⟩/\Rn K uq qual=true
 kp:Fe K (.ref f)=true
section
variable{K:AG}
theorem Fun.binds{x qual}{st}{f}{fd}{ps}(F:Fun K x qual st f fd)
  (h:∀(kV doc pm:AJ) (an:Option Ab) (uq ct:AJ) (us:List AJ),us.length=ps.length->iP (Iq x qual (Ls st) (JD st) (BE st) .none kV doc pm an uq ct) ⟨us,[]⟩=pure (ps.zip us)):Binds K fd ps []:=by
 obtain⟨oc,od,kV,doc,pm,an,uq,ct,vO,rfl,lk,vE⟩:=F.ex;exact .all (h kV doc pm an uq ct)
theorem gR{x qual}{st}{f}{oc}{od an}{vO}{kV doc pm uq ct}(l:K.lookup f=some ⟨oc,od,.func (Iq x qual (Ls st) (JD st) (BE st) .none kV doc pm an uq ct),vO⟩)
  (c:Rn K uq qual=true) (k:Fe K (.ref f)=true):Fun K x qual st f (Iq x qual (Ls st) (JD st) (BE st) .none kV doc pm an uq ct):=⟨⟨oc,od,kV,doc,pm,an,uq,ct,vO,rfl,l,c⟩,k⟩
end
section
variable{X:Cx}
theorem pv(i:Nat)(hN:X.N[i]?=some x:=by rfl)(hv:Vis X.env.scope x:=by first | exact NQ rfl | exact L8 (NQ rfl) | exact L8 (L8 rfl))(hd:(x==("__debug__" : Str))=false:=by decide)
  (vE:(x==("__classdict__" : Str))=false:=by decide):PE X (.Name x pos) (nL i):=oF hN hv hd vE
end
inductive D where
 | non | bl (b:Bool) | int (i:Int) | str (x:Str) | tup (ds:List D) | fro (ds:List D) | ref (n:Nat) | exc (C:Ab)
def UD(K:AG)(H:Hp)(a:Ab)(vs:List V):Prop:=
 (∃o,H a=some (.frz o (.lst vs))) ∨
  ∃(o:Obj) (i':Array AJ) (n:Nat),K.lookup a=some o/\o.cls=.type "list"/\o.dict=none/\o.data=.seq i' n/\i'.size<=sizeLine/\B0 vs i'.toList
theorem UD.sq{K}{H}{a}{vs}(h:UD K H a vs):SqL K H a vs:=by
 rcases h with h | h
 ·exact .inl (.inr h)
 ·exact .inr h
def ExcO(o:Obj)(C:Ab):Prop:=o.cls=.ref C/\o.dict=none/\∃vs,o.data=.fields vs
mutual
inductive CH(K:AG)(ρ:List Ab)(H:Hp):D->V->Prop where
 | non:CH K ρ H .non .non
 | bl (b:Bool):CH K ρ H (.bl b) (.bl b)
 | int (i:Int):CH K ρ H (.int i) (.int i)
 | str (x:Str):CH K ρ H (.str x) (.str x)
 | tup {ds:List D} {a:Ab} {vs:List V}:H a=some (.tup vs)->A0 K ρ H ds vs->CH K ρ H (.tup ds) (.ref a)
 | fro {ds:List D} {a:Ab} {vs:List V}:UD K H a vs->A0 K ρ H ds vs->CH K ρ H (.fro ds) (.ref a)
 | ref {n:Nat} {a:Ab}:ρ[n]?=some a->CH K ρ H (.ref n) (.ref a)
 | exc {C a:Ab} {o:Obj} {u:HO}:H a=some (.frz o u)->ExcO o C->CH K ρ H (.exc C) (.ref a)
inductive A0(K:AG)(ρ:List Ab)(H:Hp):List D->List V->Prop where
 | nil:A0 K ρ H [] []
 | cons {d:D} {v:V} {ds:List D} {vs:List V}:CH K ρ H d v->A0 K ρ H ds vs->A0 K ρ H (d :: ds) (v :: vs)
end
structure Le(K:AG)(ρ:List Ab)(H:Hp)(ρ':List Ab)(H':Hp):Prop where
 pre:∀(n:Nat) a,ρ[n]?=some a->ρ'[n]?=some a
 tup:∀a xs,H a=some (.tup xs)->H' a=some (.tup xs)
 frz:∀a o u,H a=some (.frz o u)->H' a=some (.frz o u)
 oth:∀a o,H a=some o->(∀n:Nat,ρ[n]?≠some a)->H' a=some o/\∀n:Nat,ρ'[n]?≠some a
theorem UD.mono{K}{H H'}{a}{xs}(l:∀a o u,H a=some (.frz o u)->H' a=some (.frz o u))(h:UD K H a xs):UD K H' a xs:=by
 rcases h with⟨o,h⟩ | h
 ·exact .inl ⟨o,l _ _ _ h⟩
 ·exact .inr h
section
variable{K:AG}{ρ ρ' ρ'':List Ab}{H H' vV:Hp}
theorem Le.fro(l:Le K ρ H ρ' H'):∀a xs,UD K H a xs->UD K H' a xs:=λ_ _ h=>h.mono l.frz
theorem Le.refl:Le K ρ H ρ H:=⟨λ_ _ h=>h,λ_ _ h=>h,λ_ _ _ h=>h,λ_ _ h n=>⟨h,n⟩⟩
theorem Le.trans(a:Le K ρ H ρ' H')(b:Le K ρ' H' ρ'' vV):Le K ρ H ρ'' vV:=
 ⟨λn x h=>b.pre n x (a.pre n x h),λx xs h=>b.tup x xs (a.tup x xs h),λx o u h=>b.frz x o u (a.frz x o u h),λx o h n=>b.oth x o (a.oth x o h n).1 (a.oth x o h n).2⟩
mutual
theorem CH.mono(l:Le K ρ H ρ' H'):∀{d:D} {v:V},CH K ρ H d v->CH K ρ' H' d v
 | _,_,.non=>.non
 | _,_,.bl b=>.bl b
 | _,_,.int i=>.int i
 | _,_,.str x=>.str x
 | _,_,.tup h r=>.tup (l.tup _ _ h) (A0.mono l r)
 | _,_,.fro h r=>.fro (l.fro _ _ h) (A0.mono l r)
 | _,_,.ref h=>.ref (l.pre _ _ h)
 | _,_,.exc h e=>.exc (l.frz _ _ _ h) e
theorem A0.mono(l:Le K ρ H ρ' H'):∀{ds:List D} {vs:List V},A0 K ρ H ds vs->A0 K ρ' H' ds vs
 | _,_,.nil=>.nil
 | _,_,.cons r t=>.cons (CH.mono l r) (A0.mono l t)
end
mutual
theorem CH.more(l:∀(n:Nat) a,ρ[n]?=some a->ρ'[n]?=some a):∀{d:D} {v:V},CH K ρ H d v->CH K ρ' H d v
 | _,_,.non=>.non
 | _,_,.bl b=>.bl b
 | _,_,.int i=>.int i
 | _,_,.str x=>.str x
 | _,_,.tup h r=>.tup h (A0.more l r)
 | _,_,.fro h r=>.fro h (A0.more l r)
 | _,_,.ref h=>.ref (l _ _ h)
 | _,_,.exc h e=>.exc h e
theorem A0.more(l:∀(n:Nat) a,ρ[n]?=some a->ρ'[n]?=some a):∀{ds:List D} {vs:List V},A0 K ρ H ds vs->A0 K ρ' H ds vs
 | _,_,.nil=>.nil
 | _,_,.cons r t=>.cons (CH.more l r) (A0.more l t)
end
mutual
theorem CH.keep(h1:∀a xs,H a=some (.tup xs)->H' a=some (.tup xs))(h2:∀a o u,H a=some (.frz o u)->H' a=some (.frz o u)):∀{d:D} {v:V},CH K ρ H d v->CH K ρ H' d v
 | _,_,.non=>.non
 | _,_,.bl b=>.bl b
 | _,_,.int i=>.int i
 | _,_,.str x=>.str x
 | _,_,.tup h r=>.tup (h1 _ _ h) (A0.keep h1 h2 r)
 | _,_,.fro h r=>.fro (h.mono h2) (A0.keep h1 h2 r)
 | _,_,.ref h=>.ref h
 | _,_,.exc h e=>.exc (h2 _ _ _ h) e
theorem A0.keep(h1:∀a xs,H a=some (.tup xs)->H' a=some (.tup xs))(h2:∀a o u,H a=some (.frz o u)->H' a=some (.frz o u)):∀{ds:List D} {vs:List V},A0 K ρ H ds vs->A0 K ρ H' ds vs
 | _,_,.nil=>.nil
 | _,_,.cons r t=>.cons (CH.keep h1 h2 r) (A0.keep h1 h2 t)
end
theorem A0.length:∀{ds:List D} {vs:List V},A0 K ρ H ds vs->ds.length=vs.length
 | _,_,.nil=>rfl
 | _,_,.cons _ t=>by rw[BB,BB,A0.length t]
theorem A0.get:∀{ds:List D} {vs:List V} {i:Nat} {d:D},A0 K ρ H ds vs->ds[i]?=some d->∃v,vs[i]?=some v/\CH K ρ H d v
 | _,_,_,_,.nil,e=>by simp at e
 | _,_,0,_,.cons r _,e=>by simp at e;subst e;exact⟨_,rfl,r⟩
 | _,_,i+1,d,.cons _ t,e=>by
  obtain⟨v,h1,h2⟩:=A0.get (i:=i) (d:=d) t (by simpa using e);exact⟨v,by simpa using h1,h2⟩
theorem A0.get':∀{ds:List D} {vs:List V} {i:Nat} {v:V},A0 K ρ H ds vs->vs[i]?=some v->∃d,ds[i]?=some d/\CH K ρ H d v
 | _,_,_,_,.nil,e=>by simp at e
 | _,_,0,_,.cons r _,e=>by simp at e;subst e;exact⟨_,rfl,r⟩
 | _,_,i+1,d,.cons _ t,e=>by
  obtain⟨v,h1,h2⟩:=A0.get' (i:=i) (v:=d) t (by simpa using e);exact⟨v,by simpa using h1,h2⟩
theorem A0.append:∀{ds es:List D} {vs us:List V},A0 K ρ H ds vs->A0 K ρ H es us->A0 K ρ H (ds++es) (vs++us)
 | _,_,_,_,.nil,s=>s
 | _,_,_,_,.cons r t,s=>.cons r (A0.append t s)
theorem A0.take:∀{ds:List D} {vs:List V} (n:Nat),A0 K ρ H ds vs->A0 K ρ H (ds.take n) (vs.take n)
 | _,_,0,_=>.nil
 | _,_,_+1,.nil=>.nil
 | _,_,n+1,.cons r t=>.cons r (A0.take n t)
theorem A0.drop:∀{ds:List D} {vs:List V} (n:Nat),A0 K ρ H ds vs->A0 K ρ H (ds.drop n) (vs.drop n)
 | _,_,0,r=>r
 | _,_,_+1,.nil=>.nil
 | _,_,n+1,.cons _ t=>A0.drop n t
theorem A0.set(r:CH K ρ H d v):∀{ds:List D} {vs:List V} (i:Nat),A0 K ρ H ds vs->A0 K ρ H (ds.set i d) (vs.set i v)
 | _,_,_,.nil=>.nil
 | _,_,0,.cons _ t=>.cons r t
 | _,_,i+1,.cons q t=>.cons q (A0.set r i t)
theorem A0.reverse(h:A0 K ρ H ds vs):A0 K ρ H ds.reverse vs.reverse:=by
 induction ds generalizing vs with
 | nil=>cases h;exact .nil
 | cons d ds ih=>
  cases h with
  | cons r t=>rw[cu,cu];exact(ih t).append (.cons r .nil)
theorem A0.of_ints:∀(ns:ZLi),A0 K ρ H (ns.map D.int) (ns.map V.int)
 | []=>.nil
 | n :: ns=>.cons (.int n) (A0.of_ints ns)
theorem A0.ints:∀{ns:ZLi} {vs:List V},A0 K ρ H (ns.map D.int) vs->vs=ns.map V.int
 | [],_,.nil=>rfl
 | n :: ns,_,.cons r t=>by
  cases r;rw[A0.ints (ns:=ns) t];rfl
end
inductive Ob where
 | lst (ds:List D)
 | dK (f':List (Key×D))
 | dT (f':List (List Key×D))
 | ins (C:Ab) (fs:List (Str×D))
 | fK (f':List (Key×D))
 | fT (f':List (List Key×D))
 | mem (L:Key->Int)
abbrev Sto:=List Ob
def Vz:List Key:=(D4 1000).map λ(i:Nat)=>Dd (i:Int)
abbrev KVR{κ:Type}(K:AG)(ρ:List Ab)(H:Hp):List (κ×D)->List (κ×V)->Prop:=Gx λ(p:κ×D) (q:κ×V)=>p.1=q.1/\CH K ρ H p.2 q.2
def Ea(K:AG)(ρ:List Ab)(H:Hp)(a:Ab):Ob->Prop
 | .lst ds=>∃vs,H a=some (.lst vs)/\A0 K ρ H ds vs
 | .dK f'=>∃tx,H a=some (.dK tx)/\KVR K ρ H f' tx
 | .dT f'=>∃tx,H a=some (.dT tx)/\KVR K ρ H f' tx
 | .ins C fs=>∃dx wj,H a=some (.ins C dx wj)/\KVR K ρ H fs wj
 | .fK f'=>∃ob tx,H a=some (.frz ob (.dK tx))/\KVR K ρ H f' tx
 | .fT f'=>∃ob tx,H a=some (.frz ob (.dT tx))/\KVR K ρ H f' tx
 | .mem L=>∃tx,H a=some (.dK tx)/\(tx.map (·.1)).Nodup/\∀x∈tx,x.1∈Vz/\x.2=V.int (L x.1)
structure CW(K:AG)(ρ:List Ab)(S:Sto)(H:Hp):Prop where
 len:ρ.length=S.length
 nd:∀(i j:Nat) a,ρ[i]?=some a->ρ[j]?=some a->i=j
 ob:∀(n:Nat) o a,S[n]?=some o->ρ[n]?=some a->Ea K ρ H a o
section
variable{K:AG}{ρ ρ':List Ab}{H H':Hp}{S:Sto}{a p:Ab}{o:Ob}{n:Nat}{ho:HO}
theorem KVR.mono{κ:Type}(l:Le K ρ H ρ' H'){x:List (κ×D)}{y:List (κ×V)}(h:KVR K ρ H x y):KVR K ρ' H' x y:=Gx.mapP h λ_ _ z=>⟨z.1,z.2.mono l⟩
theorem KVR.keys{κ:Type}:∀{x:List (κ×D)} {y:List (κ×V)},KVR K ρ H x y->x.map (·.1)=y.map (·.1)
 | _,_,.nil=>rfl
 | _,_,.cons r t=>by rw[BG,BG,r.1,KVR.keys t]
theorem Ea.has(h:Ea K ρ H a o):H a≠none:=by
 cases o with
 | lst ds=>obtain⟨_,e,_⟩:=h;rw[e];exact λz=>nomatch z
 | dK ds=>obtain⟨_,e,_⟩:=h;rw[e];exact λz=>nomatch z
 | dT ds=>obtain⟨_,e,_⟩:=h;rw[e];exact λz=>nomatch z
 | ins C fs=>obtain⟨_,_,e,_⟩:=h;rw[e];exact λz=>nomatch z
 | fK ds=>obtain⟨_,_,e,_⟩:=h;rw[e];exact λz=>nomatch z
 | fT ds=>obtain⟨_,_,e,_⟩:=h;rw[e];exact λz=>nomatch z
 | mem L=>obtain⟨_,e,_⟩:=h;rw[e];exact λz=>nomatch z
theorem Ea.mono(l:Le K ρ H ρ' H')(e:H' a=H a)(h:Ea K ρ H a o):Ea K ρ' H' a o:=by
 cases o with
 | lst ds=>obtain⟨vs,h1,h2⟩:=h;exact⟨vs,e.trans h1,h2.mono l⟩
 | dK ds=>obtain⟨vs,h1,h2⟩:=h;exact⟨vs,e.trans h1,h2.mono l⟩
 | dT ds=>obtain⟨vs,h1,h2⟩:=h;exact⟨vs,e.trans h1,h2.mono l⟩
 | ins C fs=>obtain⟨dx,vs,h1,h2⟩:=h;exact⟨dx,vs,e.trans h1,h2.mono l⟩
 | fK ds=>obtain⟨dx,vs,h1,h2⟩:=h;exact⟨dx,vs,e.trans h1,h2.mono l⟩
 | fT ds=>obtain⟨dx,vs,h1,h2⟩:=h;exact⟨dx,vs,e.trans h1,h2.mono l⟩
 | mem L=>obtain⟨vs,h1,h2⟩:=h;exact⟨vs,e.trans h1,h2⟩
theorem Ea.keep(h1:∀a xs,H a=some (.tup xs)->H' a=some (.tup xs))(h2:∀a o u,H a=some (.frz o u)->H' a=some (.frz o u))(e:H' a=H a)(h:Ea K ρ H a o):Ea K ρ H' a o:=by
 cases o with
 | lst ds=>obtain⟨vs,q1,q2⟩:=h;exact⟨vs,e.trans q1,q2.keep h1 h2⟩
 | dK ds=>obtain⟨vs,q1,q2⟩:=h;exact⟨vs,e.trans q1,Gx.mapP q2 λ_ _ z=>⟨z.1,z.2.keep h1 h2⟩⟩
 | dT ds=>obtain⟨vs,q1,q2⟩:=h;exact⟨vs,e.trans q1,Gx.mapP q2 λ_ _ z=>⟨z.1,z.2.keep h1 h2⟩⟩
 | ins C fs=>obtain⟨dx,vs,q1,q2⟩:=h;exact⟨dx,vs,e.trans q1,Gx.mapP q2 λ_ _ z=>⟨z.1,z.2.keep h1 h2⟩⟩
 | fK ds=>obtain⟨dx,vs,q1,q2⟩:=h;exact⟨dx,vs,e.trans q1,Gx.mapP q2 λ_ _ z=>⟨z.1,z.2.keep h1 h2⟩⟩
 | fT ds=>obtain⟨dx,vs,q1,q2⟩:=h;exact⟨dx,vs,e.trans q1,Gx.mapP q2 λ_ _ z=>⟨z.1,z.2.keep h1 h2⟩⟩
 | mem L=>obtain⟨vs,q1,q2⟩:=h;exact⟨vs,e.trans q1,q2⟩
theorem Ea.mono'(l:∀(n:Nat) a,ρ[n]?=some a->ρ'[n]?=some a)(h:Ea K ρ H a o):Ea K ρ' H a o:=by
 cases o with
 | lst ds=>obtain⟨vs,h1,h2⟩:=h;exact⟨vs,h1,h2.more l⟩
 | dK ds=>obtain⟨vs,h1,h2⟩:=h;exact⟨vs,h1,Gx.mapP h2 λ_ _ z=>⟨z.1,z.2.more l⟩⟩
 | dT ds=>obtain⟨vs,h1,h2⟩:=h;exact⟨vs,h1,Gx.mapP h2 λ_ _ z=>⟨z.1,z.2.more l⟩⟩
 | ins C fs=>obtain⟨dx,vs,h1,h2⟩:=h;exact⟨dx,vs,h1,Gx.mapP h2 λ_ _ z=>⟨z.1,z.2.more l⟩⟩
 | fK ds=>obtain⟨dx,vs,h1,h2⟩:=h;exact⟨dx,vs,h1,Gx.mapP h2 λ_ _ z=>⟨z.1,z.2.more l⟩⟩
 | fT ds=>obtain⟨dx,vs,h1,h2⟩:=h;exact⟨dx,vs,h1,Gx.mapP h2 λ_ _ z=>⟨z.1,z.2.more l⟩⟩
 | mem L=>exact h
theorem HR(hp:H p=none∨Mut (H p)):(∀a xs,H a=some (.tup xs)->upd H p ho a=some (.tup xs))/\∀a o u,H a=some (.frz o u)->upd H p ho a=some (.frz o u):=by
 have ne:∀a u,H a=some u->¬Mut (some u)->a≠p:=λa u e nm z=>by
  subst z
  rcases hp with h | h
  ·rw[e]at h;cases h
  ·rw[e]at h;exact nm h
 refine⟨λa xs e=>?_,λa o u e=>?_⟩
 ·rw[Bo (ne a _ e λz=>z)];exact e
 ·rw[Bo (ne a _ e λz=>z)];exact e
theorem Le.fresh(hp:H p=none):Le K ρ H ρ (upd H p ho):=
 ⟨λ_ _ h=>h,(HR (.inl hp)).1,(HR (.inl hp)).2,λa o e n=>⟨by rw[Bo (Cw e hp)];exact e,n⟩⟩
theorem Le.write(hn:ρ[n]?=some p)(hm:Mut (H p)):Le K ρ H ρ (upd H p ho):=
 ⟨λ_ _ h=>h,(HR (.inr hm)).1,(HR (.inr hm)).2,λa o e h=>⟨by rw[Bo λz=>h n (by rw[z];exact hn)];exact e,h⟩⟩
theorem Jg{α:Type}{l:List α}{x:α}{m:Nat}{a:α}(e:(l++[x])[m]?=some a):(l[m]?=some a/\m < l.length)∨(m=l.length/\a=x):=by
 by_cases hm:m < l.length
 ·rw[Av hm]at e;exact .inl ⟨e,hm⟩
 ·rw[Bn (by lia)]at e
  have:m - l.length=0:=by
   have:=(AE.mp e).1;simp at this;omega
  rw[this]at e;exact .inr ⟨by lia,by simpa using e.symm⟩
theorem Le.alloc(hp:H p=none):Le K ρ H (ρ++[p]) (upd H p ho):=by
 refine⟨λn a h=>by rw[Av (AE.mp h).1];exact h,(HR (.inl hp)).1,(HR (.inl hp)).2,λa o e h=>⟨by rw[Bo (Cw e hp)];exact e,λn q=>?_⟩⟩
 rcases Jg q with⟨q,_⟩ | ⟨_,q⟩
 ·exact h n q
 ·exact Cw e hp q
theorem CW.at(h:CW K ρ S H)(e:S[n]?=some o):∃a,ρ[n]?=some a/\Ea K ρ H a o:=by
 have hn:n < ρ.length:=by rw[h.len];exact(AE.mp e).1
 exact⟨ρ[n],by simp[hn],h.ob n o _ e (by simp[hn])⟩
theorem CW.there(h:CW K ρ S H){m:Nat}(e:ρ[m]?=some a):∃o,S[m]?=some o/\Ea K ρ H a o:=by
 have hn:m < S.length:=by rw[<-h.len];exact(AE.mp e).1
 exact⟨S[m],by simp[hn],h.ob m _ a (by simp[hn]) e⟩
theorem CW.notIn(h:CW K ρ S H)(hp:H p=none){m:Nat}(e:ρ[m]?=some p):False:=by
 obtain⟨o,_,r⟩:=h.there e;exact r.has hp
theorem CW.alloc(h:CW K ρ S H)(hp:H p=none)(yC:Ea K (ρ++[p]) (upd H p ho) p o):CW K (ρ++[p]) (S++[o]) (upd H p ho)/\Le K ρ H (ρ++[p]) (upd H p ho)/\(ρ++[p])[S.length]?=some p:=by
 have le:Le K ρ H (ρ++[p]) (upd H p ho):=Le.alloc hp
 have at':∀(m:Nat) a,(ρ++[p])[m]?=some a->(ρ[m]?=some a/\m < ρ.length)∨(m=ρ.length/\a=p):=λm a e=>Jg e
 refine⟨⟨by simp[h.len],λi j a hi hj=>?_,λm ob a hm ha=>?_⟩,le,by rw[<-h.len];simp⟩
 ·rcases at' i a hi with⟨vA,_⟩ | ⟨vA,ea⟩ <;> rcases at' j a hj with⟨hj1,_⟩ | ⟨hj1,ea'⟩
  ·exact h.nd i j a vA hj1
  ·rw[ea']at vA;exact(h.notIn hp vA).elim
  ·rw[ea]at hj1;exact(h.notIn hp hj1).elim
  ·lia
 ·rcases at' m a ha with⟨ha1,uw⟩ | ⟨rfl,rfl⟩
  ·rw[Av (by rw[<-h.len];exact uw)]at hm
   refine(h.ob m ob a hm ha1).mono le (Bo λz=>?_);rw[z]at ha1;exact h.notIn hp ha1
  ·rw[h.len]at hm
   simp at hm;subst hm;exact yC
theorem CW.write(h:CW K ρ S H)(hn:ρ[n]?=some a)(yC:Ea K ρ (upd H a ho) a o)(le:Le K ρ H ρ (upd H a ho)):CW K ρ (S.set n o) (upd H a ho)/\Le K ρ H ρ (upd H a ho):=by
 refine⟨⟨by simp[h.len],h.nd,λm ob b hm hb=>?_⟩,le⟩
 by_cases e:m=n
 ·subst e
  rw[hn]at hb;cases hb;rw[At (by rw[<-h.len];exact(AE.mp hn).1)]at hm;cases hm;exact yC
 ·rw[Ah (Ci e)]at hm
  refine(h.ob m ob b hm hb).mono le (Bo λz=>?_);subst z;exact e (h.nd m n b hb hn)
theorem Le.back{S':Sto}(l:Le K ρ H ρ' H')(s:CW K ρ S H)(s':CW K ρ' S' H')(hp:H' p=none):H p=none:=by
 cases q:H p with
 | none=>rfl
 | some o=>
  by_cases hn:∃n:Nat,ρ[n]?=some p
  ·obtain⟨n,hn⟩:=hn
   exact(s'.notIn hp (l.pre n p hn)).elim
  ·have:=(l.oth p o q λn h=>hn ⟨n,h⟩).1
   rw[hp]at this;cases this
theorem CW.adopt(h:CW K ρ S H)(hn:∀m:Nat,ρ[m]?≠some p)(yC:Ea K (ρ++[p]) H p o):CW K (ρ++[p]) (S++[o]) H/\(ρ++[p])[S.length]?=some p:=by
 have le:∀a ob,Ea K ρ H a ob->Ea K (ρ++[p]) H a ob:=λa ob r=>by
  have l0:∀(n:Nat) a,ρ[n]?=some a->(ρ++[p])[n]?=some a:=λn a h=>by rw[Av (AE.mp h).1];exact h
  exact r.mono' l0
 refine⟨⟨by simp[h.len],λi j a hi hj=>?_,λm ob a hm ha=>?_⟩,by rw[<-h.len];simp⟩
 ·rcases Jg hi with⟨vA,_⟩ | ⟨vA,ea⟩ <;> rcases Jg hj with⟨hj1,_⟩ | ⟨hj1,ea'⟩
  ·exact h.nd i j a vA hj1
  ·rw[ea']at vA;exact(hn i vA).elim
  ·rw[ea]at hj1;exact(hn j hj1).elim
  ·lia
 ·rcases Jg ha with⟨ha,uw⟩ | ⟨rfl,rfl⟩
  ·rw[Av (by rw[<-h.len];exact uw)]at hm
   exact le a ob (h.ob m ob a hm ha)
  ·rw[h.len]at hm
   simp at hm;subst hm;exact yC
end
inductive Res(α:Type) where
 | ok (a:α) (S:Sto) | err (c:Ab) (S:Sto) | bad
def Res.bind{α β:Type}(r:Res α)(f:α->Sto->Res β):Res β:=match r with
 | .ok a S=>f a S
 | .err c S=>.err c S
 | .bad=>.bad
abbrev Lo:=List (Option D)
abbrev ME:=Lo->Sto->Res D
abbrev MT:=Lo->Sto->Res Bool
abbrev ML:=Lo->Sto->Res (List D)
inductive Fl where
 | nx (e:Lo) | rt (d:D) | bk (e:Lo) | ct (e:Lo) | ex (c:Ab) (e:Lo)
abbrev MS:=Lo->Sto->Res Fl
abbrev MG:=D->Lo->Sto->Res Lo
abbrev QX:=Sto->Option (List D)
abbrev MI:=Lo->Sto->Res QX
structure Gs(K:AG)(ρ:List Ab)(H:Hp)(e:Lo)(σ:St):Prop where
 len:e.length=σ.length
 at':∀(i:Nat) d,e[i]?=some (some d)->∃v,σ[i]?=some (some v)/\CH K ρ H d v
section
variable{K:AG}{ρ ρ':List Ab}{H H':Hp}{e:Lo}{σ:St}
theorem Gs.mono(l:Le K ρ H ρ' H')(h:Gs K ρ H e σ):Gs K ρ' H' e σ:=⟨h.len,λi d q=>by
 obtain⟨v,h1,h2⟩:=h.at' i d q
 exact⟨v,h1,h2.mono l⟩⟩
theorem Gs.set(h:Gs K ρ H e σ)(r:CH K ρ H d v)(i:Nat):Gs K ρ H (e.set i (some d)) (σ.set i (some v)):=by
 refine⟨by simp[h.len],λj d' q=>?_⟩
 by_cases hj:i=j
 ·subst hj
  have hi:i < e.length:=by
   have:=(AE.mp q).1;simpa using this
  rw[At hi]at q;cases q;exact⟨v,by rw[At (by rw[<-h.len];exact hi)],r⟩
 ·rw[Ah hj]at q ⊢
  exact h.at' j d' q
end
abbrev EW:=Ab->St->Hp->Prop
abbrev EH:=Ab->Hp->Prop
abbrev noE:EW:=λ_ _ _=>False
abbrev noH:EH:=λ_ _=>False
def Cg{α:Type}(K:AG)(E:EH)(ρ:List Ab)(H:Hp)(r:Res α)(k:α->Sto->Prop):Prop:=match r with
 | .ok a S=>k a S
 | .err c S=>∀ρ' H',Le K ρ H ρ' H'->CW K ρ' S H'->E c H'
 | .bad=>False
section
variable{K:AG}{E:EH}{ρ ρ1:List Ab}{H H1:Hp}
theorem Cg.seq(h:Cg K E ρ H (r.bind F) k)(f:∀a S,Cg K E ρ H (F a S) k->k' a S):Cg K E ρ H r k':=by
 cases r with
 | ok a S=>exact f a S h
 | err c S=>exact h
 | bad=>exact h
theorem Cg.later(h:Cg K E ρ H r k)(l:Le K ρ H ρ1 H1):Cg K E ρ1 H1 r k:=by
 cases r with
 | ok a S=>exact h
 | err c S=>exact λρ' H' l'=>h ρ' H' (l.trans l')
 | bad=>exact h
theorem Cg.imp(h:Cg K E ρ H r k)(f:∀a S,k a S->k' a S):Cg K E ρ H r k':=by
 cases r with
 | ok a S=>exact f a S h
 | err c S=>exact h
 | bad=>exact h
theorem Cg.go(h:Cg K E ρ H r k)(l:Le K ρ H ρ1 H1)(f:∀a S,k a S->k' a S):Cg K E ρ1 H1 r k':=(h.later l).imp f
end
def okR{α:Type}:Res α->Res α
 | .ok a S=>.ok a S
 | _=>.bad
theorem Cg.okR{α:Type}{K:AG}{E:EH}{ρ:List Ab}{H:Hp}{r:Res α}{k:α->Sto->Prop}(h:Cg K E ρ H (L2.okR r) k):∃a S,r=.ok a S/\k a S:=by
 cases r with
 | ok a S=>exact⟨a,S,rfl,h⟩
 | err c S=>exact h.elim
 | bad=>exact h.elim
section
variable(K:AG)(E:EW)
def gE(m:ME):TE:=λσ H Q=>∃ρ e S,Gs K ρ H e σ/\CW K ρ S H/\Cg K (λc=>E c σ) ρ H (m e S) λd S'=>∀ρ' H' x,Le K ρ H ρ' H'->CW K ρ' S' H'->CH K ρ' H' d x->Q x H'
def gT(m:MT):TT:=λσ H Q=>∃ρ e S,Gs K ρ H e σ/\CW K ρ S H/\Cg K (λc=>E c σ) ρ H (m e S) λb S'=>∀ρ' H',Le K ρ H ρ' H'->CW K ρ' S' H'->Q b H'
def gA(m:ML):TA:=λσ H Q=>∃ρ e S,Gs K ρ H e σ/\CW K ρ S H/\Cg K (λc=>E c σ) ρ H (m e S) λds S'=>∀ρ' H' xs,Le K ρ H ρ' H'->CW K ρ' S' H'->A0 K ρ' H' ds xs->Q xs H'
def gL(m:ML):TE:=λσ H Q=>∃ρ e S,Gs K ρ H e σ/\CW K ρ S H/\Cg K (λc=>E c σ) ρ H (m e S) λds S'=>∀ρ' H' p xs,Le K ρ H ρ' H'->CW K ρ' S' H'->A0 K ρ' H' ds xs->H' p=some (.lst xs)->(∀n:Nat,ρ'[n]?≠some p)->H p=none->Q (.ref p) H'
def gQ(m:ML):TE:=λσ H Q=>∃ρ e S,Gs K ρ H e σ/\CW K ρ S H/\Cg K (λc=>E c σ) ρ H (m e S) λds S'=>∀ρ' H' p xs,Le K ρ H ρ' H'->CW K ρ' S' H'->A0 K ρ' H' ds xs->(SqL K H' p xs∨SqT K H' p xs)->Q (.ref p) H'
def RD(K:AG)(E:EW)(ρ:List Ab)(H:Hp)(S':Sto)(D:ca):Fl->Prop
 | .ex c e'=>∀ρ' H' σ',Le K ρ H ρ' H'->CW K ρ' S' H'->Gs K ρ' H' e' σ'->E c σ' H'
 | .nx e'=>∀ρ' H' σ',Le K ρ H ρ' H'->CW K ρ' S' H'->Gs K ρ' H' e' σ'->D.nx σ' H'
 | .bk e'=>∀ρ' H' σ',Le K ρ H ρ' H'->CW K ρ' S' H'->Gs K ρ' H' e' σ'->D.bk σ' H'
 | .ct e'=>∀ρ' H' σ',Le K ρ H ρ' H'->CW K ρ' S' H'->Gs K ρ' H' e' σ'->D.ct σ' H'
 | .rt d=>∀ρ' H' x,Le K ρ H ρ' H'->CW K ρ' S' H'->CH K ρ' H' d x->D.rt x H'
def gS(m:MS):TS:=λD σ H=>∃ρ e S,Gs K ρ H e σ/\CW K ρ S H/\Cg K noH ρ H (m e S) λfl S'=>RD K E ρ H S' D fl
def gG(m:MG):TG:=λv σ H Q=>∃ρ e S d,CH K ρ H d v/\Gs K ρ H e σ/\CW K ρ S H/\Cg K noH ρ H (m d e S) λe' S'=>∀ρ' H' σ',Le K ρ H ρ' H'->CW K ρ' S' H'->Gs K ρ' H' e' σ'->Q σ' H'
def NP(ρ0:List Ab)(H0:Hp)(J:It)(v:QX):Prop:=∀ρ H S ds (i:Nat),Le K ρ0 H0 ρ H->CW K ρ S H->v S=some ds ->
 (ds[i]?=none->J.stop i H)/\∀d,ds[i]?=some d->J.go i H/\∀x H',J.yld i H x H'->∃ρ',Le K ρ H ρ' H'/\CW K ρ' S H'/\CH K ρ' H' d x
def gI(m:MI):TI:=λσ H R=>∃ρ e S,Gs K ρ H e σ/\CW K ρ S H/\Cg K (λc=>E c σ) ρ H (m e S) λv S'=>∀ρ' H' J,Le K ρ H ρ' H'->CW K ρ' S' H'->NP K ρ' H' J v->R J H'
end
abbrev GE(X:Cx)(E:EW)(e:Expr)(m:ME):Prop:=PE X e (gE X.K E m)
abbrev GT(X:Cx)(E:EW)(e:Expr)(m:MT):Prop:=PT X e (gT X.K E m)
abbrev GA(X:Cx)(E:EW)(es:List Expr)(m:ML):Prop:=PA X es (gA X.K E m)
abbrev GL(X:Cx)(E:EW)(e:Expr)(m:ML):Prop:=PE X e (gL X.K E m)
abbrev GQ(X:Cx)(E:EW)(e:Expr)(m:ML):Prop:=PE X e (gQ X.K E m)
abbrev GS(X:Cx)(E:EW)(s:DS)(m:MS):Prop:=PS X s (gS X.K E m)
abbrev GSs(X:Cx)(E:EW)(s:List DS)(m:MS):Prop:=PSs X s (gS X.K E m)
abbrev GG(X:Cx)(t:Expr)(m:MG):Prop:=PG X t (gG X.K m)
abbrev GI(X:Cx)(E:EW)(tg t:Expr)(m:MI):Prop:=PI X tg t (gI X.K E m)
theorem PE.imp(h:PE X e t)(i:∀σ H Q,t' σ H Q->t σ H Q):PE X e t':=λζ s σ H Q I q=>h ζ s σ H Q I (i σ H Q q)
theorem PT.imp(h:PT X e t)(i:∀σ H Q,t' σ H Q->t σ H Q):PT X e t':=λζ s σ H Q I q=>h ζ s σ H Q I (i σ H Q q)
theorem PW.imp(h:PW X e t)(i:∀σ H Q,t' σ H Q->t σ H Q):PW X e t':=λwh ζ s σ H Q I q=>h wh ζ s σ H Q I (i σ H Q q)
theorem PA.imp(h:PA X e t)(i:∀σ H Q,t' σ H Q->t σ H Q):PA X e t':=λpos ζ s σ H Q I q=>h pos ζ s σ H Q I (i σ H Q q)
theorem PS.imp(h:PS X e t)(i:∀D σ H,t' D σ H->t D σ H):PS X e t':=λζ s σ H D I q=>h ζ s σ H D I (i D σ H q)
theorem PSs.imp(h:PSs X e t)(i:∀D σ H,t' D σ H->t D σ H):PSs X e t':=λζ s σ H D I q=>h ζ s σ H D I (i D σ H q)
theorem PG.imp(h:PG X e t)(i:∀v σ H Q,t' v σ H Q->t v σ H Q):PG X e t':=λζ s σ H v u Q I r q=>h ζ s σ H v u Q I r (i v σ H Q q)
theorem PI.imp(h:PI X tg e t)(i:∀σ H R,t' σ H R->t σ H R):PI X tg e t':=λζ s σ H R I q=>h ζ s σ H R I (i σ H R q)
theorem OpR.imp(h:OpR X f r)(i:∀x y H Q,r' x y H Q->r x y H Q):OpR X f r':=λζ s σ H x y v u Q I rx ry q=>h ζ s σ H x y v u Q I rx ry (i x y H Q q)
theorem IxR.imp(h:IxR X r)(i:∀x y H Q,r' x y H Q->r x y H Q):IxR X r':=λva sl ζ s σ H x y v u Q I rx ry q=>h va sl ζ s σ H x y v u Q I rx ry (i x y H Q q)
def AD(i:Nat):ME:=λe S=>match e[i]? with
 | some (some d)=>.ok d S
 | _=>.bad
def mC(d:D):ME:=λ_ S=>.ok d S
section
variable{X:Cx}{E:EW}{e a b:Expr}{pos:Pos}{ma mb:ME}
theorem AA(h:PE X e (nL i)):GE X E e (AD i):=h.imp<|by
 rintro σ H Q ⟨ρ,l,S,hl,hs,hm⟩
 unfold AD at hm;split at hm
 ·rename_i d' hd
  obtain⟨v,h1,h2⟩:=hl.at' i _ hd;exact⟨v,h1,hm ρ H v .refl hs h2⟩
 ·exact hm.elim
theorem kj(h:PE X e (tC v))(hd:∀ρ H,CH X.K ρ H d v):GE X E e (mC d):=h.imp<|by
 rintro σ H Q ⟨ρ,l,S,hl,hs,hm⟩
 exact hm ρ H v .refl hs (hd _ _)
theorem ge_int{i j pos}:GE X E (.Constant (.int i) j pos) (mC (.int i)):=kj oM λ_ _=>.int i
theorem Ip{b j pos}:GE X E (.Constant (.bool b) j pos) (mC (.bl b)):=kj sJ λ_ _=>.bl b
theorem V8{x j pos}:GE X E (.Constant (.str x) j pos) (mC (.str x)):=kj oH λ_ _=>.str x
theorem Xr(hg:Gl X x)(hm:X.mg x=some (.int i tk))(hd:(x==("__debug__" : Str))=false:=by decide):GE X E (.Name x pos) (mC (.int i)):=
 kj (j3 (v:=.int i) hg hm ⟨tk,rfl⟩ hd) λ_ _=>.int i
def m2(f:D->D->Sto->Res D)(ma mb:ME):ME:=λe S=>(ma e S).bind λx S1=>(mb e S1).bind λy S2=>okR (f x y S2)
def rD(K:AG)(f:D->D->Sto->Res D):R2:=λu v H Q=>∃ρ S x y d S',CW K ρ S H/\CH K ρ H x u/\CH K ρ H y v/\f x y S=.ok d S' /\
 ∀ρ' H' z,Le K ρ H ρ' H'->CW K ρ' S' H'->CH K ρ' H' d z->Q z H'
theorem OE{K:AG}{f:D->D->Sto->Res D}{σ:St}{H:Hp}{Q:VK}(h:gE K E (m2 f ma mb) σ H Q):tOp (rD K f) (gE K E ma) (gE K E mb) σ H Q:=by
 obtain⟨ρ,l,S,hl,hs,hm⟩:=h;refine⟨ρ,l,S,hl,hs,hm.seq λx S1 hm ρ1 H1 u l1 s1 r1=>⟨ρ1,l,S1,hl.mono l1,s1,(hm.later l1).seq λy S2 hm ρ2 H2 v l2 s2 r2=>?_⟩⟩;obtain⟨d,S',e,k⟩:=hm.okR;exact⟨ρ2,S2,x,y,d,S',s2,r1.mono l2,r2,e,λρ' H' z l' s' r'=>k ρ' H' z (l1.trans (l2.trans l')) s' r'⟩
theorem BK(ho:OpR X (DR op) (rD X.K f))(ha:GE X E a ma)(hb:GE X E b mb):GE X E (.BinOp a op b pos) (m2 f ma mb):=(sG ho ha hb).imp λ_ _ _ h=>OE h
theorem ZH(ho:OpR X (Ch op) (rD X.K f))(ha:GE X E a ma)(hb:GE X E b mb)(hm:Cy op b=false):GE X E (.Compare a [op] [b] pos) (m2 f ma mb):=(j6 ho ha hb hm).imp λ_ _ _ h=>OE h
theorem tJ(ho:IxR X (rD X.K f))(ha:GE X E a ma)(hb:GE X E b mb)(hs:WQ b:=by intro _ _;rfl):GE X E (.Subscript a b pos) (m2 f ma mb):=(sH ho ha hb hs).imp λ_ _ _ h=>OE h
def mB(m:ME):MT:=λe S=>(m e S).bind λd S1=>match d with
 | .bl b=>.ok b S1
 | _=>.bad
def Ql(d:D)(S:Sto):Option Bool:=match d with
 | .non=>some false
 | .bl b=>some b
 | .int i=>some (i != 0)
 | .tup ds=>some (!ds.isEmpty)
 | .fro ds=>some (!ds.isEmpty)
 | .ref n=>match S[n]? with
  | some (.lst ds)=>some (!ds.isEmpty)
  | some (.dK f')=>some (!f'.isEmpty)
  | _=>none
 | _=>none
def Fx(m:ME):MT:=λe S=>(m e S).bind λd S1=>match Ql d S1 with
 | some b=>.ok b S1
 | none=>.bad
theorem A0.empty{K}{ρ}{H}{ds}{vs}(h:A0 K ρ H ds vs):ds.isEmpty=vs.isEmpty:=by cases h <;> rfl
theorem KVR.empty{κ:Type}{K:AG}{ρ:List Ab}{H:Hp}{x:List (κ×D)}{y:List (κ×V)}(h:KVR K ρ H x y):x.isEmpty=y.isEmpty:=by cases h <;> rfl
theorem jL{K:AG}{ρ:List Ab}{H:Hp}{S:Sto}{d:D}{x:V}{b:Bool}(hs:CW K ρ S H)(r:CH K ρ H d x)(h:Ql d S=some b):qG K x H b:=by
 cases r with
 | non=>cases h;rfl
 | bl c=>cases h;rfl
 | int i=>cases h;rfl
 | str x=>cases h
 | tup h1 h2=>cases h;rw[h2.empty];exact .inr (.inl ⟨_,.inl (.inl h1),rfl⟩)
 | fro h1 h2=>cases h;rw[h2.empty];exact .inl ⟨_,h1.sq,rfl⟩
 | exc _ _=>cases h
 | @ref n a hn=>
  obtain⟨o,ho,ro⟩:=hs.there hn;unfold Ql at h;simp only[ho]at h
  cases o with
  | lst ds=>cases h;obtain⟨vs,e,rr⟩:=ro;rw[rr.empty];exact .inl ⟨_,.inl (.inl e),rfl⟩
  | dK f'=>cases h;obtain⟨vs,e,rr⟩:=ro;rw[KVR.empty rr];exact .inr (.inr ⟨_,e,rfl⟩)
  | dT f'=>cases h
  | ins C fs=>cases h
  | fK _=>cases h
  | fT _=>cases h
  | mem _=>cases h
theorem Ey(h:GE X E e ma)(he:∀whole,mP e X.env whole=(do let v <-whole;qM e.pos;X5 [v] (truthy v)):=by intro _;rfl):GT X E e (Fx ma):=(eI h he).imp<|by
 rintro σ H Q ⟨ρ,l,S,hl,hs,hm⟩
 refine⟨ρ,l,S,hl,hs,hm.seq λd S1 hm ρ1 H1 x l1 s1 r1=>?_⟩
 cases hb:Ql d S1 with
 | none=>rw[hb]at hm;exact hm.elim
 | some c=>
  rw[hb]at hm;exact⟨c,jL s1 r1 hb,hm ρ1 H1 l1 s1⟩
theorem Ec{op}{f}(ho:OpR X (Ch op) (rD X.K f))(ha:GE X E a ma)(hb:GE X E b mb)(hm:Cy op b=false):GT X E (.Compare a [op] [b] pos) (mB (m2 f ma mb)):=(jj ho ha hb hm).imp<|by
 rintro σ H Q ⟨ρ,l,S,hl,hs,hm⟩
 refine OE (Q:=λx H'=>∃k,x=.bl k/\Q k H') ⟨ρ,l,S,hl,hs,hm.seq λd S1 hm ρ1 H1 x l1 s1 r1=>?_⟩
 cases d <;> first | exact hm.elim | skip
 cases r1;exact⟨_,rfl,hm ρ1 H1 l1 s1⟩
def PF(m:MT):MT:=λe S=>(m e S).bind λb S1=>.ok (!b) S1
def RB(ma mb:MT):MT:=λe S=>(ma e S).bind λb S1=>if b=true then mb e S1 else .ok false S1
def mOr(ma mb:MT):MT:=λe S=>(ma e S).bind λb S1=>if b=true then .ok true S1 else mb e S1
variable{ta tb:MT}{rest:List Expr}
theorem OR(h:GT X E a ta):GT X E (.UnaryOp .Not a pos) (PF ta):=(nv h).imp<|by
 rintro σ H Q ⟨ρ,l,S,hl,hs,hm⟩
 exact⟨ρ,l,S,hl,hs,hm.seq λd S1 hm ρ1 H1 l1 s1=>hm ρ1 H1 l1 s1⟩
theorem jQ{K}{σ}{H}{Q}(h:gT K E (RB ta tb) σ H Q):rX (gT K E ta) (gT K E tb) σ H Q:=by
 obtain⟨ρ,l,S,hl,hs,hm⟩:=h;refine⟨ρ,l,S,hl,hs,hm.seq λc S1 hm ρ1 H1 l1 s1=>?_⟩
 cases c with
 | true=>rw[qX rfl]at hm ⊢;exact⟨ρ1,l,S1,hl.mono l1,s1,hm.go l1 λ_ _ k ρ2 H2 l2 s2=>k ρ2 H2 (l1.trans l2) s2⟩
 | false=>rw[qY AK]at hm ⊢;exact hm ρ1 H1 l1 s1
theorem nM{K}{σ}{H}{Q}(h:gT K E (mOr ta tb) σ H Q):tOr (gT K E ta) (gT K E tb) σ H Q:=by
 obtain⟨ρ,l,S,hl,hs,hm⟩:=h;refine⟨ρ,l,S,hl,hs,hm.seq λc S1 hm ρ1 H1 l1 s1=>?_⟩
 cases c with
 | false=>rw[qY AK]at hm ⊢;exact⟨ρ1,l,S1,hl.mono l1,s1,hm.go l1 λ_ _ k ρ2 H2 l2 s2=>k ρ2 H2 (l1.trans l2) s2⟩
 | true=>rw[qX rfl]at hm ⊢;exact hm ρ1 H1 l1 s1
abbrev GW(X:Cx)(E:EW)(e:Expr)(m:MT):Prop:=PW X e (gT X.K E m)
theorem V6(ha:GT X E a ta):GW X E (.BoolOp .And [a] pos) ta:=ji ha
theorem gF(ha:GT X E a ta):GW X E (.BoolOp .Or [a] pos) ta:=np ha
theorem ZD(ha:GT X E a ta)(hb:GW X E (.BoolOp .And (b :: rest) pos) tb):GW X E (.BoolOp .And (a :: b :: rest) pos) (RB ta tb):=(nq ha hb).imp λ_ _ _ h=>jQ h
theorem mG(ha:GT X E a ta)(hb:GW X E (.BoolOp .Or (b :: rest) pos) tb):GW X E (.BoolOp .Or (a :: b :: rest) pos) (mOr ta tb):=(rq ha hb).imp λ_ _ _ h=>nM h
theorem gH(h:GW X E e t):GT X E e t:=PW.pt h
def fQ(ma mb:ME):ME:=λe S=>(ma e S).bind λd S1=>match d with
 | .bl true=>.ok (.bl true) S1
 | .bl false=>mb e S1
 | _=>.bad
def Z6(ma:ME):ME:=λe S=>(ma e S).bind λd S1=>match d with
 | .bl c=>.ok (.bl (!c)) S1
 | _=>.bad
theorem pV{op}(h:GE X E a ma):GE X E (.BoolOp op [a] pos) ma:=oI h
theorem tI(ha:GE X E a ma)(hb:GE X E (.BoolOp .Or (b :: rest) pos) mb):GE X E (.BoolOp .Or (a :: b :: rest) pos) (fQ ma mb):=(sE ha hb).imp<|by
 rintro σ H Q ⟨ρ,l,S,hl,hs,hm⟩
 refine⟨ρ,l,S,hl,hs,hm.seq λc S1 hm ρ1 H1 x l1 s1 r1=>?_⟩
 cases c with
 | bl c=>
  cases r1;refine⟨c,rfl,?_⟩
  cases c with
  | false=>rw[qY AK];exact⟨ρ1,l,S1,hl.mono l1,s1,hm.go l1 λ_ _ k ρ2 H2 z l2 s2 r2=>k ρ2 H2 z (l1.trans l2) s2 r2⟩
  | true=>rw[qX rfl];exact hm ρ1 H1 _ l1 s1 (.bl true)
 | _=>exact hm.elim
theorem pW(ha:GE X E a ma):GE X E (.UnaryOp .Not a pos) (Z6 ma):=(oJ ha).imp<|by
 rintro σ H Q ⟨ρ,l,S,hl,hs,hm⟩
 refine⟨ρ,l,S,hl,hs,hm.seq λc S1 hm ρ1 H1 x l1 s1 r1=>?_⟩
 cases c with
 | bl c=>cases r1;exact⟨c,rfl,hm ρ1 H1 _ l1 s1 (.bl _)⟩
 | _=>exact hm.elim
def Xi(t:MT)(ma mb:ME):ME:=λe S=>(t e S).bind λb S1=>if b=true then ma e S1 else mb e S1
theorem Su(hc:GT X E c ta)(ha:GE X E a ma)(hb:GE X E b mb):GE X E (.IfExp c a b pos) (Xi ta ma mb):=(eY hc ha hb).imp<|by
 rintro σ H Q ⟨ρ,l,S,hl,hs,hm⟩
 refine⟨ρ,l,S,hl,hs,hm.seq λc S1 hm ρ1 H1 l1 s1=>?_⟩
 cases c with
 | true=>rw[qX rfl]at hm ⊢;exact⟨ρ1,l,S1,hl.mono l1,s1,hm.go l1 λ_ _ k ρ2 H2 z l2 s2 r2=>k ρ2 H2 z (l1.trans l2) s2 r2⟩
 | false=>rw[qY AK]at hm ⊢;exact⟨ρ1,l,S1,hl.mono l1,s1,hm.go l1 λ_ _ k ρ2 H2 z l2 s2 r2=>k ρ2 H2 z (l1.trans l2) s2 r2⟩
def m3(f g:D->D->Sto->Res D)(ma mb mc:ME):ME:=λe S=>(ma e S).bind λx S1=>(mb e S1).bind λy S2=>(okR (f x y S2)).bind λz S3=>match z with
 | .bl true=>(mc e S3).bind λw S4=>okR (g y w S4)
 | .bl false=>.ok (.bl false) S3
 | _=>.bad
def BI:ML:=λ_ S=>.ok [] S
def AM(m:ME)(r:ML):ML:=λe S=>(m e S).bind λd S1=>(r e S1).bind λds S2=>.ok (d :: ds) S2
variable{es:List Expr}{ml:ML}
theorem Al:GA X E [] BI:=JY.imp<|by
 rintro σ H Q ⟨ρ,l,S,hl,hs,hm⟩
 exact hm ρ H [] .refl hs .nil
theorem AH(ha:GE X E e ma)(hr:GA X E es ml)(hs:Ag (e :: es) X.env=(false,Co e X.env) :: Ag es X.env:=by rfl):GA X E (e :: es) (AM ma ml):=(HK ha hr hs).imp<|by
 rintro σ H Q ⟨ρ,l,S,hl,hs,hm⟩
 exact⟨ρ,l,S,hl,hs,hm.seq λd S1 hm ρ1 H1 x l1 s1 r1=>⟨ρ1,l,S1,hl.mono l1,s1,(hm.later l1).seq λuX S2 hm ρ2 H2 xs l2 s2 r2=>hm ρ2 H2 (x :: xs) (l1.trans l2) s2 (.cons (r1.mono l2) r2)⟩⟩
def Hi(m:ML):ME:=λe S=>(m e S).bind λds S1=>if ds.length<=sizeLine then .ok (.tup ds) S1 else .bad
theorem Iu{K}{ρ}{H}{S}{p}{ho}(hs:CW K ρ S H)(hp:H p=none):CW K ρ S (upd H p ho)/\Le K ρ H ρ (upd H p ho):=by
 have le:Le K ρ H ρ (upd H p ho):=Le.fresh hp;refine⟨⟨hs.len,hs.nd,λn o a h1 h2=>(hs.ob n o a h1 h2).mono le (Bo λz=>?_)⟩,le⟩;subst z;exact hs.notIn hp h2
theorem FB{x1}(h:GA X E es ml):GE X E (.Tuple es x1 pos) (Hi ml):=(oG h).imp<|by
 rintro σ H Q ⟨ρ,l,S,hl,hs,hm⟩
 refine⟨ρ,l,S,hl,hs,hm.seq λds S1 hm ρ1 H1 xs l1 s1 r1=>?_⟩;split at hm
 ·rename_i hz
  refine⟨by rw[<-r1.length];exact hz,λp hp=>?_⟩;obtain⟨s2,l2⟩:=Iu (ho:=.tup xs) s1 hp;exact hm ρ1 _ _ (l1.trans l2) s2 (.tup CJ (r1.mono l2))
 ·exact hm.elim
def Dy(m:ML):ML:=λe S=>(m e S).bind λds S1=>if ds.length<=sizeLine then .ok ds S1 else .bad
theorem Ez(h:GA X E es ml):GL X E (.List es pos) (Dy ml):=(oK h).imp<|by
 rintro σ H Q ⟨ρ,l,S,hl,hs,hm⟩
 refine⟨ρ,l,S,hl,hs,hm.seq λds S1 hm ρ1 H1 xs l1 s1 r1=>?_⟩;split at hm
 ·rename_i hz
  refine⟨by rw[<-r1.length];exact hz,λp hp=>?_⟩;obtain⟨s2,l2⟩:=Iu (ho:=.lst xs) s1 hp;exact hm ρ1 _ p xs (l1.trans l2) s2 (r1.mono l2) CJ (λn q=>s1.notIn hp q) (l1.back hs s1 hp)
 ·exact hm.elim
def Db(m:ML):ME:=λe S=>(m e S).bind λds S1=>.ok (.ref S1.length) (S1++[.lst ds])
theorem CM(h:GL X E e ml):GE X E e (Db ml):=PE.imp h<|by
 rintro σ H Q ⟨ρ,l,S,hl,hs,hm⟩
 refine⟨ρ,l,S,hl,hs,hm.seq λds S1 hm ρ1 H1 p xs l1 s1 r1 hp hn xA=>?_⟩
 have l0:∀(n:Nat) a,ρ1[n]?=some a->(ρ1++[p])[n]?=some a:=λn a h=>by rw[Av (AE.mp h).1];exact h
 obtain⟨s2,at2⟩:=s1.adopt (o:=.lst ds) hn ⟨xs,hp,r1.more l0⟩;refine hm _ _ _ ⟨λn a h=>l0 n a (l1.pre n a h),l1.tup,l1.frz,λa o e h=>⟨(l1.oth a o e h).1,λn q=>?_⟩⟩ s2 (.ref at2)
 rcases Jg q with⟨q,_⟩ | ⟨_,q⟩
 ·exact(l1.oth a o e h).2 n q
 ·exact Cw e xA q
def Ga(d:D)(S:Sto):Option (List D):=match d with
 | .tup ds=>some ds
 | .fro ds=>some ds
 | .ref n=>match S[n]? with
  | some (.lst ds)=>some ds
  | _=>none
 | _=>none
def Xh(m:ME):ML:=λe S=>(m e S).bind λd S1=>match Ga d S1 with
 | some ds=>.ok ds S1
 | none=>.bad
theorem RS{K}{ρ}{H}{S}{d}{x}{ds}(hs:CW K ρ S H)(r:CH K ρ H d x)(h:Ga d S=some ds):∃p xs,x=.ref p/\A0 K ρ H ds xs/\(SqL K H p xs∨SqT K H p xs):=by
 cases r with
 | tup h1 h2=>cases h;exact⟨_,_,rfl,h2,.inr (.inl (.inl h1))⟩
 | fro h1 h2=>cases h;exact⟨_,_,rfl,h2,.inl h1.sq⟩
 | @ref n a hn=>
  obtain⟨o,ho,ro⟩:=hs.there hn;unfold Ga at h;simp only[ho]at h
  cases o with
  | lst es=>cases h;obtain⟨vs,e,rr⟩:=ro;exact⟨_,_,rfl,rr,.inl (.inl (.inl e))⟩
  | _=>cases h
 | _=>cases h
theorem mH(h:GE X E e ma):GQ X E e (Xh ma):=PE.imp h<|by
 rintro σ H Q ⟨ρ,l,S,hl,hs,hm⟩
 refine⟨ρ,l,S,hl,hs,hm.seq λx S1 hm ρ1 H1 v l1 s1 r1=>?_⟩
 cases hq:Ga x S1 with
 | none=>rw[hq]at hm;exact hm.elim
 | some ds=>
  rw[hq]at hm;obtain⟨p,xs,rfl,r2,sq⟩:=RS s1 r1 hq;exact hm ρ1 H1 p xs l1 s1 r2 sq
end
def Res.lift{α:Type}(r:Res α)(e:Lo)(f:α->Sto->Res Fl):Res Fl:=match r with
 | .ok a S=>f a S
 | .err c S=>.ok (.ex c e) S
 | .bad=>.bad
theorem Cg.lift{α:Type}{K:AG}{E:EW}{ρ ρ1:List Ab}{H H1:Hp}{σ:St}{e:Lo}{D:ca}{r:Res α}{F:α->Sto->Res Fl}{k':α->Sto->Prop}(h:Cg K noH ρ1 H1 (r.lift e F) λfl S'=>RD K E ρ H S' D fl)(hl:Gs K ρ1 H1 e σ)(l:Le K ρ H ρ1 H1)
  (f:∀a S,(Cg K noH ρ1 H1 (F a S) λfl S'=>RD K E ρ H S' D fl)->k' a S):Cg K (λc=>E c σ) ρ1 H1 r k':=by
 cases r with
 | ok a S=>exact f a S h
 | err c S=>exact λρ' H' l' s'=>h ρ' H' σ (l.trans l') s' (hl.mono l')
 | bad=>exact h
def sNx:MS:=λe S=>.ok (.nx e) S
def SL:MS:=λ_ _=>.bad
def BJ(a b:MS):MS:=λe S=>(a e S).bind λf S1=>match f with
 | .nx e1=>b e1 S1
 | f=>.ok f S1
def IU(m:ME):MS:=λe S=>(m e S).lift e λ_ S1=>.ok (.nx e) S1
def DL(m:ME):MS:=λe S=>(m e S).lift e λd S1=>.ok (.rt d) S1
def sIf(t:MT)(a b:MS):MS:=λe S=>(t e S).lift e λc S1=>if c=true then a e S1 else b e S1
def bZ(m:ME)(g:MG):MS:=λe S=>(m e S).lift e λd S1=>(g d e S1).bind λe1 S2=>.ok (.nx e1) S2
def tgN(i:Nat):MG:=λd e S=>.ok (e.set i (some d)) S
def CT(i:Nat)(m:ME):MS:=bZ m (tgN i)
section
variable{X:Cx}{E:EW}{st:DS}{rest:List DS}{e:Expr}{pos:Pos}{a b:MS}{t:MT}
theorem RD.later{K}{ρ ρ1}{H H1}{S}{D}{f}(l:Le K ρ H ρ1 H1)(h:RD K E ρ H S D f):RD K E ρ1 H1 S D f:=by
 cases f with
 | nx e=>exact λρ' H' σ' l'=>h ρ' H' σ' (l.trans l')
 | bk e=>exact λρ' H' σ' l'=>h ρ' H' σ' (l.trans l')
 | ct e=>exact λρ' H' σ' l'=>h ρ' H' σ' (l.trans l')
 | ex c e=>exact λρ' H' σ' l'=>h ρ' H' σ' (l.trans l')
 | rt d=>exact λρ' H' x l'=>h ρ' H' x (l.trans l')
theorem CL:GSs X E [] sNx:=jl.imp<|by
 rintro D σ H ⟨ρ,l,S,hl,hs,hm⟩
 exact hm ρ H σ .refl hs hl
theorem AN(h1:GS X E st a)(h2:GSs X E rest b):GSs X E (st :: rest) (BJ a b):=(eN h1 h2).imp<|by
 rintro D σ H ⟨ρ,l,S,hl,hs,hm⟩
 refine⟨ρ,l,S,hl,hs,hm.seq λg S1 hm=>?_⟩
 cases g with
 | nx e'=>exact λρ1 H1 σ1 l1 s1 r1=>⟨ρ1,e',S1,r1,s1,hm.go l1 λ_ _ k=>k.later l1⟩
 | rt d=>exact hm
 | bk d=>exact hm
 | ct d=>exact hm
 | ex c d=>exact hm
theorem Ac(h1:GS X E st a):GSs X E [st] a:=jk h1
theorem Jf:GS X E st SL:=(eQ (X:=X) (st:=st)).imp λD σ H ⟨ρ,l,S,hl,hs,hm⟩=>hm.elim
theorem JB(he:GE X E e m)(hs:G6 e none pos.line X.env=pure false:=by rfl):GS X E (.Expr e pos) (IU m):=(jm he hs).imp<|by
 rintro D σ H ⟨ρ,l,S,hl,hs,hm⟩
 exact⟨ρ,l,S,hl,hs,hm.lift hl .refl λd S1 hm ρ1 H1 x l1 s1 r1=>hm ρ1 H1 σ l1 s1 (hl.mono l1)⟩
theorem Bp(he:GE X E e m):GS X E (.Return (some e) pos) (DL m):=(ny he).imp<|by
 rintro D σ H ⟨ρ,l,S,hl,hs,hm⟩
 exact⟨ρ,l,S,hl,hs,hm.lift hl .refl λd S1 hm ρ1 H1 x l1 s1 r1=>hm ρ1 H1 x l1 s1 r1⟩
theorem D2{c}{sa sb}(hc:GT X E c t)(ha:GSs X E sa a)(hb:GSs X E sb b):GS X E (.If c sa sb pos) (sIf t a b):=(sC hc ha hb).imp<|by
 rintro D σ H ⟨ρ,l,S,hl,hs,hm⟩
 refine⟨ρ,l,S,hl,hs,hm.lift hl .refl λc S1 hm ρ1 H1 l1 s1=>?_⟩
 cases c with
 | true=>rw[qX rfl]at hm ⊢;exact⟨ρ1,l,S1,hl.mono l1,s1,hm.go l1 λ_ _ k=>k.later l1⟩
 | false=>rw[qY AK]at hm ⊢;exact⟨ρ1,l,S1,hl.mono l1,s1,hm.go l1 λ_ _ k=>k.later l1⟩
theorem kc(h:PG X tg (aQ i)):GG X tg (tgN i):=h.imp<|by
 rintro v σ H Q ⟨ρ,l,S,d,hd,hl,hs,hm⟩
 exact hm ρ H _ .refl hs (hl.set hd i)
theorem pQ{tg:Expr}{g:MG}(he:GE X E e m)(hg:GG X tg g)(hs:swapsWithSole [tg] e pos.line X.env=pure false:=by rfl)(hw:swappedStores [tg] e X.env=pure none:=by rfl)
  (h1:(Fd [tg] X.env).map (·.2)=[Rj tg X.env]:=by rfl):GS X E (.Assign [tg] e pos) (bZ m g):=(oA he hg hs hw h1).imp<|by
 rintro D σ H ⟨ρ,l,S,hl,hs,hm⟩
 exact⟨ρ,l,S,hl,hs,hm.lift hl .refl λd S1 hm ρ1 H1 x l1 s1 r1=>⟨ρ1,l,S1,d,r1,hl.mono l1,s1,(hm.later l1).seq λe1 S2 hm ρ2 H2 σ2 l2 s2 r2=>hm ρ2 H2 σ2 (l1.trans l2) s2 r2⟩⟩
theorem pO{i}{x}{pos'}(hN:X.N.Nodup)(hi:X.N[i]?=some x)(hx:Loc X.env.scope x)(he:GE X E e m)(hs:G6 e (some (.Name x pos')) pos.line X.env=pure false:=by rfl)
  (hf:X.fn x=true∨X.env.scope.names.lookup x=some .local:=by first | exact .inl rfl | exact .inr rfl | assumption):GS X E (.Assign [.Name x pos'] e pos) (CT i m):=(nw hN hi hx he hs hf).imp<|by
 rintro D σ H ⟨ρ,l,S,hl,hs,hm⟩
 exact⟨ρ,l,S,hl,hs,hm.lift hl .refl λd S1 hm ρ1 H1 x l1 s1 r1=>hm ρ1 H1 _ l1 s1 ((hl.mono l1).set r1 i)⟩
def MN(v:QX)(g:MG)(b:MS):Nat->Nat->Lo->Sto->Res Fl
 | k,i,e,S=>match v S with
  | none=>.bad
  | some ds=>match ds[i]? with
   | none=>.ok (.nx e) S
   | some d=>match k with
    | 0=>.bad
    | k+1=>(g d e S).bind λe1 S1=>(b e1 S1).bind λf S2=>match f with
     | .nx e2=>MN v g b k (i+1) e2 S2
     | .ct e2=>MN v g b k (i+1) e2 S2
     | .bk e2=>.ok (.nx e2) S2
     | .rt d=>.ok (.rt d) S2
     | .ex c e2=>.ok (.ex c e2) S2
def EQ(v:QX)(S:Sto):Nat:=match v S with
 | none=>0
 | some ds=>ds.length
def FF(m:MI)(g:MG)(b:MS):MS:=λe S=>(m e S).lift e λv S1=>MN v g b (EQ v S1) 0 e S1
theorem DF{tg iter}{body}{mi}{g}(hp:Uz (Ad X.prog X.w) X.A X.env X.xe)(hc:X.calm=true)(hi:GI X E tg iter mi)(hg:GG X tg g)(hb:GSs X E body b)
  (hs:∀x,Gb iter X.env x=pure x:=by intro _;rfl):GS X E (.For tg iter body [] pos) (FF mi g b):=(nz hp hc hi hg hb hs).imp<|by
 rintro D σ H ⟨ρ,l,S,hl,hs,hm⟩
 refine⟨ρ,l,S,hl,hs,hm.lift hl .refl λv S1 hm ρ1 H1 J l1 s1 vo=>?_⟩;refine⟨λi n σ2 H2=>∃ρ2 e2 S2,Le X.K ρ1 H1 ρ2 H2/\Gs X.K ρ2 H2 e2 σ2/\CW X.K ρ2 S2 H2/\Cg X.K noH ρ2 H2 (MN v g b n i e2 S2) λfl S'=>RD X.K E ρ H S' D fl,⟨EQ v S1,ρ1,l,S1,.refl,hl.mono l1,s1,hm.later l1⟩,?_⟩;rintro i n σ2 H2 ⟨ρ2,e2,S2,l2,r2,s2,u7⟩;unfold MN at u7
 cases hv:v S2 with
 | none=>rw[hv]at u7;exact u7.elim
 | some ds=>
  rw[hv]at u7;dsimp only at u7;obtain⟨v1,v2⟩:=vo ρ2 H2 S2 ds i l2 s2 hv
  cases hd:ds[i]? with
  | none=>
   rw[hd]at u7;exact .inl ⟨v1 hd,u7 ρ2 H2 σ2 (l1.trans l2) s2 r2⟩
  | some d=>
   rw[hd]at u7;dsimp only at u7;obtain⟨go,yl⟩:=v2 d hd
   cases n with
   | zero=>exact u7.elim
   | succ n=>
    dsimp only at u7;refine .inr ⟨go,λσ' H'=>∃ρ2 e2 S2,Le X.K ρ1 H1 ρ2 H'/\Gs X.K ρ2 H' e2 σ'/\CW X.K ρ2 S2 H'/\Cg X.K noH ρ2 H' (MN v g b n (i+1) e2 S2) λfl S'=>RD X.K E ρ H S' D fl,λσ' H' q=>⟨n,Dj n,q⟩,λx H' y=>?_⟩;obtain⟨ρ3,l3,s3,rd⟩:=yl x H' y;refine⟨ρ3,e2,S2,d,rd,r2.mono l3,s3,(u7.later l3).seq λe3 S3 u7 ρ4 H4 σ4 l4 s4 r4=>?_⟩;refine⟨ρ4,e3,S3,r4,s4,(u7.later l4).seq λf4 S4 u7=>?_⟩
    cases f4 with
    | nx e5=>exact λρ5 H5 σ5 l5 s5 r5=>⟨ρ5,e5,S4,l2.trans (l3.trans (l4.trans l5)),r5,s5,u7.later l5⟩
    | ct e5=>exact λρ5 H5 σ5 l5 s5 r5=>⟨ρ5,e5,S4,l2.trans (l3.trans (l4.trans l5)),r5,s5,u7.later l5⟩
    | bk e5=>exact λρ5 H5 σ5 l5 s5 r5=>u7 ρ5 H5 σ5 (l1.trans (l2.trans (l3.trans (l4.trans l5)))) s5 r5
    | ex c e5=>exact λρ5 H5 σ5 l5 s5 r5=>u7 ρ5 H5 σ5 (l1.trans (l2.trans (l3.trans (l4.trans l5)))) s5 r5
    | rt d5=>exact λρ5 H5 x5 l5 s5 r5=>u7 ρ5 H5 x5 (l1.trans (l2.trans (l3.trans (l4.trans l5)))) s5 r5
def Ih(c:MT)(b:MS):Nat->MS
 | 0=>λ_ _=>.bad
 | n+1=>λe S=>(c e S).lift e λt S1=>if t=true then(b e S1).bind λf S2=>match f with
   | .nx e2=>Ih c b n e2 S2
   | .ct e2=>Ih c b n e2 S2
   | .bk e2=>.ok (.nx e2) S2
   | .rt d=>.ok (.rt d) S2
   | .ex c e2=>.ok (.ex c e2) S2
  else .ok (.nx e) S1
theorem Xp{c}{body}(N:Nat)(hp:Uz (Ad X.prog X.w) X.A X.env X.xe)(hc:GT X E c t)(hb:GSs X E body b):GS X E (.While c body [] pos) (Ih t b N):=(eO hp hc hb).imp<|by
 rintro D σ H ⟨ρ,l,S,hl,hs,hm⟩
 refine⟨λn σ2 H2=>∃ρ2 e2 S2,Le X.K ρ H ρ2 H2/\Gs X.K ρ2 H2 e2 σ2/\CW X.K ρ2 S2 H2/\Cg X.K noH ρ2 H2 (Ih t b n e2 S2) λfl S'=>RD X.K E ρ H S' D fl,⟨N,ρ,l,S,.refl,hl,hs,hm⟩,?_⟩;rintro n σ2 H2 ⟨ρ2,e2,S2,l2,r2,s2,u7⟩
 cases n with
 | zero=>exact u7.elim
 | succ n=>
  refine⟨ρ2,e2,S2,r2,s2,u7.lift r2 l2 λtc S3 u7 ρ3 H3 l3 s3=>?_⟩
  cases tc with
  | false=>rw[qY AK]at u7 ⊢;exact u7 ρ3 H3 σ2 (l2.trans l3) s3 (r2.mono l3)
  | true=>
   rw[qX rfl]at u7 ⊢;refine⟨λσ' H'=>∃ρ2 e2 S2,Le X.K ρ H ρ2 H'/\Gs X.K ρ2 H' e2 σ'/\CW X.K ρ2 S2 H'/\Cg X.K noH ρ2 H' (Ih t b n e2 S2) λfl S'=>RD X.K E ρ H S' D fl,λσ' H' q=>⟨n,Dj n,q⟩,?_⟩;refine⟨ρ3,e2,S3,r2.mono l3,s3,(u7.later l3).seq λf4 S4 u7=>?_⟩
   cases f4 with
   | nx e5=>exact λρ5 H5 σ5 l5 s5 r5=>⟨ρ5,e5,S4,l2.trans (l3.trans l5),r5,s5,u7.later l5⟩
   | ct e5=>exact λρ5 H5 σ5 l5 s5 r5=>⟨ρ5,e5,S4,l2.trans (l3.trans l5),r5,s5,u7.later l5⟩
   | bk e5=>exact λρ5 H5 σ5 l5 s5 r5=>u7 ρ5 H5 σ5 (l2.trans (l3.trans l5)) s5 r5
   | ex c e5=>exact λρ5 H5 σ5 l5 s5 r5=>u7 ρ5 H5 σ5 (l2.trans (l3.trans l5)) s5 r5
   | rt d5=>exact λρ5 H5 x5 l5 s5 r5=>u7 ρ5 H5 x5 (l2.trans (l3.trans l5)) s5 r5
end
section
variable{X:Cx}{E:EW}{tg e:Expr}{m:ME}{K:AG}
def Qg(d:D):QX:=λS=>match d with
 | .ref n=>match S[n]? with
  | some (.lst ds)=>some ds
  | _=>none
 | .fro ds=>some ds
 | _=>none
def Hm(ds:List D):QX:=λ_=>some ds
def tD(m:ME):MI:=λe S=>(m e S).bind λd S1=>match Qg d S1 with
 | some _=>.ok (Qg d) S1
 | none=>.bad
def mF(m:ME):MI:=λe S=>(m e S).bind λd S1=>match d with
 | .tup ds=>.ok (Hm ds) S1
 | _=>.bad
theorem Ry(s:CW K ρ S H)(r:CH K ρ H d (.ref a))(hv:Qg d S=some ds):∃xs,SqL K H a xs/\A0 K ρ H ds xs:=by
 cases r with
 | tup h1 h2=>cases hv
 | exc _ _=>cases hv
 | fro h1 h2=>cases hv;exact⟨_,h1.sq,h2⟩
 | @ref n _ hn=>
  obtain⟨o,ho,ro⟩:=s.there hn;unfold Qg at hv;simp only[ho]at hv
  cases o with
  | lst es=>
   cases hv;obtain⟨vs,e,rr⟩:=ro;exact⟨vs,.inl (.inl e),rr⟩
  | _=>cases hv
theorem Rv(r:CH K ρ H d (.ref a)):NP K ρ H (Itl K a) (Qg d):=by
 intro ρ2 H2 S ds i l s hv;obtain⟨xs,sq,rr⟩:=Ry s (r.mono l) hv;refine⟨λhn=>⟨xs,sq,by rw[<-rr.length];exact Cz.mp hn⟩,λd hd=>?_⟩;obtain⟨x,hx,rx⟩:=rr.get hd;refine⟨⟨xs,x,sq,hx⟩,λy H' ⟨e,hy⟩=>?_⟩;subst e;have:=hy xs sq;rw[hx]at this;cases this;exact⟨ρ2,.refl,s,rx⟩
theorem pT(h:GE X E e m):GI X E tg e (tD m):=(jt h).imp<|by
 rintro σ H R ⟨ρ,l,S,hl,hs,hm⟩
 refine⟨ρ,l,S,hl,hs,hm.seq λd S1 hm ρ1 H1 x l1 s1 r1=>?_⟩
 cases hv:Qg d S1 with
 | none=>rw[hv]at hm;exact hm.elim
 | some ds=>
  rw[hv]at hm
  have:∃a,x=.ref a:=by
   cases r1 <;> first | exact⟨_,rfl⟩ | (cases hv;done)
  obtain⟨a,rfl⟩:=this;obtain⟨xs,sq,_⟩:=Ry s1 r1 hv;exact⟨a,rfl,⟨xs,sq⟩,hm ρ1 H1 _ l1 s1 (Rv r1)⟩
theorem Rt(h1:H a=some (.tup xs))(h2:A0 K ρ H ds xs):NP K ρ H (Itt K a) (Hm ds):=by
 intro ρ2 H2 S uX i l s hv;cases hv;have rr:=h2.mono l;have sq:SqT K H2 a xs:=.inl (.inl (l.tup _ _ h1));refine⟨λhn=>⟨xs,sq,by rw[<-rr.length];exact Cz.mp hn⟩,λd hd=>?_⟩;obtain⟨x,hx,rx⟩:=rr.get hd;refine⟨⟨xs,x,sq,hx⟩,λy H' ⟨e,hy⟩=>?_⟩;subst e;have:=hy xs sq;rw[hx]at this;cases this;exact⟨ρ2,.refl,s,rx⟩
theorem pR(h:GE X E e m):GI X E tg e (mF m):=(oB h).imp<|by
 rintro σ H R ⟨ρ,l,S,hl,hs,hm⟩
 refine⟨ρ,l,S,hl,hs,hm.seq λd S1 hm ρ1 H1 x l1 s1 r1=>?_⟩
 cases d <;> first | exact hm.elim | skip
 cases r1 with
 | tup q1 q2=>exact⟨_,rfl,⟨_,.inl (.inl q1)⟩,hm ρ1 H1 _ l1 s1 (Rt q1 q2)⟩
def JX(lo:Int)(n:Nat):List D:=(D4 n).map λi:Nat=>D.int (lo+i)
theorem UQ(lo:Int)(n i:Nat):(JX lo n)[i]?=if i < n then some (.int (lo+i))else none:=by
 unfold JX;rw[Ak]
 by_cases h:i < n
 ·rw[E3 h,qX h];rfl
 ·rw[qY h,Cz.mpr (by simpa using h)];rfl
theorem Ru(lo:Int)(n:Nat):NP K ρ H (Itr lo n) (Hm (JX lo n)):=by
 intro ρ2 H2 S uX i l s hv;cases hv;rw[UQ];refine⟨λhn=>?_,λd hd=>?_⟩
 ·split at hn
  ·cases hn
  ·rename_i h;exact Ro h
 ·split at hd
  ·rename_i h
   cases hd;refine⟨h,λy H' ⟨e,hy⟩=>?_⟩;subst e;subst hy;exact⟨ρ2,.refl,s,.int _⟩
  ·cases hd
def iR1(ml:ML):MI:=λe S=>(ml e S).bind λds S1=>match ds with
 | [.int j]=>if -(2 ^ 62)<=j/\j < 2 ^ 62 then .ok (Hm (JX 0 j.toNat)) S1 else .bad
 | _=>.bad
def iR2(ml:ML):MI:=λe S=>(ml e S).bind λds S1=>match ds with
 | [.int i,.int j]=>if -(2 ^ 62)<=i/\i < 2 ^ 62/\-(2 ^ 62)<=j/\j < 2 ^ 62 then .ok (Hm (JX i (j - i).toNat)) S1 else .bad
 | _=>.bad
theorem Dc(hg:Gl X "range") (hm:X.mg "range" = none) (ha:GA X E [a] ml) (hs:Ag [a] X.env=[(false,Co a X.env)]:=by rfl):GI X E tg (.Call (.Name "range" p) [a] [] pos) (iR1 ml):=(bo hg hm ha hs).imp<|by
 rintro σ H R ⟨ρ,l,S,hl,hs,hm⟩
 refine⟨ρ,l,S,hl,hs,hm.seq λds S1 hm ρ1 H1 xs l1 s1 r1=>?_⟩;split at hm
 ·rename_i j
  split at hm
  ·rename_i hj
   cases r1 with
   | cons r t=>
    cases t;cases r;exact⟨j,rfl,hj.1,hj.2,hm ρ1 H1 _ l1 s1 (Ru 0 j.toNat)⟩
  ·exact hm.elim
 ·exact hm.elim
theorem Kz(hg:Gl X "range") (hm:X.mg "range" = none) (ha:GA X E [a,b] ml) (hs:Ag [a,b] X.env=[(false,Co a X.env),(false,Co b X.env)]:=by rfl) (uS:Ag [b] X.env=[(false,Co b X.env)]:=by rfl) :
  GI X E tg (.Call (.Name "range" p) [a,b] [] pos) (iR2 ml):=(bn hg hm ha hs uS).imp<|by
 rintro σ H R ⟨ρ,l,S,hl,hs,hm⟩
 refine⟨ρ,l,S,hl,hs,hm.seq λds S1 hm ρ1 H1 xs l1 s1 r1=>?_⟩;split at hm
 ·rename_i i j
  split at hm
  ·rename_i hj
   cases r1 with
   | cons r t=>
    cases t with
    | cons r' t=>
     cases t;cases r;cases r';exact⟨i,j,rfl,hj,hm ρ1 H1 _ l1 s1 (Ru i _)⟩
  ·exact hm.elim
 ·exact hm.elim
end
def JO:List D->Lo->Sto->Res Lo
 | [],e,S=>.ok e S
 | _,_,_=>.bad
def DE(g:MG)(r:List D->Lo->Sto->Res Lo):List D->Lo->Sto->Res Lo
 | d :: ds,e,S=>(g d e S).bind λe1 S1=>r ds e1 S1
 | [],_,_=>.bad
def Io(n:Nat)(r:List D->Lo->Sto->Res Lo):MG:=λd e S=>match d with
 | .tup ds=>if ds.length=n then r ds e S else .bad
 | _=>.bad
section
variable{X:Cx}
def gGs(K:AG)(r:List D->Lo->Sto->Res Lo):TGs:=λvs σ H Q=>∃ρ e S ds,A0 K ρ H ds vs/\Gs K ρ H e σ/\CW K ρ S H/\Cg K noH ρ H (r ds e S) λe' S'=>∀ρ' H' σ',Le K ρ H ρ' H'->CW K ρ' S' H'->Gs K ρ' H' e' σ'->Q σ' H'
abbrev GGs(X:Cx)(ts:List Expr)(r:List D->Lo->Sto->Res Lo):Prop:=PGs X ts (gGs X.K r)
theorem PGs.imp(h:PGs X ts t)(i:∀vs σ H Q,t' vs σ H Q->t vs σ H Q):PGs X ts t':=λζ s σ H vs us Q I r q=>h ζ s σ H vs us Q I r (i vs σ H Q q)
theorem Nd:GGs X [] JO:=jw.imp<|by
 rintro vs σ H Q ⟨ρ,l,S,ds,hd,hl,hs,hm⟩
 cases ds with
 | nil=>cases hd;exact⟨rfl,hm ρ H σ .refl hs hl⟩
 | cons d ds=>exact hm.elim
theorem E0(h1:GG X e g)(h2:GGs X es r)
  (hs:(Fd (e :: es) X.env).map (·.2)=Rj e X.env :: (Fd es X.env).map (·.2):=by rfl):GGs X (e :: es) (DE g r):=(eW h1 h2 hs).imp<|by
 rintro vs σ H Q ⟨ρ,l,S,ds,hd,hl,hs,hm⟩
 cases ds with
 | nil=>exact hm.elim
 | cons d ds=>
  cases hd with
  | cons q1 q2=>
   exact⟨_,_,rfl,ρ,l,S,d,q1,hl,hs,hm.seq λe1 S1 hm ρ1 H1 σ1 l1 s1 r1=>⟨ρ1,e1,S1,ds,q2.mono l1,r1,s1,hm.go l1 λ_ _ k ρ2 H2 σ2 l2 s2 r2=>k ρ2 H2 σ2 (l1.trans l2) s2 r2⟩⟩
theorem QK(hc:X.calm=true)(h:GGs X es r)
  (hn:(Fd es X.env).length=n:=by rfl) (vp:(Fd es X.env).findIdx? (·.1)=none:=by rfl):GG X (.Tuple es k pos) (Io n r):=(oE hc h hn vp).imp<|by
 rintro v σ H Q ⟨ρ,l,S,d,hd,hl,hs,hm⟩
 cases d <;> first | exact hm.elim | skip
 rename_i ds
 cases hd with
 | tup q1 q2=>
  unfold Io at hm;dsimp only at hm;split at hm
  ·rename_i hlen
   exact⟨_,_,rfl,.inl (.inl q1),by rw[<-q2.length];exact hlen,ρ,l,S,ds,q2,hl,hs,hm⟩
  ·exact hm.elim
end
def spM(K:AG)(n:Nat)(f:List D->Sto->Res D):Sp:=λvs H Q E=>∃ρ ds S,ds.length=n/\A0 K ρ H ds vs/\CW K ρ S H/\Cg K (λc H'=>E (.ref c) none H') ρ H (f ds S) λd S'=>
 ∀ρ' H' x,Le K ρ H ρ' H'->CW K ρ' S' H'->CH K ρ' H' d x->Q x H'
theorem spM.len{K}{n}{f}{vs}{H}{Q}{E}(h:spM K n f vs H Q E):vs.length=n:=by
 obtain⟨ρ,ds,S,h1,h2,_⟩:=h;rw[<-h2.length];exact h1
def CP(n:Nat)(f:List D->Sto->Res D)(m:ML):ME:=λe S=>(m e S).bind λds S1=>if ds.length=n then f ds S1 else .bad
def PH(C:Ab)(n:Nat)(f:List D->Sto->Res D)(m:ML):ME:=λe S=>(m e S).bind λds S1=>if ds.length+1=n then(f (.ref S1.length :: ds) (S1++[.ins C []])).bind (λd S2=>match d with
  | .non=>.ok (.ref S1.length) S2
  | _=>.bad)else .bad
def VH(E:EW)(σ:St):XK:=λv o H=>o=none/\∃c,v=.ref c/\E c σ H
section
variable{X:Cx}{E:EW}{k n:Nat}{x:Str}{e:Expr}{es:List Expr}
theorem Cg.xk{α:Type}{K:AG}{σ:St}{ρ ρ1:List Ab}{H H1:Hp}{r:Res α}{k k':α->Sto->Prop}(h:Cg K (λc=>E c σ) ρ H r k)(l:Le K ρ H ρ1 H1)(f:∀a S,k a S->k' a S):Cg K (λc H'=>VH E σ (.ref c) none H') ρ1 H1 r k':=by
 cases r with
 | ok a S=>exact f a S h
 | err c S=>exact λρ' H' l' s=>⟨rfl,c,rfl,h ρ' H' (l.trans l') s⟩
 | bad=>exact h
theorem WB(F:DC X.prog X.w X.K X.mg X.base CX k f fd ps (spM X.K n g))(hx:L6 CX X (VH E))(hr:Hj k X.A)(hg:Gl X x)(hm:X.mg x=some (.ref f))(hk:Fe X.K (.ref f)=true)(hb:Binds X.K fd ps [])
  (ha:GA X E (e :: es) ml) (uW:(x==("__debug__" : Str))=false:=by decide) (he:Ag (e :: es) X.env=(false,Co e X.env) :: Ag es X.env:=by rfl) (uz:(E6 pos (Ag es X.env)).any (·.1)=false:=by rfl) :
  GE X E (.Call (.Name x p) (e :: es) [] pos) (CP n g ml):=(j7 (E:=VH E) F hr hg hm hk hb .nil hx ha uW he uz).imp<|by
 rintro σ H Q ⟨ρ,l,S,hl,hs,hm⟩
 refine⟨ρ,l,S,hl,hs,hm.seq λds S1 hm ρ1 H1 xs l1 s1 r1=>?_⟩;split at hm
 ·rename_i hlen
  rw[CB];exact⟨ρ1,ds,S1,hlen,r1,s1,hm.xk l1 λ_ _ k ρ' H' z l' s' r'=>k ρ' H' z (l1.trans l') s' r'⟩
 ·exact hm.elim
theorem WA(M:Mk X.K C f)(F:DC X.prog X.w X.K X.mg X.base CX k f fd ps (spM X.K n g))(hx:L6 CX X (VH E))(hr:Hj (k+1) X.A)(hg:Gl X x)(hm:X.mg x=some (.ref C))(hb:Binds X.K fd ps [])
  (ha:GA X E (e :: es) ml) (uW:(x==("__debug__" : Str))=false:=by decide) (he:Ag (e :: es) X.env=(false,Co e X.env) :: Ag es X.env:=by rfl) (uz:(E6 pos (Ag es X.env)).any (·.1)=false:=by rfl) :
  GE X E (.Call (.Name x p) (e :: es) [] pos) (PH C n g ml):=(j0 (E:=VH E) M F hr hg hm hb .nil hx ha uW he uz).imp<|by
 rintro σ H Q ⟨ρ,l,S,hl,hs,hm⟩
 refine⟨ρ,l,S,hl,hs,hm.seq λds S1 hm ρ1 H1 xs l1 s1 r1 a dx ha hdx um=>?_⟩;split at hm
 ·rename_i hlen
  rw[CB];obtain⟨s2,l2⟩:=Iu (ho:=.own a) s1 hdx
  have zD:upd H1 dx (.own a) a=none:=by rw[Bo (Ci um)];exact ha
  obtain⟨s3,l3,at3⟩:=s2.alloc (p:=a) (ho:=.ins C dx []) (o:=.ins C []) zD ⟨dx,[],CJ,.nil⟩;refine⟨ρ1++[a],.ref S1.length :: ds,S1++[.ins C []],by simpa using hlen,.cons (.ref at3) (r1.mono (l2.trans l3)),s3,Cg.xk (hm.seq λz S2 hm=>hm) (l1.trans (l2.trans l3)) λz S2 hm ρ' H' y l' s' r'=>?_⟩
  cases z <;> first | exact hm.elim | skip
  cases r';exact⟨rfl,hm ρ' H' _ (l1.trans (l2.trans (l3.trans l'))) s' (.ref (l'.pre _ _ at3))⟩
 ·exact hm.elim
end
theorem KVR.lookup{K}{ρ}{H}(f:Str):∀{x:List (Str×D)} {y:List (Str×V)} {d:D},KVR K ρ H x y->x.lookup f=some d->∃v,y.lookup f=some v/\CH K ρ H d v
 | _,_,_,.nil,h=>by simp at h
 | (g,a) :: x,(g',b) :: y,d,.cons r t,h=>by
  obtain⟨r1,r2⟩:=r;dsimp only at r1 r2;subst r1;rw[Bf]at h ⊢
  cases hq:(f==g)with
  | true=>rw[hq]at h;cases h;exact⟨b,rfl,r2⟩
  | false=>rw[hq]at h;exact KVR.lookup f t h
def Jt(f:Str)(v:D):List (Str×D)->List (Str×D)
 | []=>[(f,v)]
 | (g,x) :: r=>if g=f then(g,v) :: r else(g,x) :: Jt f v r
theorem KVR.putF{K}{ρ}{H}(f:Str){d}{v}(rd:CH K ρ H d v):∀{x:List (Str×D)} {y:List (Str×V)},KVR K ρ H x y->KVR K ρ H (Jt f d x) (putF f v y)
 | _,_,.nil=>.cons ⟨rfl,rd⟩ .nil
 | (g,a) :: x,(g',b) :: y,.cons r t=>by
  obtain⟨r1,r2⟩:=r;dsimp only at r1 r2;subst r1;unfold Jt L2.putF
  by_cases hq:g=f
  ·rw[qX hq,qX hq];exact .cons ⟨rfl,rd⟩ t
  ·rw[qY hq,qY hq];exact .cons ⟨rfl,r2⟩ (KVR.putF f rd t)
theorem KVR.length{κ:Type}{K:AG}{ρ:List Ab}{H:Hp}{x:List (κ×D)}{y:List (κ×V)}(h:KVR K ρ H x y):x.length=y.length:=FK h
def D0(C:Ab)(f:Str)(m:ME):ME:=λe S=>(m e S).bind λd S1=>match d with
 | .ref n=>match S1[n]? with
  | some (.ins C' fs)=>if C'=C then(match fs.lookup f with | some v=>.ok v S1 | none=>.bad)else .bad
  | _=>.bad
 | _=>.bad
def J2(C:Ab)(f:Str)(mo mv:ME):MS:=λe S=>(mv e S).lift e λv S1=>(mo e S1).lift e λd S2=>match d with
 | .ref n=>match S2[n]? with
  | some (.ins C' fs)=>if C'=C/\fs.length < 1000 then .ok (.nx e) (S2.set n (.ins C (Jt f v fs)))else .bad
  | _=>.bad
 | _=>.bad
section
variable{X:Cx}{E:EW}{o e value:Expr}{m mv:ME}
theorem DP(hc:Cls X.K C)(hn:FS X.K C f)(he:GE X E e m)(hb:GU e f X.env (Co e X.env)=Co e X.env:=by rfl):GE X E (.Attribute e f pos) (D0 C f m):=(oO he hb).imp<|by
 rintro σ H Q ⟨ρ,l,S,hl,hs,hm⟩
 refine⟨ρ,l,S,hl,hs,hm.seq λx S1 hm ρ1 H1 v l1 s1 r1=>?_⟩
 cases x <;> first | exact hm.elim | skip
 rename_i n;dsimp only at hm
 cases ho:S1[n]? with
 | none=>rw[ho]at hm;exact hm.elim
 | some ob=>
  rw[ho]at hm
  cases ob <;> first | exact hm.elim | skip
  rename_i C' fs;dsimp only at hm;split at hm
  ·rename_i hC
   rw[hC]at ho
   cases r1 with
   | ref vk=>
    obtain⟨dx,wj,e1,e2⟩:=s1.ob n _ _ ho vk
    cases hq:fs.lookup f with
    | none=>rw[hq]at hm;exact hm.elim
    | some w=>
     rw[hq]at hm;obtain⟨v,h3,h4⟩:=KVR.lookup f e2 hq;exact⟨_,_,dx,wj,v,rfl,e1,hc,hn,h3,hm ρ1 H1 v l1 s1 h4⟩
  ·exact hm.elim
theorem KQ(hc:Cls X.K C)(hn:FS X.K C f)(ha:GE X E o m)(hv:GE X E value mv)(hs:G6 value (some (.Attribute o f pos')) pos.line X.env=pure false:=by rfl):GS X E (.Assign [.Attribute o f pos'] value pos) (J2 C f m mv):=(n8 ha hv hs).imp<|by
 rintro D σ H ⟨ρ,l,S,hl,hs,hm⟩
 refine⟨ρ,l,S,hl,hs,hm.lift hl .refl λv S1 hm ρ1 H1 y l1 s1 r1=>⟨ρ1,l,S1,hl.mono l1,s1,(hm.later l1).lift (hl.mono l1) l1 λx S2 hm ρ2 H2 u l2 s2 r2=>?_⟩⟩
 cases x <;> first | exact hm.elim | skip
 rename_i n;dsimp only at hm
 cases ho:S2[n]? with
 | none=>rw[ho]at hm;exact hm.elim
 | some ob=>
  rw[ho]at hm
  cases ob <;> first | exact hm.elim | skip
  rename_i C' fs;dsimp only at hm;split at hm
  ·rename_i hC
   obtain⟨hC,hlen⟩:=hC;rw[hC]at ho
   cases r2 with
   | ref vk=>
    obtain⟨dx,wj,e1,e2⟩:=s2.ob n _ _ ho vk;have le:Le X.K ρ2 H2 ρ2 (upd H2 _ (.ins C dx (putF f y wj))):=Le.write vk (by rw[e1];trivial);obtain⟨s3,l3⟩:=s2.write (ho:=.ins C dx (putF f y wj)) (o:=.ins C (Jt f v fs)) vk ⟨dx,_,CJ,(KVR.putF f (r1.mono l2) e2).mono le⟩ le;refine⟨_,C,dx,wj,rfl,e1,hc,hn,by rw[<-KVR.length e2];exact hlen,?_⟩;exact hm ρ2 _ σ (l1.trans (l2.trans l3)) s3 (hl.mono (l1.trans (l2.trans l3)))
  ·exact hm.elim
end
def ExAt(Nw:Ab->Prop)(F:Option AJ->Prop)(ea C:Ab)(H:Hp)(h:DT):Prop:=
 H ea=none/\Nw ea/\∃(oe:Obj) (vs:Array AJ) (a0:AJ),h.get? ea=some oe/\oe.cls=.ref C/\(oe.dict=none/\oe.data=.fields vs)/\vs[0]?=some a0 /\
  ((F none/\vs[1]?=some .none)∨∃(T:Ab) (oT:Obj) (ts:Array AJ) (fl:AJ),F (some fl)/\vs[1]?=some (.ref T)/\T≠ea/\H T=none/\Nw T/\h.get? T=some oT/\oT.data=.fields ts/\ts[3]?=some fl)
def CXG(P:Bs)(w:CV):CXT:=λouter H s E e s'=>∃ea C H',e=.ref ea/\s'.os=s.os/\Km s'.gens/\Un (frs outer) [] H H' s.heap s'.heap/\HOk P w H' s'.heap/\ExAt (λb=>s.heap.get? b=none) (· = some .none) ea C H' s'.heap/\E (.ref C) none H'
theorem Inv.with(I:Inv X ζ σ H s)(z:AJ->AS->Prop):Inv { X with xe:=z } ζ σ H s:=by
 obtain⟨ok,a,b,c,d,e,f,g,i,j,l⟩:=I;obtain⟨o1,o2,o3,o4,o5,o6,o7,o8,o9,o10,o11,o12,o13,o14,o15,o16,o17,o18⟩:=ok;exact⟨⟨o1,o2,o3,o4,o5,o6,o7,o8,o9,o10,o11,o12,o13,o14,o15,o16,o17,o18⟩,a,b,c,d,e,f,g,i,j,l⟩
theorem Inv.without(I:Inv { X with xe:=z } ζ σ H s):Inv X ζ σ H s:=by
 have:=I.with X.xe
 exact this
structure Good(X:Cx)(E:EW):Prop where
 pass:L6 (CXG X.prog X.w) X (VH E)
 own:Uz (Ad X.prog X.w) X.A X.env X.xe
 made:∀(ζ:List (Ab×Obj)) (σ:St) (H:Hp) (s:AS) (h':DT) (ea C:Ab) (args:List AJ),Inv X ζ σ H s->E C σ H->DT.MadeExcOf s.heap h' ea (.ref C) args->X.xe (.ref ea) { s with heap:=h' }
theorem good_none(hx:X.xe=λ_ _=>False):Good X noE:=by
 refine⟨λζ σ H s e s' I h=>?_,by rw[hx];exact Uz.never,λ_ _ _ _ _ _ _ _ _ w _=>w.elim⟩;obtain⟨ea,C,H',rfl,os,bare,un,hok,x,_,c,ec,w⟩:=h;exact w.elim
def Ig(n:Nat)(ds:List D):Lo:=ds.map some++Bw (n - ds.length) none
theorem Yg{K}{ρ}{H}{N}{ds}{vs}(r:A0 K ρ H ds vs):Gs K ρ H (Ig N.length ds) (start N vs):=by
 refine⟨by simp[Ig,start,r.length],λi d q=>?_⟩;unfold Ig at q;unfold start
 by_cases hi:i < ds.length
 ·rw[Av (by simpa using hi),Ak]at q
  rw[Av (by rw[AF,<-r.length];exact hi),Ak]
  cases e:ds[i]? with
  | none=>rw[e]at q;cases q
  | some d'=>
   rw[e]at q;cases q;obtain⟨v,h1,h2⟩:=r.get e;exact⟨v,by rw[h1];rfl,h2⟩
 ·rw[Bn (by simpa using hi),Dz]at q
  split at q <;> cases q
section
variable{X:Cx}
def intOp(C:Int->Int->Prop)[∀i j,Decidable (C i j)](g:Int->Int->D):D->D->Sto->Res D
 | .int i,.int j,S=>if C i j then .ok (g i j) S else .bad
 | _,_,_=>.bad
theorem fv[∀i j,Decidable (C i j)](h:intOp C g a b S=.ok d S'):∃i j,a=.int i/\b=.int j/\C i j/\d=g i j/\S'=S:=by
 unfold intOp at h;split at h
 ·split at h
  ·rename_i i j _ hc
   cases h;exact⟨_,_,rfl,rfl,hc,rfl,rfl⟩
  ·cases h
 ·cases h
theorem QC[∀i j,Decidable (C i j)](hv:∀ρ H i j,CH X.K ρ H (g i j) (v i j))(h:OpR X f (rI C v)):OpR X f (rD X.K (intOp C g)):=h.imp<|by
 rintro x y H Q ⟨ρ,S,a,b,d,S',hs,ra,rb,hm,k⟩
 obtain⟨i,j,rfl,rfl,hc,rfl,rfl⟩:=fv hm;cases ra;cases rb;exact⟨i,j,rfl,rfl,hc,k ρ H _ .refl hs (hv _ _ _ _)⟩
theorem Na(hv:∀ρ H i j,CH X.K ρ H (g i j) (v i j))(h:OpR X f (rI0 v)):OpR X f (rD X.K (intOp (λ_ _=>True) g)):=
 QC (C:=λ_ _=>True) hv (h.imp λx y H Q ⟨i,j,e1,e2,_,q⟩=>⟨i,j,e1,e2,q⟩)
instance(i j:Int):Decidable (hZ i j):=inferInstanceAs (Decidable (_/\_))
instance(i j:Int):Decidable (hX i j):=inferInstanceAs (Decidable (_/\_/\_))
instance(i j:Int):Decidable (cb i j):=inferInstanceAs (Decidable (_∨_))
abbrev P2:=intOp (λ_ _=>True) λi j=>.int (i - j)
abbrev kJ:=intOp cb λi j=>.int (i * j)
abbrev PY:=intOp hZ λi j=>.int (i / j)
abbrev Nn:=intOp (λ_ j=>0 < j) λi j=>.int (i % j)
abbrev ltD:=intOp (λ_ _=>True) λi j=>.bl (decide (i < j))
abbrev leD:=intOp (λ_ _=>True) λi j=>.bl (decide (i<=j))
abbrev gtD:=intOp (λ_ _=>True) λi j=>.bl (decide (j < i))
abbrev geD:=intOp (λ_ _=>True) λi j=>.bl (decide (j<=i))
theorem Ja:OpR X (DR .Sub) (rD X.K P2):=Na (λ_ _ _ _=>.int _) oU
theorem fC:OpR X (DR .Mult) (rD X.K kJ):=QC (λ_ _ _ _=>.int _) oX
theorem O9:OpR X (DR .FloorDiv) (rD X.K PY):=QC (λ_ _ _ _=>.int _) kB
theorem Ii:OpR X (DR .Mod) (rD X.K Nn):=QC (λ_ _ _ _=>.int _) oY
theorem Z2:OpR X (Ch .Lt) (rD X.K ltD):=Na (λ_ _ _ _=>.bl _) sK
theorem XY:OpR X (Ch .LtE) (rD X.K leD):=Na (λ_ _ _ _=>.bl _) sL
theorem sT:OpR X (Ch .Gt) (rD X.K gtD):=Na (λ_ _ _ _=>.bl _) sM
theorem lw:OpR X (Ch .GtE) (rD X.K geD):=Na (λ_ _ _ _=>.bl _) sO
def GB:D->D->Sto->Res D
 | .int i,.int j,S=>.ok (.int (i+j)) S
 | .tup xs,.tup ys,S=>if xs.length+ys.length<=sizeLine then .ok (.tup (xs++ys)) S else .bad
 | .ref l,.ref b,S=>match S[l]?,S[b]? with
  | some (.lst xs),some (.lst ys)=>if xs.length+ys.length<=sizeLine then .ok (.ref S.length) (S++[.lst (xs++ys)])else .bad
  | _,_=>.bad
 | _,_,_=>.bad
def rn(K:AG):R2:=λx y H Q=>∃a b xs ys,x=.ref a/\y=.ref b/\H a=some (.tup xs)/\H b=some (.tup ys)/\xs.length+ys.length<=sizeLine /\
 (xs=[]->Q (.ref b) H)/\(ys=[]->Q (.ref a) H)/\(∀p,H p=none->Q (.ref p) (upd H p (.tup (xs++ys))))
theorem kD:OpR X (DR .Add) (rn X.K):=by
 intro ζ s σ H x y v u Q I rx ry h;obtain⟨a,b,xs,ys,rfl,rfl,ha,hb,hz,q0,q1,q2⟩:=h;cases rx;cases ry;obtain⟨i',r1,p1,_⟩:=I.tuple (a:=a) (xs:=xs) (.inl (.inl ha));obtain⟨ur,r2,p2,_⟩:=I.tuple (a:=b) (xs:=ys) (.inl (.inl hb))
 by_cases hx:xs=[]
 ·obtain⟨⟨cls,dd,data,sl⟩,ho,hc,n,hd⟩:=id p1
  obtain⟨⟨cls2,dd2,data2,sl2⟩,ho2,hc2,n2,hd2⟩:=id p2;simp only at hc hd hc2 hd2;subst hc hd hc2 hd2;have hi:i'=[]:=r1.nil_iff.mpr hx
  exact cq ⟨_,ho,rfl⟩ ⟨_,ho2,rfl⟩ Uv ap LD Kk (KF _ _)
   (tuple_addW0 a b i'.toArray ur.toArray n n2 dd dd2 sl sl2 (by simp[hi])) ⟨ho,ho2,⟨.ref b,H,I,rfl,q0 hx⟩⟩
 ·exact kC ζ s σ H (.ref a) (.ref b) _ _ Q I rfl rfl ⟨a,b,xs,ys,rfl,rfl,.inl (.inl ha),.inl (.inl hb),hx,hz,q1,λ_ p hp=>q2 p hp⟩
theorem A0.nil_of{K}{ρ}{H}{xs}{vs}(r:A0 K ρ H xs vs)(e:vs=[]):xs=[]:=by
 subst e;cases r;rfl
theorem Dw:OpR X (DR .Add) (rD X.K GB):=(oh.or (kD.or oZ)).imp<|by
 rintro x y H Q ⟨ρ,S,a,b,d,S',hs,ra,rb,hm,k⟩
 cases ra with
 | int i=>
  cases rb <;> first | (cases hm;done) | skip
  cases hm;exact .inl ⟨_,_,rfl,rfl,k ρ H _ .refl hs (.int _)⟩
 | @tup xs a1 vs h1 h2=>
  cases rb with
  | @tup ys b1 ws h3 h4=>
   unfold GB at hm;dsimp only at hm;split at hm
   ·rename_i hz
    cases hm;refine .inr (.inl ⟨_,_,_,_,rfl,rfl,h1,h3,by rw[<-h2.length,<-h4.length];exact hz,λe=>?_,λe=>?_,λp hp=>?_⟩)
    ·rw[h2.nil_of e,iW]at k
     exact k ρ H _ .refl hs (.tup h3 h4)
    ·rw[h4.nil_of e,CB]at k
     exact k ρ H _ .refl hs (.tup h1 h2)
    ·obtain⟨s2,l2⟩:=Iu (ho:=.tup (vs++ws)) hs hp
     exact k ρ _ _ l2 s2 (.tup CJ ((h2.append h4).mono l2))
   ·cases hm
  | _=>cases hm
 | @ref n a1 hn=>
  cases rb with
  | @ref m b1 vk=>
   unfold GB at hm;dsimp only at hm;split at hm
   ·rename_i xs ys h1 h2
    split at hm
    ·rename_i hz
     cases hm;obtain⟨vs,e1,r1⟩:=hs.ob _ _ _ h1 hn;obtain⟨us,e2,r2⟩:=hs.ob _ _ _ h2 vk;refine .inr (.inr ⟨_,_,_,_,rfl,rfl,e1,e2,by rw[<-r1.length,<-r2.length];exact hz,λp hp=>?_⟩);have le:Le X.K ρ H (ρ++[p]) (upd H p (.lst (vs++us))):=Le.alloc hp;obtain⟨s2,l2,at2⟩:=hs.alloc (ho:=.lst (vs++us)) (o:=.lst (xs++ys)) hp ⟨_,CJ,(r1.append r2).mono le⟩;exact k _ _ _ l2 s2 (.ref at2)
    ·cases hm
   ·cases hm
  | _=>cases hm
 | _=>cases hm
def ixD:D->D->Sto->Res D:=λa b S=>match Ga a S,b with
 | some ds,.int i=>match atI ds i with
  | some d=>.ok d S
  | none=>.bad
 | _,_=>.bad
theorem lM{K}{ρ}{H}{ds}{vs}{i}{d}(r:A0 K ρ H ds vs)(h:atI ds i=some d):∃v,atI vs i=some v/\CH K ρ H d v:=by
 unfold atI at h ⊢;rw[<-r.length]
 cases hq:ixN ds.length i with
 | none=>rw[hq]at h;cases h
 | some j=>
  rw[hq]at h;exact r.get h
theorem sQ:IxR X (rD X.K ixD):=(ix_list.or pG).imp<|by
 rintro x y H Q ⟨ρ,S,a,b,d,S',hs,ra,rb,hm,k⟩
 unfold ixD at hm;split at hm
 ·rename_i ds i hq
  split at hm
  ·rename_i d' hd
   cases hm;cases rb;obtain⟨p,xs,rfl,rr,sq⟩:=RS hs ra hq;obtain⟨v,h1,h2⟩:=lM rr hd
   rcases sq with sq | sq
   ·exact .inl ⟨p,xs,_,v,rfl,rfl,sq,h1,k ρ H v .refl hs h2⟩
   ·exact .inr ⟨p,xs,_,v,rfl,rfl,sq,h1,k ρ H v .refl hs h2⟩
  ·cases hm
 ·cases hm
end
def mQ(f:List D->Sto->Res D)(m:ML):ME:=λe S=>(m e S).bind λds S1=>okR (f ds S1)
section
variable{X:Cx}{E:EW}{e:Expr}{es:List Expr}{x:Str}{p pos:Pos}{ml:ML}{id T:String}{r:List V->Hp->VK->Prop}{f:List D->Sto->Res D}
def tX(K:AG)(r:List V->Hp->VK->Prop)(f:List D->Sto->Res D):Prop:=∀ρ H S ds q xs d S' (Q:VK),CW K ρ S H->A0 K ρ H ds xs->(SqL K H q xs∨SqT K H q xs)->f ds S=.ok d S' ->
 (∀ρ' H' z,Le K ρ H ρ' H'->CW K ρ' S' H'->CH K ρ' H' d z->Q z H')->r [.ref q] H Q
def qI(K:AG)(r:List V->Hp->VK->Prop)(f:List D->Sto->Res D):Prop:=∀ρ H S ds xs d S' (Q:VK),CW K ρ S H->A0 K ρ H ds xs->f ds S=.ok d S' ->
 (∀ρ' H' z,Le K ρ H ρ' H'->CW K ρ' S' H'->CH K ρ' H' d z->Q z H')->r xs H Q
def tW(K:AG)(r:List V->Hp->VK->Prop)(f:List D->Option (List D)):Prop:=∀ρ H S ds q xs es (Q:VK),CW K ρ S H->A0 K ρ H ds xs->(SqL K H q xs∨SqT K H q xs)->f ds=some es ->
 (∀ρ' H' p ys,Le K ρ H ρ' H'->CW K ρ' S H'->A0 K ρ' H' es ys->H' p=some (.lst ys)->(∀n:Nat,ρ'[n]?≠some p)->H p=none->Q (.ref p) H')->r [.ref q] H Q
theorem kf(hc:K5 X (.builtin id) r)(hf:tX X.K r f)(hg:Gl X x)(hm:X.mg x=none)(hv:G7 x=some (.builtin id))(h:GQ X E e ml)(hn:x≠"__name__":=by decide) (uW:(x==("__debug__" : Str))=false:=by decide)
  (he:Ag [e] X.env=(false,Co e X.env) :: Ag [] X.env:=by rfl):GE X E (.Call (.Name x p) [e] [] pos) (mQ f ml):=(O4 hc hg hm hv (HK h JY he) hn uW he rfl).imp<|by
 rintro σ H Q ⟨ρ,l,S,hl,hs,hm⟩
 refine⟨ρ,l,S,hl,hs,hm.seq λds S1 hm ρ1 H1 q xs l1 s1 r1 sq=>?_⟩;obtain⟨d,S',e,k⟩:=hm.okR
 exact hf ρ1 H1 S1 ds q xs d S' Q s1 r1 sq e λρ' H' z l' s' r'=>k ρ' H' z (l1.trans l') s' r'
theorem aO(hc:K5 X (.builtin id) r)(hf:qI X.K r f)(hg:Gl X x)(hm:X.mg x=none)(hv:G7 x=some (.builtin id))(h:GA X E (e :: es) ml)(hn:x≠"__name__":=by decide) (uW:(x==("__debug__" : Str))=false:=by decide)
  (he:Ag (e :: es) X.env=(false,Co e X.env) :: Ag es X.env:=by rfl) (uz:(E6 pos (Ag es X.env)).any (·.1)=false:=by rfl):GE X E (.Call (.Name x p) (e :: es) [] pos) (mQ f ml):=(O4 hc hg hm hv h hn uW he uz).imp<|by
 rintro σ H Q ⟨ρ,l,S,hl,hs,hm⟩
 refine⟨ρ,l,S,hl,hs,hm.seq λds S1 hm ρ1 H1 xs l1 s1 r1=>?_⟩;obtain⟨d,S',e,k⟩:=hm.okR
 exact hf ρ1 H1 S1 ds xs d S' Q s1 r1 e λρ' H' z l' s' r'=>k ρ' H' z (l1.trans l') s' r'
def mN(f:List D->Option (List D))(m:ML):ML:=λe S=>(m e S).bind λds S1=>match f ds with
 | some es=>.ok es S1
 | none=>.bad
theorem ka{f}(hc:K5 X (.type T) r)(hf:tW X.K r f)(hg:Gl X x)(hm:X.mg x=none)(hv:G7 x=some (.type T))(h:GQ X E e ml)(hn:x≠"__name__":=by decide) (uW:(x==("__debug__" : Str))=false:=by decide)
  (he:Ag [e] X.env=(false,Co e X.env) :: Ag [] X.env:=by rfl):GL X E (.Call (.Name x p) [e] [] pos) (mN f ml):=(QA hc hg hm hv (HK h JY he) hn uW he rfl).imp<|by
 rintro σ H Q ⟨ρ,l,S,hl,hs,hm⟩
 refine⟨ρ,l,S,hl,hs,hm.seq λds S1 hm ρ1 H1 q xs l1 s1 r1 sq=>?_⟩
 cases hq:f ds with
 | none=>rw[hq]at hm;exact hm.elim
 | some es=>
  rw[hq]at hm
  exact hf ρ1 H1 S1 ds q xs es Q s1 r1 sq hq λρ' H' p ys l' s' r' hp hn xA=>hm ρ' H' p ys (l1.trans l') s' r' hp hn (l1.back hs s1 xA)
def sg(ds:List D)(S:Sto):Res D:=.ok (.int ds.length) S
theorem nY:tX X.K (λxs H Q=>∃p ys,xs=[.ref p]/\(SqL X.K H p ys∨SqT X.K H p ys)/\Q (.int ys.length) H) sg:=λρ H S ds q xs d S' Q hs rr sq hm k=>by
 cases hm;exact⟨q,xs,rfl,sq,k ρ H _ .refl hs (by rw[rr.length];exact .int _)⟩
def N4:List D->Sto->Res D
 | [.int i,.int j],S=>.ok (.int (if j < i then j else i)) S
 | _,_=>.bad
def Qk:List D->Sto->Res D
 | [.int i,.int j],S=>.ok (.int (if j > i then j else i)) S
 | _,_=>.bad
theorem lO:qI X.K (λxs H Q=>∃i j,xs=[.int i,.int j]/\Q (.int (if j < i then j else i)) H) N4:=λρ H S ds xs d S' Q hs rr hm k=>by
 unfold N4 at hm;split at hm
 ·cases hm
  cases rr with
  | cons a t=>
   cases t with
   | cons b t=>
    cases t;cases a;cases b;exact⟨_,_,rfl,k ρ H _ .refl hs (.int _)⟩
 ·cases hm
theorem lP:qI X.K (λxs H Q=>∃i j,xs=[.int i,.int j]/\Q (.int (if j > i then j else i)) H) Qk:=λρ H S ds xs d S' Q hs rr hm k=>by
 unfold Qk at hm;split at hm
 ·cases hm
  cases rr with
  | cons a t=>
   cases t with
   | cons b t=>
    cases t;cases a;cases b;exact⟨_,_,rfl,k ρ H _ .refl hs (.int _)⟩
 ·cases hm
def aD(ds:List D):Option (List D):=some ds
theorem jW:tW X.K (λxs H Q=>∃p ys,xs=[.ref p]/\(SqL X.K H p ys∨SqT X.K H p ys)/\∀l,H l=none->Q (.ref l) (upd H l (.lst ys))) aD:=λρ H S ds q xs es Q hs rr sq hm k=>by
 cases hm;refine⟨q,xs,rfl,sq,λl hl=>?_⟩;obtain⟨s2,l2⟩:=Iu (ho:=.lst xs) hs hl;exact k ρ _ l xs l2 s2 (rr.mono l2) CJ (λn e=>hs.notIn hl e) hl
end
def Es(X:Cx)(scope:TY)(N':List Str)(cl:List (Str×Ab))(C:Ab)(s₁:AS)(H₁:Hp)(ex:List Ab)(pn:List (Ab×Obj)):Cx where
 prog:=X.prog
 w:=X.w
 K:=X.K
 mg:=X.mg
 base:=X.base
 A:=X.A
 N:=N'
 s₀:=s₁
 H₀:=H₁
 env:=compEnvC scope cl C X.env
 outer:=X.stack
 stack:=X.stack
 ex:=ex
 fn:=λx=>scope.names.lookup x==some .cell
 calm:=X.calm
 pn:=pn
 xe:=λ_ _=>False
theorem WG:∀(names:List (Str×Pp)) (acc:List (Str×Ab)),(∀y∈names,y.2=.free->∃c,env.cells.lookup y.1=some c)->(∀n c,acc.lookup n=some c->env.cells.lookup n=some c) ->
  ∃cl,(forIn names acc (λ(x:Str×Pp) (cs:List (Str×Ab))=>match x with | (name,kind)=>if (kind==Gc)=true then do let a <-cellOf env name;pure (IT ((name,a) :: cs))else pure (IT cs)):Sem (List (Str×Ab)))=pure cl /\
   (∀n c,cl.lookup n=some c->env.cells.lookup n=some c)/\(∀n c,acc.lookup n=some c->∃c',cl.lookup n=some c')/\∀y∈names,y.2=.free->∃c,cl.lookup y.1=some c
 | [],acc,_,ha=>⟨acc,rfl,ha,λn c h=>⟨c,h⟩,λ_ h=>nomatch h⟩
 | (n,k) :: r,acc,h,ha=>by
  rw[iX]
  by_cases hk:k=.free
  ·subst hk
   obtain⟨c,hc⟩:=h (n,.free) Af rfl
   obtain⟨cl,e,h1,h2,h3⟩:=WG r ((n,c) :: acc) (λy hy=>h y (AY _ hy)) (λm d hm=>by
    rw[Bf]at hm
    cases hq:(m==n)with
    | true=>rw[hq]at hm;cases hm;rw[eq_of_beq hq];exact hc
    | false=>rw[hq]at hm;exact ha m d hm)
   have e0:cellOf env n=pure c:=by unfold cellOf;rw[hc]
   refine⟨cl,?_,h1,λm d hm=>h2 m (if m==n then c else d) ?_,λy hy hf=>?_⟩
   ·simp only[beq_self_eq_true,if_true,e0,pure_bind]
    exact e
   ·rw[Bf]
    cases hq:(m==n)with
    | true=>rfl
    | false=>exact hm
   ·rcases Ap.mp hy with rfl | hy
    ·exact h2 n c (by rw[Bf,beq_self_eq_true])
    ·exact h3 y hy hf
  ·have hb:(k==Gc)=false:=by simpa using hk
   obtain⟨cl,e,h1,h2,h3⟩:=WG r acc (λy hy=>h y (AY _ hy)) ha;refine⟨cl,?_,h1,h2,λy hy hf=>?_⟩
   ·simp only[hb,EY,if_false,pure_bind]
    exact e
   ·rcases Ap.mp hy with rfl | hy
    ·exact(hk hf).elim
    ·exact h3 y hy hf
theorem aa(h:∀y∈scope.names,y.2=.free->∃c,env.cells.lookup y.1=some c):∃cl,closureFor scope env=pure cl /\
  (∀n c,cl.lookup n=some c->env.cells.lookup n=some c)/\∀y∈scope.names,y.2=.free->∃c,cl.lookup y.1=some c:=by
 obtain⟨cl,e,h1,_,h3⟩:=WG scope.names [] h (λn c z=>by simp at z);refine⟨cl,?_,h1,h3⟩;unfold closureFor;exact(congrArg (λz=>z >>= λcs=>pure cs) e).trans (by rw[pure_bind])
def ZX(X:Cx)(ifs:List Expr)(t:TT):Prop:=
 ∀(ζ:List (Ab×Obj)) (s:AS) (σ:St) (H:Hp) (Q:Bool->Hp->Prop),Inv X ζ σ H s->t σ H Q ->
  Aq (Ad X.prog X.w) X.A (forIn ifs true λc r=>if r=true then do let ok <-mP c X.env (Co c X.env);pure (IT ok)else pure (IT r)) (TP X ζ σ Q) X.xe s
theorem eS:ZX X [] (λ_ H Q=>Q true H):=λζ s σ H Q I h=>wpAny_tests_nil ⟨H,I,h⟩
theorem eR(h:PT X c t):ZX X [c] t:=λζ s σ H Q I q=>wpAny_tests_one (h ζ s σ H Q I q)
structure OY(X:Cx)(scope:TY)(own N':List Str):Prop where
 kind:scope.kind=.function
 names:∀y∈scope.names,y.2=.local->scope.names.lookup y.1=some .local
 free:∀y∈scope.names,y.2=.free->X.env.kindOf y.1=some .cell∨X.env.kindOf y.1=some .free
 len:N'.length=own.length+X.N.length
 up:∀i x,N'[own.length+i]?=some x->Vis (Kh scope X.env) x->(X.N[i]?=some x/\Vis X.env.scope x/\((Kh scope X.env).names.lookup x=some .cell∨(Kh scope X.env).names.lookup x=some .free)/\X.env.kindOf x≠some .local)/\(x,DK)∉scope.names/\(x,Gc)∈scope.names
 vis:∀x,((Kh scope X.env).names.lookup x=some .cell∨(Kh scope X.env).names.lookup x=some .free)->(x,Gc)∈scope.names∨(x,DK)∈scope.names
theorem GN:∀(names:List (Str×Pp)) (n:Nat) (acc:List (Str×Ab)) (x:Str) (c:Ab),(CY n names acc).lookup x=some c ->
  ((x,DK)∈names/\n<=c)∨acc.lookup x=some c
 | [],_,_,_,_,h=>.inr h
 | (y,k) :: r,n,acc,x,c,h=>by
  unfold CY at h;split at h
  ·rename_i hk
   have hk:k=.cell:=by simpa using hk
   subst hk
   rcases GN r (n+1) _ x c h with⟨h1,h2⟩ | h1
   ·exact .inl ⟨AY _ h1,Qu h2⟩
   ·rw[Bf]at h1
    cases hb:x==y with
    | true=>rw[hb]at h1;cases h1;rw[beq_iff_eq.mp hb];exact .inl ⟨Af,AL _⟩
    | false=>rw[hb]at h1;exact .inr h1
  ·rcases GN r n acc x c h with⟨h1,h2⟩ | h1
   ·exact .inl ⟨AY _ h1,h2⟩
   ·exact .inr h1
theorem Dm:∀(names:List (Str×Pp)) (n:Nat) (acc:List (Str×Ab)) (x:Str),(∃c,acc.lookup x=some c)->∃c,(CY n names acc).lookup x=some c
 | [],_,_,_,h=>h
 | (y,k) :: r,n,acc,x,h=>by
  unfold CY;split
  ·refine Dm r (n+1) _ x ?_
   rw[Bf]
   cases hb:x==y with
   | true=>exact⟨_,rfl⟩
   | false=>exact h
  ·exact Dm r n acc x h
theorem En:∀(names:List (Str×Pp)) (n:Nat) (acc:List (Str×Ab)) (x:Str),(x,DK)∈names->∃c,(CY n names acc).lookup x=some c/\n<=c
 | (y,k) :: r,n,acc,x,h=>by
  unfold CY
  by_cases hr:(x,DK)∈r
  ·split
   ·obtain⟨c,h1,h2⟩:=En r (n+1) ((y,n) :: acc) x hr
    exact⟨c,h1,Qu h2⟩
   ·exact En r n acc x hr
  ·rcases Ap.mp h with e | e
   ·cases e
    rw[qX (show(DK==DK)=true from rfl)];obtain⟨c,hc⟩:=Dm r (n+1) ((y,n) :: acc) y ⟨n,by rw[Bf,beq_self_eq_true]⟩
    rcases GN r (n+1) _ y c hc with⟨h1,_⟩ | h1
    ·exact(hr h1).elim
    ·rw[Bf,beq_self_eq_true]at h1
     cases h1;exact⟨n,hc,AL _⟩
   ·exact(hr e).elim
theorem Np(hx:(x,DK)∉names)(h:acc.lookup x=some c):(CY n names acc).lookup x=some c:=by
 obtain⟨c',h'⟩:=Dm names n acc x ⟨c,h⟩
 rcases GN names n acc x c' h' with⟨h1,_⟩ | h1
 ·exact(hx h1).elim
 ·rw[h]at h1;cases h1;exact h'
theorem Ka:∀(names:List (Str×Pp)) (n:Nat) (acc:List (Str×Ab)),(∀x c,acc.lookup x=some c->c < n)->(∀x y c,acc.lookup x=some c->acc.lookup y=some c->x=y) ->
  ∀x y c,(CY n names acc).lookup x=some c->(CY n names acc).lookup y=some c->x=y
 | [],_,_,_,h=>h
 | (z,k) :: r,n,acc,hl,h=>by
  unfold CY;split
  ·have key:∀x c,((z,n) :: acc).lookup x=some c->(x=z/\c=n)∨acc.lookup x=some c:=λx c q=>by
    rw[Bf]at q
    cases hb:x==z with
    | true=>rw[hb]at q;cases q;exact .inl ⟨beq_iff_eq.mp hb,rfl⟩
    | false=>rw[hb]at q;exact .inr q
   refine Ka r (n+1) _ (λx c q=>?_) λx y c q1 q2=>?_
   ·rcases key x c q with⟨_,rfl⟩ | e
    ·exact Dj _
    ·exact Qt (hl x c e)
   ·rcases key x c q1 with⟨e,e1⟩ | e <;> rcases key y c q2 with⟨e',e1'⟩ | e'
    ·rw[e,e']
    ·subst e1;exact zX (hl _ _ e') (EN _)
    ·subst e1';exact zX (hl _ _ e) (EN _)
    ·exact h x y c e e'
  ·exact Ka r n acc hl h
theorem KZ:∀(names:List (Str×Pp)) (h:DT) (acc:List (Str×Ab)) (x:Str) (c:Ab),(CY h.objs.size names acc).lookup x=some c->acc.lookup x=some c∨((FJ h names).IsCell c none/\h.objs.size<=c)
 | [],_,_,_,_,q=>.inl q
 | (y,k) :: r,h,acc,x,c,q=>by
  unfold CY at q;unfold FJ;split at q
  ·rename_i hk
   rw[qX hk];have:=KZ r (h.push { cls:=.type "cell",data:=.cell none }) ((y,h.objs.size) :: acc) x c (by rw[E4];exact q)
   rcases this with e | ⟨e,l⟩
   ·rw[Bf]at e
    cases hb:x==y with
    | true=>
     rw[hb]at e;cases e;exact .inr ⟨⟨_,Wc _ _ _ _ (Ao _ rfl),rfl⟩,AL _⟩
    | false=>rw[hb]at e;exact .inl e
   ·exact .inr ⟨e,by rw[E4]at l;exact Qu l⟩
  ·rename_i hk
   rw[qY hk];exact KZ r h acc x c q
theorem YM
  (h:Q (newEnv scope s.heap.objs.size globals (CY (s.heap.push { cls:=.type "dict",data:=.dict #[] }).objs.size scope.names cl) qual none .none (some outer) YG) { s with heap:=FJ (s.heap.push { cls:=.type "dict",data:=.dict #[] }) scope.names }) :
  Aq M A (YE scope globals cl [] qual none .none (some outer)) Q E s:=by
 simp only[YE,Od,if_true];refine AC (wpAny_alloc ?_);refine AC (wpAny_layCells _ (λname kind cells=>by cases hkc:kind==DK <;> simp[hkc]) _ _ _ _ ?_);rw[UG];exact AC (AO (AO h))
section
theorem ZN(Sc:OY X scope own N')(I:Inv X ζ σ H2 s2)(hf:∀b∈fp,OX X ζ H2 b)(vB:∀b∈fp,b < s2.heap.objs.size)
  (c1:∀n c,cl.lookup n=some c->X.env.cells.lookup n=some c) (c2:∀y∈scope.names,y.2=.free->∃c,cl.lookup y.1=some c)
  (vk:s2.heap.objs.size<=n) (Ζ:∀x c,(CY n scope.names cl).lookup x=some c->cl.lookup x=some c∨(s.heap.IsCell c none/\n<=c)) (zE:∀c,n<=c->H c=none)
  (hC:s2.heap.objs.size<=C) (hn:s.heap.Ns C m) (wB:s.os=s2.os) (hg:Km s.gens)
  (u:Un (frs X.stack) fp H2 H s2.heap s.heap) (hok:HOk X.prog X.w H s.heap) (xa:H C=none) :
  Inv (Es X scope N' (CY n scope.names cl) C s2 H2 fp (X.pn++ζ)) [] (Bw own.length none++σ) H s:=by
 have cellK:∀x c v,cl.lookup x=some c->s2.heap.IsCell c v->s.heap.IsCell c v:=by
  rintro x c v e ⟨o,ho,hd⟩
  obtain⟨sl,q⟩:=u.any ho (I.freeC x c (c1 x c e)) λz=>(hf c z).2.2.2.2.1 x c (c1 x c e) rfl
  exact⟨_,q,hd⟩
 have clt:∀x c,cl.lookup x=some c->c < n:=λx c e=>by
  obtain⟨v,z⟩:=I.cell x c (c1 x c e);exact AV z.lt vk
 have ok':(Es X scope N' (CY n scope.names cl) C s2 H2 fp (X.pn++ζ)).Ok:=by
  refine⟨I.ok.mod,Sc.kind,I.ok.glob,I.ok.blt,hC,Ka _ _ _ clt λx y c h1 h2=>I.ok.inj x y c (c1 x c h1) (c1 y c h2),λx hx=>?_,λx c z q=>?_,I.ok.hd,I.ok.frames,.inl rfl,λb hb=>?_,I.bs,Aw I.ok.bsz I.sz,λb o e hb=>?_,λb hb uf=>?_,I.stack,I.stkFree⟩
  ·rcases Sc.vis x hx with h | h
   ·exact Dm _ _ _ _ (c2 _ h rfl)
   ·obtain⟨c,hc,_⟩:=En scope.names n cl x h
    exact⟨c,hc⟩
  ·have z:(scope.names.lookup x==some .cell)=true:=z
   obtain⟨c',uN,hl⟩:=En scope.names n cl x (D7 (beq_iff_eq.mp z));have q:(CY n scope.names cl).lookup x=some c:=q;rw[uN]at q;cases q;exact Aw vk hl
  ·refine⟨BN (AV (vB b hb) hC),λx c e=>?_⟩
   rcases Ζ x c e with e | ⟨_,e⟩
   ·exact(hf b hb).2.2.2.2.1 x c (c1 x c e)
   ·exact FL (AV (vB b hb) (Aw vk e))
  ·obtain⟨_,_,_,z,_⟩:=hf b hb
   rcases z with z | z
   ·exact I.ok.noex b o e z
   ·exact zX (AV (Am (I.ok.bs b o e).1) z) (EN _)
  ·obtain⟨_,z1,z2,_⟩:=hf b hb
   rcases Ap.mp (I.stkSub b uf)with e | e
   ·exact z1 e
   ·exact z2 e
 refine⟨ok',wB,hg,u,⟨m,hn,λi x v e1 e2 e3=>?_⟩,λx c e=>?_,xa,λx c e=>?_,λp hp=>?_,hok,?_⟩
 ·have hi:own.length<=i:=by
   apply Ro
   intro uw;rw[Av (by simpa using uw),Dz,qX uw]at e2;cases e2
  obtain⟨j,rfl⟩:∃j,i=own.length+j:=⟨i - own.length,by lia⟩
  rw[Bn (by simp)]at e2
  have e2':σ[j]?=some (some v):=by simpa using e2
  obtain⟨⟨n1,n2,n3,n4⟩,n5,n6⟩:=Sc.up j x e1 e3;obtain⟨m0,yD,hl⟩:=I.loc;obtain⟨w',r,lk⟩:=hl j x v n1 e2' n2;refine⟨w',r,.inr ⟨n3,?_⟩⟩
  rcases lk with⟨k,_⟩ | ⟨_,c,hc,uv⟩
  ·exact(n4 k).elim
  ·obtain⟨c',uN⟩:=c2 _ n6 rfl
   have e:=c1 x c' uN;rw[hc]at e;cases e;exact⟨c,Np n5 uN,cellK x c _ uN uv⟩
 ·rcases Ζ x c e with e | ⟨e,_⟩
  ·obtain⟨v,z⟩:=I.cell x c (c1 x c e)
   exact⟨v,cellK x c v e z⟩
  ·exact⟨none,e⟩
 ·rcases Ζ x c e with e | ⟨_,e⟩
  ·obtain⟨v,o,ho,hd⟩:=I.cell x c (c1 x c e)
   exact u.free c o ho (I.freeC x c (c1 x c e)) λz=>(hf c z).2.2.2.2.1 x c (c1 x c e) rfl
  ·exact zE c e
 ·have hp':p∈X.pn++ζ:=by
   have hp:p∈(X.pn++ζ)++[]:=hp;rwa [CB]at hp
  obtain⟨e,n,ne,nf,d⟩:=I.pin p hp'
  have nfs:p.1∉frs X.stack:=λz=>(Ap.mp (I.stkSub _ z)).elim ne nf
  have nfp:p.1∉fp:=λz=>(hf _ z).2.2.2.2.2 p hp' rfl
  exact⟨u.keep p.1 p.2 e n nfs nfp,u.free p.1 p.2 e n nfp,BN (AV (Am e) hC),nfs,d⟩
 ·show(Bw own.length none++σ).length=N'.length
  rw[AX,NT,I.len,Sc.len]
def dk(k:Nat)(wi:TI)(g:TG)(tc:TT)(te:TE):TE:=λσ H Q=>wi σ H λJ H1=>∀p,H1 p=none->∃W:Nat->Nat->St->Hp->List V->Prop,(∃m,W 0 m (Bw k none++σ) (upd H1 p (.lst [])) []) /\
 ∀i m σ' H' xs,W i m σ' H' xs->H' p=some (.lst xs)/\((J.stop i H'/\Q (.ref p) H')∨(J.go i H'/\xs.length < sizeLine/\∀x vV,J.yld i H' x vV->g x σ' vV λσ2 H2=>tc σ2 H2 λb H3=>
  if b=true then te σ2 H3 λy H4=>H4 p=some (.lst xs)/\∃m',m' < m/\W (i+1) m' σ2 (upd H4 p (.lst (xs++[y]))) (xs++[y])else ∃m',m' < m/\W (i+1) m' σ2 H3 xs))
theorem cS{X':Cx}{elt ϖ iter:Expr}{ifs:List Expr}{pos:Pos}{J:It}{it p:Ab}{tn:Nat->DT->Prop}{g:TG}{tc:TT}{te:TE}{R:Result->AS->Prop}{Q:Hp->Prop}
  (hc:X'.calm=true) (hx:X'.xe=λ_ _=>False) (T:UB X'.prog X'.w X'.K ϖ J fp it tn) (hg:PG X' ϖ g) (vW:ZX X' ifs tc) (he:PE X' elt te)
  (W:Nat->Nat->St->Hp->List V->Prop) (turn:∀i m σ' H' xs,W i m σ' H' xs->H' p=some (.lst xs)/\((J.stop i H'/\Q H')∨(J.go i H'/\xs.length < sizeLine/\∀x vV,J.yld i H' x vV->g x σ' vV λσ2 H2=>tc σ2 H2 λb H3=>
   if b=true then te σ2 H3 λy H4=>H4 p=some (.lst xs)/\∃m',m' < m/\W (i+1) m' σ2 (upd H4 p (.lst (xs++[y]))) (xs++[y])else ∃m',m' < m/\W (i+1) m' σ2 H3 xs)))
  (fin:∀σ' H' s',Inv X' [] σ' H' s'->Q H'->R (.ok .next) s')
  {m0:Nat} {σ0:St} {H0:Hp} {s0:AS} (I0:Inv X' [] σ0 H0 s0) (st0:tn 0 s0.heap) (f0:∀b∈fp,OX X' [] H0 b) (w0:W 0 m0 σ0 H0 []) :
  OA (Ad X'.prog X'.w) X'.A (.compLoop (.ListComp elt [⟨ϖ,iter,ifs,0⟩] scope pos) 0 (.ref it) (.ref p) X'.env) R s0:=by
 have vq:∀{H':Hp},(∀b∈fp,H' b=none)->∀b∈fp,OX X' [] H' b:=λhn b hb=>⟨hn b hb,(f0 b hb).2⟩
 refine codeAny_loop rfl (λn s'=>∃i σ' H' xs,Inv X' [] σ' H' s'/\tn i s'.heap/\(∀b∈fp,H' b=none)/\W i n σ' H' xs) (λn s1 hI=>?_) m0 ⟨0,σ0,H0,[],I0,st0,λb hb=>(f0 b hb).1,w0⟩;obtain⟨i,σ1,H1,xs,I1,uo,fr1,w1⟩:=hI;show Aq _ X'.A ((compTurn (.ListComp elt [⟨ϖ,iter,ifs,0⟩] scope pos) 0 (.ref it) (.ref p) X'.env).onRaise (λx=>do noteFrame x X'.env;theTreesLotGoes x)) _ _ s1;refine wpAny_noted ?_;rw[compTurn_list]
 have up:∀{α:Type} {t:Sem α} {P:α->AS->Prop} {E:AJ->AS->Prop} {s:AS},Aq (Ad X'.prog X'.w) X'.A t P X'.xe s->Aq (Ad X'.prog X'.w) X'.A t P E s:=λh=>Hr h (λ_ _ z=>z) λ_ _ z=>by rw[hx]at z;exact z.elim
 obtain⟨hp,yE⟩:=turn i n σ1 H1 xs w1;refine AC (wpAny_standAt (AC ?_))
 rcases yE with⟨stop,q⟩ | ⟨go,hz,step⟩
 ·refine up (thn (T.done X' rfl rfl rfl hc i [] s1 σ1 H1 X'.xe I1 (vq fr1) uo stop) λr s4 ⟨hr,I4⟩=>?_)
  subst hr;exact AO (fin σ1 H1 s4 I4 q)
 ·refine up (thn (T.item X' rfl rfl rfl hc i [] s1 σ1 H1 X'.xe I1 (vq fr1) uo go) λr s4 ⟨u,hr,h4⟩=>?_)
  subst hr;refine AC (up (thn h4 λ_ s5 ⟨x,H5,I5,r5,y5,wg,fr5⟩=>?_));have M':=I5.pinned (vq fr5) (T.obj _ _ wg);refine AC (up (thn (hg _ s5 σ1 H5 x u _ M' r5 (step x H5 y5)) λ_ s6 ⟨σ6,H6,I6,q6⟩=>?_))
  have qR:∀{s7:AS} {σ7:St} {H7:Hp} {ys:List V},Inv X' ([]++SQ fp s5.heap) σ7 H7 s7->(∃m',m' < n/\W (i+1) m' σ7 H7 ys)->∃m,m < n/\∃i σ' H' xs,Inv X' [] σ' H' s7/\tn i s7.heap/\(∀b∈fp,H' b=none)/\W i m σ' H' xs:=λ{s7 σ7 H7 ys} I7 ⟨m',hm,w7⟩=>by
   refine⟨m',hm,i+1,σ7,H7,ys,I7.unpinned,T.keep _ _ _ wg λb hb o e=>(I7.pin (b,o) (BY _ (BY _ (Li hb e)))).1,λb hb=>?_,w7⟩;obtain⟨o,e,d⟩:=T.obj _ _ wg b hb;exact(I7.pin (b,o) (BY _ (BY _ (Li hb e)))).2.1
  refine AC (up (thn (vW _ s6 σ6 H6 _ I6 q6) λok s7 ⟨H7,I7,q7⟩=>?_))
  cases ok with
  | false=>
   rw[qY AK]at q7;exact AO ⟨rfl,qR I7 q7⟩
  | true=>
   rw[qX rfl]at q7;refine AC (AC (up (thn (he _ s7 σ6 H7 _ I7 q7) λyv s8 ⟨y,H8,I8,r8,hp8,q8⟩=>?_)));refine AC (up (thn (UX (X:=X') _ s8 σ6 H8 (.ref p) [y] (.ref p) [yv] (λv H9=>v=.non/\H9=upd H8 p (.lst (xs++[y]))) I8 rfl (.cons r8 .nil) ⟨p,xs,y,rfl,rfl,hp8,hz,rfl,rfl⟩) λv9 s9 ⟨v,H9,I9,r9,e9,e10⟩=>?_));subst e10;exact AO (AO ⟨rfl,qR I9 q8⟩)
end
section
theorem Ul(I2:Inv X ζ σ H2 s2)(J:Inv (Es X scope N' cl C s2 H2 fp (X.pn++ζ)) [] σ' H' s')(hC:s2.heap.objs.size<=C)(hf:∀b∈fp,OX X ζ H2 b)
  (sb:FI C s'.heap h'):Inv X ζ σ H' { s' with heap:=h' }:=by
 have ne:∀b o,s2.heap.get? b=some o->b≠C:=λb o e=>BN (AV (Am e) hC)
 have jb:Un (frs X.stack) fp H2 H' s2.heap s'.heap:=J.base
 have u:Un (frs X.stack) fp H2 H' s2.heap h':=by
  refine⟨λb o e n hb hx=>(sb.2 b (ne b o e)).trans (jb.keep b o e n hb hx),λb o e n hb hx=>?_,jb.free,λb o e hx=>?_,jb.tups,jb.frzs,jb.tbls⟩
  ·obtain⟨sl,q⟩:=jb.slot b o e n hb hx
   exact⟨sl,(sb.2 b (ne b o e)).trans q⟩
  ·obtain⟨o',q⟩:=jb.there b o e hx
   exact⟨o',(sb.2 b (ne b o e)).trans q⟩
 have xa:H' C=none:=J.free
 have hok:HOk X.prog X.w H' h':=λa o e=>(J.hok a o e).stay (λb u hb q=>(sb.2 b λz=>by
  subst z
  rcases hb with z | z
  ·subst z;rw[xa]at e;cases e
  ·rw[xa]at z;cases z).trans q) (λ_ q=>q) λ_ _ q=>q
 exact I2.call' (s':={ s' with heap:=h' }) (ch:=fp) J.os u hok J.bare λb hb=>by
  obtain⟨_,z1,z2,z3,z4,z5⟩:=hf b hb;exact⟨z3,z1,z4,z5⟩
theorem S8{σ:St}{E:AJ->AS->Prop}{Qf:Ab->Hp->Prop}{RR:AJ->Ab->Result->AS->Prop}{it:Ab}{J:It}{tn:Nat->DT->Prop}(hc:X.calm=true)(Sc:OY X scope own N')
  (hg:∀cl C s₁ H₁ ex pn,PG (Es X scope N' cl C s₁ H₁ ex pn) ϖ g) (vW:∀cl C s₁ H₁ ex pn,ZX (Es X scope N' cl C s₁ H₁ ex pn) ifs tc) (he:∀cl C s₁ H₁ ex pn,PE (Es X scope N' cl C s₁ H₁ ex pn) elt te)
  (c1:∀n c,cl.lookup n=some c->X.env.cells.lookup n=some c) (c2:∀y∈scope.names,y.2=.free->∃c,cl.lookup y.1=some c)
  (I2:Inv X ζ σ H2 s2) (T:UB X.prog X.w X.K ϖ J fp it tn) (j':tn 0 s2.heap) (f2:∀b∈fp,OX X ζ H2 b)
  (q2:∀p,H2 p=none->∃W:Nat->Nat->St->Hp->List V->Prop,(∃m,W 0 m (Bw own.length none++σ) (upd H2 p (.lst [])) []) /\
   ∀i m σ' H' xs,W i m σ' H' xs->H' p=some (.lst xs)/\((J.stop i H'/\Qf p H')∨(J.go i H'/\xs.length < sizeLine/\∀x vV,J.yld i H' x vV->g x σ' vV λσ2 H2=>tc σ2 H2 λb H3=>
    if b=true then te σ2 H3 λy H4=>H4 p=some (.lst xs)/\∃m',m' < m/\W (i+1) m' σ2 (upd H4 p (.lst (xs++[y]))) (xs++[y])else ∃m',m' < m/\W (i+1) m' σ2 H3 xs)))
  (hRR:∀D C cl σ' H' s',s2.heap.objs.size<=C->Inv (Es X scope N' cl C s2 H2 fp (X.pn++ζ)) [] σ' H' s'->Qf D H'->RR (.ref D) C (.ok .next) s') :
  Aq (Ad X.prog X.w) X.A (newList []) (λacc s₃=>Aq (Ad X.prog X.w) X.A (YE scope X.env.globals cl [] X.env.qual none .none (some X.env)) (λyF s₄=>
   OA (Ad X.prog X.w) X.A (.compStart (.ListComp elt [⟨ϖ,iter,ifs,0⟩] scope pos) 0 (.ref it) acc { yF with scope:=Kh scope X.env }) (RR acc yF.locals) s₄) E s₃) E s2:=by
 have vB:∀b∈fp,b < s2.heap.objs.size:=λb hb=>by
  obtain⟨o,e,_⟩:=T.obj _ _ j' b hb;exact Am e
 refine DG (YM ?_);dsimp only;generalize hH3:s2.heap.push { cls:=.type "list",dict:=none,data:=.seq ([]:List AJ).toArray }=H3;generalize hH4:H3.push { cls:=.type "dict",data:=.dict #[] }=H4
 have hC:H3.objs.size=s2.heap.objs.size+1:=by rw[<-hH3,E4]
 have hC4:H4.objs.size=H3.objs.size+1:=by rw[<-hH4,E4]
 have hDC:s2.heap.objs.size≠H3.objs.size:=by rw[hC];exact BN (Dj _)
 have wF:s2.heap.objs.size<=H3.objs.size:=by rw[hC];exact OC _
 have yG:s2.heap.objs.size<=H4.objs.size:=by rw[hC4];exact Nat.le_succ_of_le wF
 have yH:∀b o,H3.get? b=some o->(FJ H4 scope.names).get? b=some o:=λb o e=>Wc _ _ _ _ (hH4▸AT _ e)
 have old:∀b o,s2.heap.get? b=some o->(FJ H4 scope.names).get? b=some o:=λb o e=>yH b o (hH3▸AT _ e)
 have Η:(FJ H4 scope.names).get? s2.heap.objs.size=some { cls:=.type "list",dict:=none,data:=.seq ([]:List AJ).toArray }:=yH _ _ (hH3▸Ao _ rfl)
 have Θ:(FJ H4 scope.names).Ns H3.objs.size λ_=>none:=by
  have:=(DT.Ns.new H3 (.type "dict")).keeps (Wc scope.names (H3.push { cls:=.type "dict",data:=.dict #[] }));rw[hH4]at this;exact this
 have hD:H2 s2.heap.objs.size=none:=I2.hok.fresh (AL _);have u:Un (frs X.stack) fp H2 (upd H2 s2.heap.objs.size (.lst [])) s2.heap (FJ H4 scope.names):=Un.laid old (AL _) hD;have hok:HOk X.prog X.w (upd H2 s2.heap.objs.size (.lst [])) (FJ H4 scope.names):=I2.hok.laid old (AL _) ⟨Dv _,[],0,.nil,Η⟩
 have zE:∀c,s2.heap.objs.size < c->upd H2 s2.heap.objs.size (.lst []) c=none:=λc h=>by rw[Bo (FL h)];exact I2.hok.fresh (Ma h)
 have xa:upd H2 s2.heap.objs.size (.lst []) H3.objs.size=none:=zE _ (by rw[hC];exact Dj _)
 have xc:∀x c,(CY H4.objs.size scope.names cl).lookup x=some c->cl.lookup x=some c∨((FJ H4 scope.names).IsCell c none/\H4.objs.size<=c):=λx c e=>KZ scope.names H4 cl x c e
 obtain⟨W,⟨m0,w0⟩,turn⟩:=q2 s2.heap.objs.size hD
 have loop:∀s₃:AS,s₃={ s2 with heap:=FJ H4 scope.names } ->
   OA (Ad X.prog X.w) X.A (.compLoop (.ListComp elt [⟨ϖ,iter,ifs,0⟩] scope pos) 0 (.ref it) (.ref s2.heap.objs.size) (compEnvC scope (CY H4.objs.size scope.names cl) H3.objs.size X.env))
    (RR (.ref s2.heap.objs.size) H3.objs.size) s₃:=by
  rintro s₃ rfl
  have J0:Inv (Es X scope N' (CY H4.objs.size scope.names cl) H3.objs.size s2 H2 fp (X.pn++ζ)) [] (Bw own.length none++σ) (upd H2 s2.heap.objs.size (.lst [])) { s2 with heap:=FJ H4 scope.names }:=
   ZN (s:={ s2 with heap:=FJ H4 scope.names }) Sc I2 f2 vB c1 c2 yG xc (λc h=>zE c (by lia)) wF Θ rfl I2.bare u hok xa
  refine cS (X':=Es X scope N' (CY H4.objs.size scope.names cl) H3.objs.size s2 H2 fp (X.pn++ζ)) (fp:=fp) (Q:=Qf s2.heap.objs.size) hc rfl T (hg _ _ _ _ _ _) (vW _ _ _ _ _ _) (he _ _ _ _ _ _) W turn (λσ' H' s' J q=>hRR _ _ _ σ' H' s' wF J q) J0 (T.keep _ _ _ j' λb _ o e=>old b o e) (λb hb=>?_) w0;obtain⟨z0,z1,z2,z3,z4,z5⟩:=f2 b hb;refine⟨by rw[Bo (BN (vB b hb))];exact z0,BN (AV (vB b hb) wF),λz=>?_,.inl hb,λx c e=>?_,λp hp=>?_⟩
  ·exact(Ap.mp (I2.stkSub _ z)).elim z1 z2
  ·rcases xc x c e with e | ⟨_,e⟩
   ·exact z4 x c (c1 x c e)
   ·exact FL (AV (vB b hb) (Aw yG e))
  ·have hp:p∈(X.pn++ζ)++[]:=hp
   rw[CB]at hp;exact z5 p hp
 exact codeAny_compStart_list (loop _ rfl) (T.self X.A 0 _ _ _ (T.keep _ _ _ j' λb _ o e=>old b o e) (loop _ rfl))
theorem j5(hc:X.calm=true)(Sc:OY X scope own N')(hi:PI X ϖ iter wi)
  (hg:∀cl C s₁ H₁ ex pn,PG (Es X scope N' cl C s₁ H₁ ex pn) ϖ g) (vW:∀cl C s₁ H₁ ex pn,ZX (Es X scope N' cl C s₁ H₁ ex pn) ifs tc) (he:∀cl C s₁ H₁ ex pn,PE (Es X scope N' cl C s₁ H₁ ex pn) elt te)
  (hs:∀x,Gb iter X.env x=pure x:=by intro _;rfl):PE X (.ListComp elt [⟨ϖ,iter,ifs,0⟩] scope pos) (dk own.length wi g tc te):=by
 intro ζ s σ H Q I h;rw[eval_ListComp];obtain⟨cl,vX,c1,c2⟩:=aa (scope:=scope) (env:=X.env) (λy hy hf=>I.ok.has y.1 (Sc.free y hy hf));refine ao (use:=none) rfl hs vX Sc.kind Sc.names (thn (hi ζ s σ H _ I h) λv s1 h1=>thn h1 λzz s2 h2=>?_);obtain⟨it,fp,tn,J,H2,rfl,I2,T,j',f2,q2⟩:=h2
 refine S8 (Qf:=λp H'=>Q (.ref p) H') (RR:=λacc C=>compPost (Ad X.prog X.w) X.A X.xe none (EP X ζ σ Q) acc C) hc Sc hg vW he c1 c2 I2 T j' f2 q2 λD C cl' σ' H' s' hC J q=>?_
 obtain⟨m,hn,_⟩:=J.loc;exact⟨m,hn,λh' sb=>⟨.ref D,H',Ul I2 J hC f2 sb,rfl,q⟩⟩
theorem jo{i:Nat}{y:Str}{py wG:Pos}(hc:X.calm=true)(Ι:G6 (.ListComp elt [⟨ϖ,iter,ifs,0⟩] scope pos) (some (.Name y py)) wG.line X.env=pure true)
  (hN:X.N.Nodup) (hy:X.N[i]?=some y) (xB:Loc X.env.scope y) (Sc:OY X scope own N') (hi:PI X ϖ iter wi)
  (hg:∀cl C s₁ H₁ ex pn,PG (Es X scope N' cl C s₁ H₁ ex pn) ϖ g) (vW:∀cl C s₁ H₁ ex pn,ZX (Es X scope N' cl C s₁ H₁ ex pn) ifs tc) (he:∀cl C s₁ H₁ ex pn,PE (Es X scope N' cl C s₁ H₁ ex pn) elt te)
  (hs:∀x,Gb iter X.env x=pure x:=by intro _;rfl) (hf:X.fn y=true∨X.env.scope.names.lookup y=some .local:=by first | exact .inl rfl | exact .inr rfl | assumption) :
  PS X (.Assign [.Name y py] (.ListComp elt [⟨ϖ,iter,ifs,0⟩] scope pos) wG) (nQ (dk own.length wi g tc te) (aQ i)):=by
 intro ζ s σ H D I h;rw[exec_Assign_Name_used _ _ _ _ Ι];refine AC (wpAny_standAt (AC ?_));show Aq _ X.A (do let _ <-comprehension (.ListComp elt [⟨ϖ,iter,ifs,0⟩] scope pos) scope X.env _ (newList []) false (Co iter X.env) (some (Rj (.Name y py) X.env))) _ _ s;obtain⟨cl,vX,c1,c2⟩:=aa (scope:=scope) (env:=X.env) (λy hy hf=>I.ok.has y.1 (Sc.free y hy hf))
 refine AC (Hr (ao (use:=some (Rj (.Name y py) X.env)) (Q:=λ_ s'=>SP X ζ D .next s') rfl hs vX Sc.kind Sc.names
  (thn (hi ζ s σ H _ I h) λv s1 h1=>thn h1 λzz s2 h2=>?_)) (λ_ s' hq=>AO (AO hq)) λ_ _ e=>e)
 obtain⟨it,fp,tn,J,H2,rfl,I2,T,j',f2,q2⟩:=h2
 refine S8 (Qf:=λp H'=>D.nx (σ.set i (some (.ref p))) H') (RR:=λacc C=>compPost (Ad X.prog X.w) X.A X.xe (some (Rj (.Name y py) X.env)) (λ_ s'=>SP X ζ D .next s') acc C) hc Sc hg vW he c1 c2 I2 T j' f2 q2 λA C cl' σ' H' s' hC J q=>?_
 obtain⟨m,hn,_⟩:=J.loc;have I3:Inv X ζ σ H' s':=Ul I2 J hC f2 (uB ..);have xa:H' C=none:=J.free
 have uv:∀x c,X.env.cells.lookup x=some c->c≠C:=λx c e z=>by
  obtain⟨v,q⟩:=I2.cell x c e;exact zX (AV q.lt (by rw[z];exact hC)) (EN _)
 have xf:C≠X.env.locals:=FL (AV I2.lt hC);show Aq _ X.A (Rj (.Name y py) X.env (.ref A)) _ _ s';refine qK (UO (v:=.ref A) I3 hN hy xB rfl (λs4 I4 ⟨a,sb,ha⟩=>?_) hf)
 have haC:C≠a:=by
  rcases ha with e | e
  ·rw[e];exact xf
  ·exact Ci (uv _ _ e)
 refine⟨m,hn.sameBut sb haC,λh' sb'=>⟨_,H',?_,q⟩⟩
 refine I4.turned (t':=s4.toks) (it:=C) (λb o hb e=>(sb'.2 b hb).trans e) xa xf (.inr (Aw I2.sz hC)) uv λp hp z=>?_
 exact zX (AV (Am (I2.pin p hp).1) (by rw[z];exact hC)) (EN _)
end
def G5(v:QX)(g:MG)(c:MT)(m:ME):Nat->Nat->Lo->Sto->List D->Res (List D)
 | k,i,e,S,acc=>match v S with
  | none=>.bad
  | some ds=>match ds[i]? with
   | none=>.ok acc S
   | some d=>match k with
    | 0=>.bad
    | k+1=>if acc.length < sizeLine then(okR (g d e S)).bind λe1 S1=>(okR (c e1 S1)).bind λb S2=>if b=true then(okR (m e1 S2)).bind λy S3=>G5 v g c m k (i+1) e1 S3 (acc++[y])else G5 v g c m k (i+1) e1 S2 acc else .bad
def Dt(n:Nat)(mi:MI)(g:MG)(c:MT)(m:ME):ML:=λe S=>(mi e S).bind λv S1=>G5 v g c m (EQ v S1) 0 (Bw n none++e) S1 []
def Gr:MT:=λ_ S=>.ok true S
section
abbrev lT(X:Cx)(E:EW)(ifs:List Expr)(c:MT):Prop:=ZX X ifs (gT X.K E c)
theorem EL:lT X E [] Gr:=by
 rintro ζ s σ H Q I ⟨ρ,l,S,hl,hs,hm⟩
 exact eS ζ s σ H Q I (hm ρ H .refl hs)
theorem Gp(h:GT X E e c):lT X E [e] c:=eR h
theorem Gs.grow{K}{ρ}{H}{e}{σ}(n:Nat)(h:Gs K ρ H e σ):Gs K ρ H (Bw n none++e) (Bw n none++σ):=by
 refine⟨by simp[h.len],λi d q=>?_⟩
 by_cases hi:i < n
 ·rw[Av (by simpa using hi),Dz,qX hi]at q
  cases q
 ·rw[Bn (by simpa using hi)]at q ⊢
  simp only[NT]at q ⊢;exact h.at' _ d q
theorem Cg.ok_of{α:Type}{K:AG}{E:EH}{ρ:List Ab}{H:Hp}{r:Res α}{k:α->Sto->Prop}{a:α}{S:Sto}(e:r=.ok a S)(h:k a S):Cg K E ρ H r k:=by
 subst e;exact h
theorem SY{α β:Type}{r:Res α}{F:α->Sto->Res β}{b:β}{S:Sto}(h:(okR r).bind F=.ok b S):∃a S1,r=.ok a S1/\F a S1=.ok b S:=by
 cases r with
 | ok a S1=>exact⟨a,S1,rfl,h⟩
 | err c S1=>cases h
 | bad=>cases h
theorem Xw:∀(k i:Nat) (e:Lo) (S:Sto) (acc:List D),G5 v g c m k i e S acc≠.err er S':=by
 intro k
 induction k with
 | zero=>
  intro i e S acc h;unfold G5 at h;split at h
  ·cases h
  ·split at h <;> cases h
 | succ k ih=>
  intro i e S acc h;unfold G5 at h;split at h
  ·cases h
  ·split at h
   ·cases h
   ·dsimp only at h
    split at h
    ·cases h1:g _ e S with
     | ok e1 S1=>
      rw[h1]at h;dsimp only[okR,Res.bind]at h
      cases h2:c e1 S1 with
      | ok b S2=>
       rw[h2]at h;dsimp only[okR,Res.bind]at h
       cases b with
       | true=>
        rw[qX rfl]at h
        cases h3:m e1 S2 with
        | ok y S3=>rw[h3]at h;exact ih _ _ _ _ h
        | err _ _=>rw[h3]at h;cases h
        | bad=>rw[h3]at h;cases h
       | false=>
        rw[qY AK]at h;exact ih _ _ _ _ h
      | err _ _=>rw[h2]at h;cases h
      | bad=>rw[h2]at h;cases h
     | err _ _=>rw[h1]at h;cases h
     | bad=>rw[h1]at h;cases h
    ·cases h
theorem W8{K:AG}{n:Nat}{σ:St}{H:Hp}{Q:VK}(h:gL K E (Dt n mi g c m) σ H Q):dk n (gI K E mi) (gG K g) (gT K noE c) (gE K noE m) σ H Q:=by
 obtain⟨ρ,l,S,hl,hs,hm⟩:=h;refine⟨ρ,l,S,hl,hs,hm.seq λv S1 hm ρ1 H1 J l1 s1 vo p hp=>?_⟩
 obtain⟨ds,S',hm,k⟩:∃ds S',G5 v g c m (EQ v S1) 0 (Bw n none++l) S1 []=.ok ds S'/\∀ρ' H' p xs,Le K ρ H ρ' H'->CW K ρ' S' H'->A0 K ρ' H' ds xs->H' p=some (.lst xs)->(∀n:Nat,ρ'[n]?≠some p)->H p=none->Q (.ref p) H':=by
  cases hc:G5 v g c m (EQ v S1) 0 (Bw n none++l) S1 []with
  | ok ds S'=>rw[hc]at hm;exact⟨ds,S',rfl,hm⟩
  | err c S'=>exact(Xw _ _ _ _ _ hc).elim
  | bad=>rw[hc]at hm;exact hm.elim
 obtain⟨s1',yI⟩:=Iu (ho:=.lst []) s1 hp;have xA:H p=none:=l1.back hs s1 hp
 refine⟨λi j σ2 H2 xs=>∃ρ2 e2 S2 acc,Le K ρ1 H1 ρ2 H2/\Gs K ρ2 H2 e2 σ2/\CW K ρ2 S2 H2/\A0 K ρ2 H2 acc xs/\H2 p=some (.lst xs)/\(∀q:Nat,ρ2[q]?≠some p)/\G5 v g c m j i e2 S2 acc=.ok ds S',
  ⟨EQ v S1,ρ1,_,S1,[],yI,(hl.mono (l1.trans yI)).grow n,s1',.nil,CJ,λq e=>s1.notIn hp e,hm⟩,?_⟩
 rintro i j σ2 H2 xs ⟨ρ2,e2,S2,acc,l2,r2,s2,ra,wZ,vd,u7⟩;refine⟨wZ,?_⟩;unfold G5 at u7
 cases hv:v S2 with
 | none=>rw[hv]at u7;cases u7
 | some vs=>
  rw[hv]at u7;dsimp only at u7;obtain⟨v1,v2⟩:=vo ρ2 H2 S2 vs i l2 s2 hv
  cases hd:vs[i]? with
  | none=>
   rw[hd]at u7;cases u7;exact .inl ⟨v1 hd,k ρ2 H2 p xs (l1.trans l2) s2 ra wZ vd xA⟩
  | some d=>
   rw[hd]at u7;dsimp only at u7;obtain⟨go,yl⟩:=v2 d hd
   cases j with
   | zero=>cases u7
   | succ j=>
    dsimp only at u7;split at u7
    ·rename_i hz
     obtain⟨e3,S3,h3,u7⟩:=SY u7;obtain⟨b,S4,h4,u7⟩:=SY u7;refine .inr ⟨go,by rw[<-ra.length];exact hz,λx H' y=>?_⟩;obtain⟨ρ3,l3,s3,rd⟩:=yl x H' y;obtain⟨hp3,Κ⟩:=l3.oth p _ wZ vd;refine⟨ρ3,e2,S2,d,rd,r2.mono l3,s3,Cg.ok_of h3 λρ4 H4 σ4 l4 s4 r4=>?_⟩;obtain⟨hp4,hn4⟩:=l4.oth p _ hp3 Κ;refine⟨ρ4,e3,S3,r4,s4,Cg.ok_of h4 λρ5 H5 l5 s5=>?_⟩;obtain⟨hp5,hn5⟩:=l5.oth p _ hp4 hn4
     cases b with
     | false=>
      rw[qY AK]at u7 ⊢;exact⟨j,Dj j,ρ5,e3,S4,acc,l2.trans (l3.trans (l4.trans l5)),r4.mono l5,s5,ra.mono (l3.trans (l4.trans l5)),hp5,hn5,u7⟩
     | true=>
      rw[qX rfl]at u7 ⊢;obtain⟨yv,S5,h5,u7⟩:=SY u7;refine⟨ρ5,e3,S4,r4.mono l5,s5,Cg.ok_of h5 λρ6 H6 y6 l6 s6 r6=>?_⟩;obtain⟨zF,hn6⟩:=l6.oth p _ hp5 hn5
      have l7:∀vC,Le K ρ6 H6 ρ6 (upd H6 p (.lst vC))->True:=λ_ _=>trivial
      have up7:∀vC:List V,CW K ρ6 S5 (upd H6 p (.lst vC))/\(∀a o,Ea K ρ6 H6 a o->a≠p->Ea K ρ6 (upd H6 p (.lst vC)) a o)/\∀e' w',CH K ρ6 H6 e' w'->CH K ρ6 (upd H6 p (.lst vC)) e' w':=λvC=>by
       have kk:=HR (H:=H6) (p:=p) (ho:=.lst vC) (.inr (by rw[zF];trivial))
       have mono:∀e' w',CH K ρ6 H6 e' w'->CH K ρ6 (upd H6 p (.lst vC)) e' w':=λe' w' r=>r.keep kk.1 kk.2
       have mob:∀a o,Ea K ρ6 H6 a o->a≠p->Ea K ρ6 (upd H6 p (.lst vC)) a o:=λa o r ne=>r.keep kk.1 kk.2 (Bo ne)
       exact⟨⟨s6.len,s6.nd,λn o a q1 q2=>mob a o (s6.ob n o a q1 q2) λz=>hn6 n (by rw[<-z];exact q2)⟩,mob,mono⟩
      obtain⟨u1,u2,u3⟩:=up7 (xs++[y6]);refine⟨zF,j,Dj j,ρ6,e3,S5,acc++[yv],?_,?_,u1,?_,CJ,hn6,u7⟩
      ·have lx:=l2.trans (l3.trans (l4.trans (l5.trans l6)))
       have kk:=HR (H:=H6) (p:=p) (ho:=.lst (xs++[y6])) (.inr (by rw[zF];trivial))
       exact⟨lx.pre,λa zs q=>kk.1 a zs (lx.tup a zs q),λa o u q=>kk.2 a o u (lx.frz a o u q),λa o q z=>by
        have nap:a≠p:=Cw q hp;obtain⟨z1,z2⟩:=lx.oth a o q z
        exact⟨by rw[Bo nap];exact z1,z2⟩⟩
      ·have rr:=r4.mono (l5.trans l6)
       exact⟨rr.len,λq d' hq=>by
        obtain⟨w',z1,z2⟩:=rr.at' q d' hq
        exact⟨w',z1,u3 _ _ z2⟩⟩
      ·have ra6:=ra.mono (l3.trans (l4.trans (l5.trans l6)))
       have kk:=HR (H:=H6) (p:=p) (ho:=.lst (xs++[y6])) (.inr (by rw[zF];trivial));exact(ra6.keep kk.1 kk.2).append (.cons (u3 _ _ r6) .nil)
    ·cases u7
theorem EA(hc:X.calm=true)(Sc:OY X scope own N')(hi:GI X E ϖ iter mi)
  (hg:∀cl C s₁ H₁ ex pn,GG (Es X scope N' cl C s₁ H₁ ex pn) ϖ g) (vW:∀cl C s₁ H₁ ex pn,lT (Es X scope N' cl C s₁ H₁ ex pn) noE ifs c) (he:∀cl C s₁ H₁ ex pn,GE (Es X scope N' cl C s₁ H₁ ex pn) noE elt m)
  (hs:∀x,Gb iter X.env x=pure x:=by intro _;rfl):GL X E (.ListComp elt [⟨ϖ,iter,ifs,0⟩] scope pos) (Dt own.length mi g c m):=
 (j5 (g:=gG X.K g) (tc:=gT X.K noE c) (te:=gE X.K noE m) hc Sc hi hg vW he hs).imp λ_ _ _ h=>W8 h
theorem Nc(hc:X.calm=true)(Ι:G6 (.ListComp elt [⟨ϖ,iter,ifs,0⟩] scope pos) (some (.Name y py)) wG.line X.env=pure true)
  (hN:X.N.Nodup) (hy:X.N[i]?=some y) (xB:Loc X.env.scope y) (Sc:OY X scope own N') (hi:GI X E ϖ iter mi)
  (hg:∀cl C s₁ H₁ ex pn,GG (Es X scope N' cl C s₁ H₁ ex pn) ϖ g) (vW:∀cl C s₁ H₁ ex pn,lT (Es X scope N' cl C s₁ H₁ ex pn) noE ifs c) (he:∀cl C s₁ H₁ ex pn,GE (Es X scope N' cl C s₁ H₁ ex pn) noE elt m)
  (hs:∀x,Gb iter X.env x=pure x:=by intro _;rfl) (hf:X.fn y=true∨X.env.scope.names.lookup y=some .local:=by first | exact .inl rfl | exact .inr rfl | assumption) :
  GS X E (.Assign [.Name y py] (.ListComp elt [⟨ϖ,iter,ifs,0⟩] scope pos) wG) (CT i (Db (Dt own.length mi g c m))):=by
 refine(jo (g:=gG X.K g) (tc:=gT X.K noE c) (te:=gE X.K noE m) hc Ι hN hy xB Sc hi hg vW he hs hf).imp λD σ H ⟨ρ,l,S,hl,hs,hm⟩=>?_
 refine W8 (E:=E) (Q:=λx H'=>D.nx (σ.set i (some x)) H') ⟨ρ,l,S,hl,hs,Cg.seq (F:=λds S1=>Res.ok (L2.D.ref S1.length) (S1++[Ob.lst ds])) (k:=λd S2=>Cg X.K noH ρ H ((tgN i d l S2).bind λe1 S2=>.ok (.nx e1) S2) λfl S'=>RD X.K E ρ H S' D fl) (Cg.lift hm hl .refl λd S2 h=>h) λds S1 hm ρ1 H1 p xs l1 s1 r1 hp hn xA=>?_⟩
 have l0:∀(n:Nat) a,ρ1[n]?=some a->(ρ1++[p])[n]?=some a:=λn a h=>by rw[Av (AE.mp h).1];exact h
 obtain⟨s2,at2⟩:=s1.adopt (o:=.lst ds) hn ⟨xs,hp,r1.more l0⟩
 have l2:Le X.K ρ H (ρ1++[p]) H1:=⟨λn a h=>l0 n a (l1.pre n a h),l1.tup,l1.frz,λa o e h=>⟨(l1.oth a o e h).1,λn q=>by
  rcases Jg q with⟨q,_⟩ | ⟨_,q⟩
  ·exact(l1.oth a o e h).2 n q
  ·exact Cw e xA q⟩⟩
 exact hm _ _ _ l2 s2 ((hl.mono l2).set (.ref at2) i)
end
end L2
namespace L2
open PySem PySem.Spec PyProof.Rows PySem.SeqAt
def NG:D->D->Option Bool
 | .non,.non=>some true
 | .bl a,.bl b=>some (a==b)
 | .int a,.int b=>some (a==b)
 | .str a,.str b=>some (a==b)
 | .non,.int _=>some false
 | .non,.str _=>some false
 | .non,.bl _=>some false
 | .non,.tup _=>some false
 | .int _,.non=>some false
 | .str _,.non=>some false
 | .bl _,.non=>some false
 | .tup _,.non=>some false
 | .int _,.tup _=>some false
 | .tup _,.int _=>some false
 | _,_=>none
def eqL(f:D->D->Option Bool):List D->List D->Option Bool
 | [],[]=>some true
 | [],_ :: _=>some false
 | _ :: _,[]=>some false
 | x :: xs,y :: ys=>match f x y,eqL f xs ys with
  | some a,some b=>some (a&&b)
  | _,_=>none
def eqP:Nat->D->D->Option Bool
 | 0,x,y=>NG x y
 | n+1,x,y=>match x,y with
  | .tup xs,.tup ys=>eqL (eqP n) xs ys
  | x,y=>NG x y
theorem NF(h:eqL f (x :: xs) (y :: ys)=some b):∃a c,f x y=some a/\eqL f xs ys=some c/\b=(a&&c):=by
 unfold eqL at h;split at h
 ·rename_i a c h1 h2
  cases h;exact⟨a,c,h1,h2,rfl⟩
 ·cases h
theorem aW:∀{xs ys:List D} {b:Bool},eqL f xs ys=some b->(∀(j:Nat) x y,xs[j]?=some x->ys[j]?=some y->∃c,f x y=some c) /\
  b=((D4 (min xs.length ys.length)).all (λj=>match xs[j]?,ys[j]? with | some x,some y=>(f x y).getD false | _,_=>false)&&xs.length==ys.length)
 | [],[],b,h=>by cases h;exact⟨λj x y h=>by simp at h,by simp⟩
 | [],y :: ys,b,h=>by cases h;exact⟨λj x y h=>by simp at h,by simp⟩
 | x :: xs,[],b,h=>by cases h;exact⟨λj x y _ h=>by simp at h,by simp⟩
 | x :: xs,y :: ys,b,h=>by
  obtain⟨a,c,h1,h2,rfl⟩:=NF h;obtain⟨i1,i2⟩:=aW h2;refine⟨λj x' y' e1 e2=>?_,?_⟩
  ·cases j with
   | zero=>simp at e1 e2;subst e1;subst e2;exact⟨a,h1⟩
   | succ j=>exact i1 j x' y' (by simpa using e1) (by simpa using e2)
  ·rw[i2,BB,BB,show min (xs.length+1) (ys.length+1)=min xs.length ys.length+1 by lia,List.range_succ_eq_map,mV,qe]
   simp only[List.getElem?_cons_zero,h1,QY,Function.comp_def,List.getElem?_cons_succ];rw[Bool.and_assoc]
   congr 1
   congr 1
   rw[ic];simp
section
variable{K:AG}{ρ:List Ab}{H:Hp}
theorem aS(n k:Nat)(y:D):eqP n (.ref k) y=none:=by cases n <;> cases y <;> rfl
theorem aT(n:Nat)(ds:List D)(y:D):eqP n (.fro ds) y=none:=by cases n <;> cases y <;> rfl
theorem aU(n:Nat)(c:Ab)(y:D):eqP n (.exc c) y=none:=by cases n <;> cases y <;> rfl
theorem O1(r1:CH K ρ H x v)(r2:CH K ρ H x' v):x=x'∨(∃ds uX vs,x=.tup ds/\x'=.tup uX/\A0 K ρ H ds vs/\A0 K ρ H uX vs)∨(∀n y,eqP n x y=none)∨∀n y,eqP n x' y=none:=by
 cases r1 with
 | non=>cases r2;exact .inl rfl
 | bl b=>cases r2;exact .inl rfl
 | int b=>cases r2;exact .inl rfl
 | str b=>cases r2;exact .inl rfl
 | fro _ _=>exact .inr (.inr (.inl λn y=>aT n _ y))
 | ref _=>exact .inr (.inr (.inl λn y=>aS n _ y))
 | exc _ _=>exact .inr (.inr (.inl λn y=>aU n _ y))
 | tup u1 u2=>
  cases r2 with
  | fro _ _=>exact .inr (.inr (.inr λn y=>aT n _ y))
  | ref _=>exact .inr (.inr (.inr λn y=>aS n _ y))
  | exc _ _=>exact .inr (.inr (.inr λn y=>aU n _ y))
  | tup w1 w2=>
   rw[u1]at w1;cases w1;exact .inr (.inl ⟨_,_,_,rfl,rfl,u2,w2⟩)
theorem lC:∀(n:Nat) {x x' y:D} {v:V} {b b':Bool},CH K ρ H x v->CH K ρ H x' v->eqP n x y=some b->eqP n x' y=some b'->b=b':=by
 intro n
 induction n with
 | zero=>
  intro x x' y v b b' r1 r2 h h'
  rcases O1 r1 r2 with rfl | ⟨ds,uX,vs,rfl,rfl,_,_⟩ | q | q
  ·rw[h]at h';cases h';rfl
  ·have:eqP 0 (.tup ds) y=eqP 0 (.tup uX) y:=by cases y <;> rfl
   rw[<-this,h]at h';cases h';rfl
  ·rw[q]at h;cases h
  ·rw[q]at h';cases h'
 | succ n ih=>
  intro x x' y v b b' r1 r2 h h'
  have lists:∀{xs:List D} {vs:List V} {vC ys:List D} {b b':Bool},A0 K ρ H xs vs->A0 K ρ H vC vs->eqL (eqP n) xs ys=some b->eqL (eqP n) vC ys=some b'->b=b':=by
   intro xs
   induction xs with
   | nil=>
    intro vs vC ys b b' q1 q2 g g';cases q1;cases q2;rw[g]at g';cases g';rfl
   | cons d ds ihl=>
    intro vs vC ys b b' q1 q2 g g'
    cases q1 with
    | cons a1 a2=>
     cases q2 with
     | cons c1 c2=>
      cases ys with
      | nil=>cases g;cases g';rfl
      | cons y ys=>
       obtain⟨p,q,g1,g2,rfl⟩:=NF g;obtain⟨p',q',g1',g2',rfl⟩:=NF g';rw[ih a1 c1 g1 g1',ihl a2 c2 g2 g2']
  rcases O1 r1 r2 with rfl | ⟨ds,uX,vs,rfl,rfl,q1,q2⟩ | q | q
  ·rw[h]at h';cases h';rfl
  ·by_cases c:∃ys,y=.tup ys
   ·obtain⟨ys,rfl⟩:=c
    exact lists q1 q2 h h'
   ·have:eqP (n+1) (.tup ds) y=eqP (n+1) (.tup uX) y:=by
     cases y <;> first | rfl | exact(c ⟨_,rfl⟩).elim
    rw[<-this,h]at h';cases h';rfl
  ·rw[q]at h;cases h
  ·rw[q]at h';cases h'
theorem E5(h:NG x x=some b):b=true:=by
 cases x <;> first | (cases h;done) | (cases h;simp)
theorem Sy:∀(n:Nat) {x:D} {b:Bool},eqP n x x=some b->b=true
 | 0,_,_,h=>E5 h
 | n+1,x,b,h=>by
  have lists:∀{xs:List D} {b:Bool},eqL (eqP n) xs xs=some b->b=true:=by
   intro xs
   induction xs with
   | nil=>intro b g;cases g;rfl
   | cons d ds ih=>
    intro b g;obtain⟨p,q,g1,g2,rfl⟩:=NF g;rw[Sy n g1,ih g2];rfl
  cases x with
  | tup xs=>exact lists h
  | non=>exact E5 (x:=.non) h
  | bl c=>exact E5 (x:=.bl c) h
  | int c=>exact E5 (x:=.int c) h
  | str c=>exact E5 (x:=.str c) h
  | ref c=>exact E5 (x:=.ref c) h
  | fro c=>exact E5 (x:=.fro c) h
  | exc c=>exact E5 (x:=.exc c) h
theorem Nh(hy:(∃f,y=.fro f)∨(∃r,y=.ref r)∨∃c,y=.exc c)(n:Nat):eqP n x y=none:=by
 rcases hy with⟨f,rfl⟩ | ⟨r,rfl⟩ | ⟨c,rfl⟩ <;> (cases n <;> cases x <;> rfl)
theorem gc(n:Nat)(h1:CH K ρ H x v)(h2:CH K ρ H y v)(h:eqP n x y=some b):b=true:=by
 induction n generalizing x y v b with
 | zero=>
  rcases O1 h1 h2 with rfl | ⟨ds,uX,vs,rfl,rfl,_,_⟩ | q | q
  ·exact Sy 0 h
  ·cases h
  ·rw[q]at h;cases h
  ·cases h2 with
   | fro _ _=>rw[Nh (.inl ⟨_,rfl⟩)]at h;cases h
   | ref _=>rw[Nh (.inr (.inl ⟨_,rfl⟩))]at h;cases h
   | exc _ _=>rw[Nh (.inr (.inr ⟨_,rfl⟩))]at h;cases h
   | non=>cases(q 0 .non)
   | bl b=>cases(q 0 (.bl b))
   | int b=>cases(q 0 (.int b))
   | str b=>cases(q 0 (.str b))
   | tup _ _=>cases(q 0 .non)
 | succ n ih=>
  have lists:∀{xs ys:List D} {vs:List V} {b:Bool},A0 K ρ H xs vs->A0 K ρ H ys vs->eqL (eqP n) xs ys=some b->b=true:=by
   intro xs
   induction xs with
   | nil=>intro ys vs b q1 q2 g;cases q1;cases q2;cases g;rfl
   | cons d ds ihl=>
    intro ys vs b q1 q2 g
    cases q1 with
    | cons a1 a2=>
     cases q2 with
     | cons c1 c2=>
      obtain⟨p,q,g1,g2,rfl⟩:=NF g;rw[ih a1 c1 g1,ihl a2 c2 g2];rfl
  rcases O1 h1 h2 with rfl | ⟨ds,uX,vs,rfl,rfl,q1,q2⟩ | q | q
  ·exact Sy (n+1) h
  ·exact lists q1 q2 h
  ·rw[q]at h;cases h
  ·cases h2 with
   | fro _ _=>rw[Nh (.inl ⟨_,rfl⟩)]at h;cases h
   | ref _=>rw[Nh (.inr (.inl ⟨_,rfl⟩))]at h;cases h
   | exc _ _=>rw[Nh (.inr (.inr ⟨_,rfl⟩))]at h;cases h
   | non=>cases(q 0 .non)
   | bl b=>cases(q 0 (.bl b))
   | int b=>cases(q 0 (.int b))
   | str b=>cases(q 0 (.str b))
   | tup _ _=>cases(q 0 .non)
end
section
variable{X:Cx}{ζ:List (Ab×Obj)}{σ:St}{H:Hp}{s:AS}{ρ:List Ab}
theorem Hy(A:Cj):A.in1.units=A.units+1:=rfl
theorem B0.at_(r:B0 vs i')(h:j < i'.toArray.size):∃v,vs[j]?=some v/\RelV v i'.toArray[j]:=by
 have hj:j < i'.length:=by simpa using h
 have hv:j < vs.length:=by rw[r.length];exact hj
 obtain⟨u,h1,h2⟩:=r.get (i:=j) (x:=vs[j]) (by simp[hv]);refine⟨vs[j],by simp[hv],?_⟩
 have:i'.toArray[j]=u:=by
  have:=AE.mp h1;obtain⟨_,e⟩:=this;simpa using e
 rw[this];exact h2
theorem Vg(ih:∀(x y:D) (b:Bool) (xv yv:V) (u v:AJ),eqP n x y=some b->CH X.K ρ H x xv->CH X.K ρ H y yv->RelV xv u->RelV yv v->EqAt A s u v b)
  (h:eqL (eqP n) xs ys=some b) (r1:A0 X.K ρ H xs vs) (r2:A0 X.K ρ H ys ws) (q1:B0 vs us) (q2:B0 ws zs) :
  ∃e:Nat->Bool,(∀j (h1:j < us.toArray.size) (h2:j < zs.toArray.size),EqAt A s us.toArray[j] zs.toArray[j] (e j))/\b=((D4 (min us.toArray.size zs.toArray.size)).all e&&us.toArray.size==zs.toArray.size):=by
 obtain⟨i1,i2⟩:=aW h;refine⟨λj=>match xs[j]?,ys[j]? with | some x,some y=>(eqP n x y).getD false | _,_=>false,λj h1 h2=>?_,?_⟩
 ·obtain⟨v,e1,rv⟩:=B0.at_ q1 h1
  obtain⟨w,e2,uT⟩:=B0.at_ q2 h2;obtain⟨x,e3,rx⟩:=r1.get' e1;obtain⟨y,e4,ry⟩:=r2.get' e2;obtain⟨c,hc⟩:=i1 j x y e3 e4;have:=ih x y c v w _ _ hc rx ry rv uT;simp only[e3,e4,hc,QY];exact this
 ·rw[i2,r1.length,r2.length,q1.length,q2.length]
  simp
theorem QM(I:Inv X ζ σ H s)(hu:A.units < FX)(h:NG x y=some b)(r1:CH X.K ρ H x xv)(r2:CH X.K ρ H y yv)(q1:RelV xv u)(q2:RelV yv v) :
  EqAt A s u v b/\RcAt A s u v b/\RcNeAt A s u v (!b):=by
 cases r1 with
 | non=>
  cases q1
  cases r2 with
  | non=>cases q2;cases h;exact⟨EqAt.same _,RcAt.none_none,RcNeAt.none_none⟩
  | bl c=>cases q2;cases h;exact⟨EqAt.none_bool _,RcAt.none_bool _,RcNeAt.none_bool _⟩
  | int i=>obtain⟨t,rfl⟩:=q2;cases h;exact⟨EqAt.none_int _ _,RcAt.none_int _ _,RcNeAt.none_int _ _⟩
  | str z=>obtain⟨t,rfl⟩:=q2;cases h;exact⟨EqAt.none_str _ _,RcAt.none_str _ _,RcNeAt.none_str _ _⟩
  | tup a1 a2=>
   cases q2;cases h;obtain⟨i',_,p,_⟩:=I.tuple (.inl (.inl a1));exact⟨EqAt.none_tuple p hu,RcAt.none_tuple p hu,RcNeAt.none_tuple p hu⟩
  | _=>cases h
 | bl a=>
  cases q1
  cases r2 with
  | non=>cases q2;cases h;exact⟨EqAt.bool_none _,RcAt.bool_none _,RcNeAt.bool_none _⟩
  | bl c=>cases q2;cases h;exact⟨EqAt.bool_bool _ _,RcAt.bool_bool _ _,RcNeAt.bool_bool _ _⟩
  | _=>cases h
 | int a=>
  obtain⟨t,rfl⟩:=q1
  cases r2 with
  | non=>cases q2;cases h;exact⟨EqAt.int_none _ _,RcAt.int_none _ _,RcNeAt.int_none _ _⟩
  | int i=>obtain⟨t',rfl⟩:=q2;cases h;exact⟨EqAt.int_int _ _ _ _,RcAt.int_int _ _ _ _,RcNeAt.int_int _ _ _ _⟩
  | tup a1 a2=>
   cases q2;cases h;obtain⟨i',_,p,_⟩:=I.tuple (.inl (.inl a1));exact⟨EqAt.int_tuple _ _ p hu,RcAt.int_tuple _ _ p hu,RcNeAt.int_tuple _ _ p hu⟩
  | _=>cases h
 | str a=>
  obtain⟨t,rfl⟩:=q1
  cases r2 with
  | non=>cases q2;cases h;exact⟨EqAt.str_none _ _,RcAt.str_none _ _,RcNeAt.str_none _ _⟩
  | str i=>obtain⟨t',rfl⟩:=q2;cases h;exact⟨EqAt.str_str _ _ _ _,RcAt.str_str _ _ _ _,RcNeAt.str_str _ _ _ _⟩
  | _=>cases h
 | tup a1 a2=>
  cases q1;obtain⟨i',_,p,_⟩:=I.tuple (.inl (.inl a1))
  cases r2 with
  | non=>cases q2;cases h;exact⟨EqAt.tuple_none p hu,RcAt.tuple_none p hu,RcNeAt.tuple_none p hu⟩
  | int i=>obtain⟨t',rfl⟩:=q2;cases h;exact⟨EqAt.tuple_int _ _ p hu,RcAt.tuple_int _ _ p hu,RcNeAt.tuple_int _ _ p hu⟩
  | _=>cases h
 | _=>cases h
theorem ZK(I:Inv X ζ σ H s):∀(n:Nat) (A:Cj) (x y:D) (b:Bool) (xv yv:V) (u v:AJ),A.units+n < FX->eqP n x y=some b->CH X.K ρ H x xv->CH X.K ρ H y yv->RelV xv u->RelV yv v->EqAt A s u v b:=by
 intro n
 induction n with
 | zero=>exact λA x y b xv yv u v hu h r1 r2 q1 q2=>(QM I (by omega) h r1 r2 q1 q2).1
 | succ n ih=>
  intro A x y b xv yv u v hu h r1 r2 q1 q2
  by_cases ht:∃xs ys,x=.tup xs/\y=.tup ys
  ·obtain⟨xs,ys,rfl,rfl⟩:=ht
   cases r1 with
   | @tup _ a vs a1 a2=>
    cases r2 with
    | @tup _ c ws b1 b2=>
     cases q1;cases q2
     by_cases Λ:a=c
     ·subst Λ
      rw[gc (n+1) (.tup a1 a2) (.tup b1 b2) h];exact EqAt.same _
     ·obtain⟨i',rv,p,_⟩:=I.tuple (.inl (.inl a1))
      obtain⟨ur,uT,p2,_⟩:=I.tuple (.inl (.inl b1));obtain⟨e,he,rfl⟩:=Vg (A:=A.in1) (λx y b xv yv u v g1 g2 g3 g4 g5=>ih A.in1 x y b xv yv u v (by rw[Hy];lia) g1 g2 g3 g4 g5) h a2 b2 rv uT;exact EqAt.of_refs Λ (qk p p2 (by lia) he)
  ·have hf:NG x y=some b:=by
    cases x <;> cases y <;> first | exact h | exact(ht ⟨_,_,rfl,rfl⟩).elim
   exact(QM I (by lia) hf r1 r2 q1 q2).1
def No(d:D)(S:Sto):Option (List D):=match d with
 | .fro ds=>some ds
 | .ref n=>match S[n]? with
  | some (.lst ds)=>some ds
  | _=>none
 | _=>none
def eqB(x y:D)(S:Sto):Option Bool:=match No x S,No y S with
 | some xs,some ys=>if xs.length=ys.length then eqL (eqP 8) xs ys else some false
 | none,none=>eqP 8 x y
 | some _,none=>match y with
  | .tup _=>some false
  | .non=>some false
  | _=>none
 | none,some _=>match x with
  | .tup _=>some false
  | .non=>some false
  | _=>none
def eqD(neg:Bool)(x y:D)(S:Sto):Res D:=match eqB x y S with
 | some b=>.ok (.bl (if neg then !b else b)) S
 | none=>.bad
theorem J9{K}{S}{d}{x}{ds}(hs:CW K ρ S H)(r:CH K ρ H d x)(h:No d S=some ds):∃p xs,x=.ref p/\A0 K ρ H ds xs/\SqL K H p xs:=by
 cases r with
 | fro h1 h2=>cases h;exact⟨_,_,rfl,h2,h1.sq⟩
 | @ref n a hn=>
  obtain⟨o,ho,ro⟩:=hs.there hn;unfold No at h;simp only[ho]at h
  cases o with
  | lst es=>cases h;obtain⟨vs,e,rr⟩:=ro;exact⟨_,_,rfl,rr,.inl (.inl e)⟩
  | _=>cases h
 | _=>cases h
theorem ge{S}{x y}{b}{xv yv}{u v}(I:Inv X ζ σ H s)(hu:X.A.units+64 < FX)(hs:CW X.K ρ S H)(r1:CH X.K ρ H x xv)(r2:CH X.K ρ H y yv)(q1:RelV xv u)(q2:RelV yv v)(h:eqB x y S=some b) :
  RcAt X.A s u v b/\RcNeAt X.A s u v (!b):=by
 unfold eqB at h;split at h
 ·rename_i xs ys h1 h2
  obtain⟨p,vs,rfl,rr,sq⟩:=J9 hs r1 h1;obtain⟨p',yJ,rfl,Μ,sq'⟩:=J9 hs r2 h2;cases q1;cases q2;obtain⟨i',rv,pl,_⟩:=I.list sq;obtain⟨ur,Ν,zG,_⟩:=I.list sq';split at h
  ·rename_i hlen
   obtain⟨e,he,rfl⟩:=Vg (A:=X.A.in1) (λx y b xv yv u v g1 g2 g3 g4 g5=>ZK I 8 X.A.in1 x y b xv yv u v (by rw[Hy];lia) g1 g2 g3 g4 g5) h rr Μ rv Ν
   have hsz:i'.toArray.size=ur.toArray.size:=by
    simp only[Aj];rw[<-rv.length,<-Ν.length,<-rr.length,<-Μ.length];exact hlen
   have e1:((D4 (min i'.toArray.size ur.toArray.size)).all e&&i'.toArray.size==ur.toArray.size)=(D4 i'.toArray.size).all e:=by
    rw[<-hsz,Nat.min_self,beq_self_eq_true,Bool.and_true]
   rw[e1];exact⟨RcAt.lists pl.isList zG.isList hsz (by lia) he,RcNeAt.lists pl.isList zG.isList hsz (by lia) he⟩
  ·rename_i hlen
   cases h
   have hsz:(i'.toArray.size != ur.toArray.size)=true:=by
    simp only[Aj];rw[<-rv.length,<-Ν.length,<-rr.length,<-Μ.length];simpa using hlen
   exact⟨RcAt.lists_lengths pl.isList zG.isList hsz (by lia),RcNeAt.lists_lengths pl.isList zG.isList hsz (by lia)⟩
 ·by_cases ht:∃xs ys,x=.tup xs/\y=.tup ys
  ·obtain⟨xs,ys,rfl,rfl⟩:=ht
   cases r1 with
   | tup a1 a2=>
    cases r2 with
    | tup b1 b2=>
     cases q1;cases q2;obtain⟨i',rv,p,_⟩:=I.tuple (.inl (.inl a1));obtain⟨ur,uT,p2,_⟩:=I.tuple (.inl (.inl b1));obtain⟨e,he,rfl⟩:=Vg (n:=7) (A:=X.A.in1) (λx y b xv yv u v g1 g2 g3 g4 g5=>ZK I 7 X.A.in1 x y b xv yv u v (by rw[Hy];lia) g1 g2 g3 g4 g5) h a2 b2 rv uT;exact⟨qk p p2 (by lia) he,RcNeAt.tuples p p2 (by lia) he⟩
  ·have hf:NG x y=some b:=by
    cases x <;> cases y <;> first | exact h | exact(ht ⟨_,_,rfl,rfl⟩).elim
   exact(QM I (by lia) hf r1 r2 q1 q2).2
 ·rename_i xs h1 h2
  obtain⟨p,vs,rfl,rr,sq⟩:=J9 hs r1 h1;cases q1;obtain⟨i',rv,pl,_⟩:=I.list sq;split at h
  ·cases h
   cases r2 with
   | tup b1 b2=>
    cases q2;obtain⟨ur,uT,p2,_⟩:=I.tuple (.inl (.inl b1));exact⟨RcAt.list_tuple pl.isList p2 (by lia),RcNeAt.list_tuple pl.isList p2 (by lia)⟩
  ·cases h
   cases r2;cases q2;exact⟨RcAt.list_none pl.isList (by lia),RcNeAt.list_none pl.isList (by lia)⟩
  ·cases h
 ·rename_i xs h1 h2
  obtain⟨p,vs,rfl,rr,sq⟩:=J9 hs r2 h2;cases q2;obtain⟨i',rv,pl,_⟩:=I.list sq;split at h
  ·cases h
   cases r1 with
   | tup b1 b2=>
    cases q1;obtain⟨ur,uT,p2,_⟩:=I.tuple (.inl (.inl b1));exact⟨RcAt.tuple_list p2 pl.isList (by lia),RcNeAt.tuple_list p2 pl.isList (by lia)⟩
  ·cases h
   cases r1;cases q1;exact⟨RcAt.none_list pl.isList (by lia),RcNeAt.none_list pl.isList (by lia)⟩
  ·cases h
theorem Kv(hu:X.A.units+64 < FX):OpR X (Ch .Eq) (rD X.K (eqD false)):=by
 intro ζ s σ H x y v u Q I rx ry h;obtain⟨ρ,S,a,b,d,S',hs,ra,rb,hm,k⟩:=h;unfold eqD at hm;split at hm
 ·rename_i c hc
  cases hm;exact(ge I hu hs ra rb rx ry hc).1 _ _ _ _ ⟨.bl c,H,I,rfl,k ρ H _ .refl hs (.bl _)⟩
 ·cases hm
theorem fB(hu:X.A.units+64 < FX):OpR X (Ch .NotEq) (rD X.K (eqD true)):=by
 intro ζ s σ H x y v u Q I rx ry h;obtain⟨ρ,S,a,b,d,S',hs,ra,rb,hm,k⟩:=h;unfold eqD at hm;split at hm
 ·rename_i c hc
  cases hm;exact(ge I hu hs ra rb rx ry hc).2 _ _ _ _ ⟨.bl (!c),H,I,rfl,k ρ H _ .refl hs (.bl _)⟩
 ·cases hm
def N7(x:D):List D->Option Bool
 | []=>some false
 | d :: ds=>match eqP 8 d x,N7 x ds with
  | some a,some b=>some (a||b)
  | _,_=>none
def inD(neg:Bool)(x y:D)(S:Sto):Res D:=match Ga y S with
 | some ds=>match N7 x ds with
  | some b=>.ok (.bl (if neg then !b else b)) S
  | none=>.bad
 | none=>.bad
theorem ZT(h:N7 x (d :: ds)=some b):∃a c,eqP 8 d x=some a/\N7 x ds=some c/\b=(a||c):=by
 unfold N7 at h;split at h
 ·rename_i a c h1 h2
  cases h;exact⟨a,c,h1,h2,rfl⟩
 ·cases h
open Classical in
theorem Pd(I:Inv X ζ σ H s)(hu:A.units+8 < FX)(rx:CH X.K ρ H x xv)(qx:RelV xv v):∀{ds:List D} {vs:List V} {us:List AJ} {b:Bool},A0 X.K ρ H ds vs->B0 vs us->N7 x ds=some b ->
  ∃e:AJ->Bool,(∀y∈us,EqAt A s y v (e y))/\b=us.any e:=by
 intro ds vs us b r q h
 let e:AJ->Bool:=λy=>decide (∃d w,d∈ds/\CH X.K ρ H d w/\RelV w y/\eqP 8 d x=some true)
 have all:∀{uX:List D} {yJ:List V} {yK:List AJ} {b':Bool},(∀d∈uX,d∈ds)->A0 X.K ρ H uX yJ->B0 yJ yK->N7 x uX=some b'->(∀y∈yK,EqAt A s y v (e y))/\b'=yK.any e:=by
  intro uX
  induction uX with
  | nil=>intro yJ yK b' _ r q h;cases r;cases q;cases h;exact⟨(λ_ z=>nomatch z),rfl⟩
  | cons d uX ih=>
   intro yJ yK b' xC r q h
   cases r with
   | cons r1 r2=>
    cases q with
    | @cons w y _ _ q1 q2=>
     obtain⟨a,c,h1,h2,rfl⟩:=ZT h;obtain⟨i1,i2⟩:=ih (λz hz=>xC z (AY _ hz)) r2 q2 h2
     have ha:e y=a:=by
      by_cases hq:∃d w,d∈ds/\CH X.K ρ H d w/\RelV w y/\eqP 8 d x=some true
      ·obtain⟨d',w',_,g1,g2,g3⟩:=id hq
       rw[RelV.inj g2 q1]at g1;have:=lC 8 g1 r1 g3 h1;rw[<-this];exact wX hq
      ·have:a=false:=by
        cases a with
        | false=>rfl
        | true=>exact(hq ⟨d,_,xC d Af,r1,q1,h1⟩).elim
       rw[this];exact wY hq
     refine⟨λz hz=>?_,by rw[Ic,ha,<-i2]⟩
     rcases Ap.mp hz with rfl | hz
     ·rw[ha]
      exact ZK I 8 A d x a _ _ _ _ hu h1 r1 rx q1 qx
     ·exact i1 z hz
 obtain⟨e1,e2⟩:=all (λ_ h=>h) r q h;exact⟨e,e1,e2⟩
theorem sS(hu:X.A.units+64 < FX):OpR X (Ch .In) (rD X.K (inD false)):=by
 intro ζ s σ H x y v u Q I rx ry h;obtain⟨ρ,S,a,b,d,S',hs,ra,rb,hm,k⟩:=h;unfold inD at hm;split at hm
 ·rename_i ds hq
  split at hm
  ·rename_i c hc
   cases hm;obtain⟨p,xs,rfl,rr,sq⟩:=RS hs rb hq;cases ry
   rcases sq with sq | sq
   ·obtain⟨i',rv,pl,_⟩:=I.list sq
    obtain⟨e,he,rfl⟩:=Pd I (A:=X.A.in1) (by rw[Hy];lia) ra rx rr rv hc;exact in_listAt e pl.isList (λz hz=>he z (by simpa using hz)) ⟨.bl (i'.toArray.any e),H,I,rfl,by rw[MC];exact k ρ H _ .refl hs (.bl _)⟩
   ·obtain⟨i',rv,pl,_⟩:=I.tuple sq
    obtain⟨e,he,rfl⟩:=Pd I (A:=X.A.in1) (by rw[Hy];lia) ra rx rr rv hc;exact in_tupleAt e pl (λz hz=>he z (by simpa using hz)) ⟨.bl (i'.toArray.any e),H,I,rfl,by rw[MC];exact k ρ H _ .refl hs (.bl _)⟩
  ·cases hm
 ·cases hm
theorem XX(hu:X.A.units+64 < FX):OpR X (Ch .NotIn) (rD X.K (inD true)):=by
 intro ζ s σ H x y v u Q I rx ry h;obtain⟨ρ,S,a,b,d,S',hs,ra,rb,hm,k⟩:=h;unfold inD at hm;split at hm
 ·rename_i ds hq
  split at hm
  ·rename_i c hc
   cases hm;obtain⟨p,xs,rfl,rr,sq⟩:=RS hs rb hq;cases ry
   rcases sq with sq | sq
   ·obtain⟨i',rv,pl,_⟩:=I.list sq
    obtain⟨e,he,rfl⟩:=Pd I (A:=X.A.in1) (by rw[Hy];lia) ra rx rr rv hc;exact notIn_listAt e pl.isList (λz hz=>he z (by simpa using hz)) ⟨.bl (!i'.toArray.any e),H,I,rfl,by rw[MC];exact k ρ H _ .refl hs (.bl _)⟩
   ·obtain⟨i',rv,pl,_⟩:=I.tuple sq
    obtain⟨e,he,rfl⟩:=Pd I (A:=X.A.in1) (by rw[Hy];lia) ra rx rr rv hc;exact notIn_tupleAt e pl (λz hz=>he z (by simpa using hz)) ⟨.bl (!i'.toArray.any e),H,I,rfl,by rw[MC];exact k ρ H _ .refl hs (.bl _)⟩
  ·cases hm
 ·cases hm
end
open PySem PySem.Spec PyProof.Rows
def RA(mo ma:ME):ME:=λe S=>(mo e S).bind λd S1=>match d with
 | .ref n=>match S1[n]? with
  | some (.lst _)=>(ma e S1).bind λy S2=>match S2[n]? with
   | some (.lst xs)=>if xs.length < sizeLine then .ok .non (S2.set n (.lst (xs++[y])))else .bad
   | _=>.bad
  | _=>.bad
 | _=>.bad
section
variable{X:Cx}{E:EW}{o e:Expr}{mo ma:ME}
theorem Zv{K}{ρ}{S}{H}{n}{x}{xs}(s:CW K ρ S H)(r:CH K ρ H (.ref n) x)(h:S[n]?=some (.lst xs)):∃a vs,x=.ref a/\ρ[n]?=some a/\H a=some (.lst vs)/\A0 K ρ H xs vs:=by
 cases r with
 | ref hn=>
  obtain⟨vs,e,rr⟩:=s.ob n _ _ h hn;exact⟨_,vs,rfl,hn,e,rr⟩
theorem JL(ho:GE X E o mo)(ha:GE X E e ma)(uE:GU o "append" X.env (Co o X.env)=Co o X.env:=by rfl)
  (vU:((E6 ui (Ag [e] X.env)).all (λx=>!x.1)&&(YH ui (Pm [] X.env)).all (λx=>x.1.isSome)
    &&decide ([e].length+([]:List X8).length+(if ([]:List X8).isEmpty then 0 else 1) < 30))=true:=by rfl)
  (uF:(apos.endLine==ui.line)=true:=by rfl) (hs:Ag [e] X.env=(false,Co e X.env) :: Ag [] X.env:=by rfl) (uO:(E6 ui (Ag [] X.env)).any (·.1)=false:=by rfl) :
  GE X E (.Call (.Attribute o "append" apos) [e] [] ui) (RA mo ma):=(lv UE PySem.F.slot_list_append PySem.F.type_list_append UX ho (HK ha JY hs) uE vU uF hs uO).imp<|by
 rintro σ H Q ⟨ρ,l,S,hl,hs,hm⟩
 refine⟨ρ,l,S,hl,hs,hm.seq λx S1 hm ρ1 H1 v l1 s1 r1=>?_⟩
 cases x <;> first | exact hm.elim | skip
 rename_i n;dsimp only at hm;split at hm
 ·rename_i xs0 h0
  obtain⟨a,vs,rfl,hn,e0,_⟩:=Zv s1 r1 h0;refine⟨.inl ⟨rfl,vs,.inl (.inl e0)⟩,ρ1,l,S1,hl.mono l1,s1,(hm.later l1).seq λy S2 hm ρ2 H2 u l2 s2 r2=>?_⟩;split at hm
  ·rename_i xs h3
   split at hm
   ·rename_i hz
    have vd:=l2.pre n a hn;obtain⟨ws,e3,rr⟩:=s2.ob n _ _ h3 vd;have le:Le X.K ρ2 H2 ρ2 (upd H2 a (.lst (ws++[u]))):=Le.write vd (by rw[e3];trivial);obtain⟨s3,l3⟩:=s2.write (ho:=.lst (ws++[u])) (o:=.lst (xs++[y])) vd ⟨_,CJ,(rr.append (.cons r2 .nil)).mono le⟩ le;exact⟨a,ws,u,rfl,rfl,e3,by rw[<-rr.length];exact hz,hm ρ2 _ _ (l1.trans (l2.trans l3)) s3 .non⟩
   ·exact hm.elim
  ·exact hm.elim
 ·exact hm.elim
end
def Ai{κ β:Type}[DecidableEq κ](f':List (κ×β))(k:κ):Option β:=(f'.find? λkv=>decide (kv.1=k)).map (·.2)
def CG{κ β:Type}[DecidableEq κ](f':List (κ×β))(k:κ)(v:β):List (κ×β):=
 if (f'.any λkv=>decide (kv.1=k))=true then f'.map (λkv=>if kv.1=k then(kv.1,v)else kv)else f'++[(k,v)]
section
variable{κ:Type}[DecidableEq κ]{K:AG}{ρ:List Ab}{H:Hp}
theorem KVR.val(k:κ):∀{x:List (κ×D)} {y:List (κ×V)},KVR K ρ H x y->(Ai x k=none->LK y k=none)/\∀d,Ai x k=some d->∃v,LK y k=some v/\CH K ρ H d v
 | _,_,.nil=>⟨λ_=>rfl,λd h=>by cases h⟩
 | (g,a) :: x,(g',b) :: y,.cons r t=>by
  obtain⟨r1,r2⟩:=r;dsimp only at r1 r2;subst r1;unfold Ai LK;rw[Cb,Cb]
  by_cases e:g=k
  ·simp only[e,decide_true]
   exact⟨(λh=>nomatch h),(λd h=>by cases h;exact⟨b,rfl,r2⟩)⟩
  ·simp only[e,decide_false]
   exact KVR.val k t
theorem KVR.any(k:κ):∀{x:List (κ×D)} {y:List (κ×V)},KVR K ρ H x y->(x.any λkv=>decide (kv.1=k))=y.any λkv=>decide (kv.1=k)
 | _,_,.nil=>rfl
 | (g,a) :: x,(g',b) :: y,.cons r t=>by
  rw[Ic,Ic,KVR.any k t,show g=g' from r.1]
theorem KVR.repl(k:κ)(rd:CH K ρ H d v):∀{x:List (κ×D)} {y:List (κ×V)},KVR K ρ H x y->KVR K ρ H (x.map λkv=>if kv.1=k then(kv.1,d)else kv) (y.map λkv=>if kv.1=k then(kv.1,v)else kv)
 | _,_,.nil=>.nil
 | (g,a) :: x,(g',b) :: y,.cons r t=>by
  obtain⟨r1,r2⟩:=r;dsimp only at r1 r2;subst r1;rw[BG,BG];refine .cons ?_ (KVR.repl k rd t)
  by_cases e:g=k
  ·rw[qX e,qX e];exact⟨rfl,rd⟩
  ·rw[qY e,qY e];exact⟨rfl,r2⟩
theorem KVR.put(k:κ)(rd:CH K ρ H d v)(h:KVR K ρ H x y):KVR K ρ H (CG x k d) (MM y k v):=by
 unfold CG MM;rw[KVR.any k h];split
 ·exact KVR.repl k rd h
 ·exact X7 h ⟨rfl,rd⟩
end
def fg:D->Option Key
 | .int i=>some (.inl i)
 | .str x=>some (.inr x)
 | _=>none
def N6:List D->Option (List Key)
 | []=>some []
 | d :: ds=>match fg d,N6 ds with
  | some k,some ks=>some (k :: ks)
  | _,_=>none
theorem RZ{K}{ρ}{H}{d}{v}{k}(r:CH K ρ H d v)(h:fg d=some k):v=kV k:=by
 cases r <;> first | (cases h;done) | (cases h;rfl)
theorem PM{K}{ρ}{H}:∀{ds:List D} {vs:List V} {ks:List Key},A0 K ρ H ds vs->N6 ds=some ks->vs=ks.map kV
 | _,_,_,.nil,h=>by cases h;rfl
 | _,_,_,.cons r t,h=>by
  unfold N6 at h;split at h
  ·rename_i k ks h1 h2
   cases h;rw[RZ r h1,PM t h2];rfl
  ·cases h
def MP(x y:D)(S:Sto):Option (Option D):=match x with
 | .ref n=>match S[n]? with
  | some (.dK f')=>match fg y with
   | some k=>some (Ai f' k)
   | none=>none
  | some (.dT f')=>match y with
   | .tup ds=>match N6 ds with
    | some ks=>some (Ai f' ks)
    | none=>none
   | _=>none
  | some (.fK f')=>match fg y with
   | some k=>some (Ai f' k)
   | none=>none
  | some (.fT f')=>match y with
   | .tup ds=>match N6 ds with
    | some ks=>some (Ai f' ks)
    | none=>none
   | _=>none
  | _=>none
 | _=>none
theorem WE{K}{ρ}{S}{H}{x y}{xv yv}{o}(s:CW K ρ S H)(rx:CH K ρ H x xv)(ry:CH K ρ H y yv)(h:MP x y S=some o) :
  ∃a o',xv=.ref a/\Pe H a yv o'/\(o=none->o'=none)/\∀d,o=some d->∃v,o'=some v/\CH K ρ H d v:=by
 unfold MP at h;split at h
 ·rename_i n
  cases rx with
  | @ref _ a hn=>
   split at h
   ·rename_i f' h1
    split at h
    ·rename_i k hk
     cases h;obtain⟨tx,e,r⟩:=s.ob n _ _ h1 hn;rw[RZ ry hk];obtain⟨v1,v2⟩:=KVR.val k r;exact⟨a,LK tx k,rfl,Pe.k e,v1,v2⟩
    ·cases h
   ·rename_i f' h1
    split at h
    ·rename_i ds
     split at h
     ·rename_i ks hk
      cases h;obtain⟨tx,e,r⟩:=s.ob n _ _ h1 hn
      cases ry with
      | tup b1 b2=>
       obtain⟨v1,v2⟩:=KVR.val ks r;rw[PM b2 hk]at b1;exact⟨a,LK tx ks,rfl,Pe.t e b1,v1,v2⟩
     ·cases h
    ·cases h
   ·rename_i f' h1
    split at h
    ·rename_i k hk
     cases h;obtain⟨ob,tx,e,r⟩:=s.ob n _ _ h1 hn;rw[RZ ry hk];obtain⟨v1,v2⟩:=KVR.val k r;exact⟨a,LK tx k,rfl,(.inl ⟨_,_,.inr ⟨ob,e⟩,rfl,rfl⟩),v1,v2⟩
    ·cases h
   ·rename_i f' h1
    split at h
    ·rename_i ds
     split at h
     ·rename_i ks hk
      cases h;obtain⟨ob,tx,e,r⟩:=s.ob n _ _ h1 hn
      cases ry with
      | tup b1 b2=>
       obtain⟨v1,v2⟩:=KVR.val ks r;rw[PM b2 hk]at b1;exact⟨a,LK tx ks,rfl,(.inr ⟨_,_,_,.inr ⟨ob,e⟩,rfl,b1,rfl⟩),v1,v2⟩
     ·cases h
    ·cases h
   ·cases h
 ·cases h
def S7(x y:D)(S:Sto):Res D:=match MP x y S with
 | some (some d)=>.ok d S
 | _=>.bad
def Nq(neg:Bool)(y x:D)(S:Sto):Res D:=match MP x y S with
 | some o=>.ok (.bl (if neg then !o.isSome else o.isSome)) S
 | none=>.bad
section
variable{X:Cx}{E:EW}{mo mi mv:ME}
theorem kh(hu:X.A.units+1 < FX)(ho:GE X E o mo)(hi:GE X E i mi)(hs:qH i:=by intro _ _;rfl):GE X E (.Subscript o i pos) (m2 S7 mo mi):=(j4 hu ho hi hs).imp λσ H Q h=>by
 refine(OE h:tOp (rD X.K S7) (gE X.K E mo) (gE X.K E mi) σ H Q) |> λt=>?_
 obtain⟨ρ,l,S,hl,hs,k⟩:=t;refine⟨ρ,l,S,hl,hs,k.imp λx S1 k ρ1 H1 u l1 s1 r1=>?_⟩;obtain⟨ρ2,l2,S2,vy,uS,k2⟩:=k ρ1 H1 u l1 s1 r1;refine⟨ρ2,l2,S2,vy,uS,k2.imp λy S3 k2 ρ3 H3 v l3 s3 r3=>?_⟩;obtain⟨ρ4,S4,x4,y4,d,S5,s4,r4,r5,hm,k4⟩:=k2 ρ3 H3 v l3 s3 r3;unfold S7 at hm;split at hm
 ·rename_i d' hd
  cases hm;obtain⟨a,o',rfl,g,_,g2⟩:=WE s4 r4 r5 hd;obtain⟨w',rfl,uT⟩:=g2 _ rfl;exact⟨a,w',rfl,g,k4 ρ4 H3 w' .refl s4 uT⟩
 ·cases hm
theorem jP{σ}{H}{Q}(h:gE X.K E (m2 (Nq false) mi mo) σ H Q):rP (gE X.K E mi) (gE X.K E mo) σ H Q:=by
 obtain⟨ρ,l,S,hl,hs,k⟩:=(OE h:tOp (rD X.K (Nq false)) (gE X.K E mi) (gE X.K E mo) σ H Q);refine⟨ρ,l,S,hl,hs,k.imp λx S1 k ρ1 H1 u l1 s1 r1=>?_⟩;obtain⟨ρ2,l2,S2,vy,uS,k2⟩:=k ρ1 H1 u l1 s1 r1;refine⟨ρ2,l2,S2,vy,uS,k2.imp λy S3 k2 ρ3 H3 v l3 s3 r3=>?_⟩;obtain⟨ρ4,S4,x4,y4,d,S5,s4,r4,r5,hm,k4⟩:=k2 ρ3 H3 v l3 s3 r3;unfold Nq at hm;split at hm
 ·rename_i o' hd
  cases hm;obtain⟨a,o2,rfl,g,g1,g2⟩:=WE s4 r5 r4 hd;refine⟨a,o2,rfl,g,?_⟩
  have:o2.isSome=o'.isSome:=by
   cases o' with
   | none=>rw[g1 rfl];rfl
   | some d=>obtain⟨w',rfl,_⟩:=g2 d rfl;rfl
  rw[this];exact k4 ρ4 H3 _ .refl s4 (.bl _)
 ·cases hm
theorem R9{σ}{H}{Q}(h:gE X.K E (m2 (Nq true) mi mo) σ H Q):Zq (gE X.K E mi) (gE X.K E mo) σ H Q:=by
 obtain⟨ρ,l,S,hl,hs,k⟩:=(OE h:tOp (rD X.K (Nq true)) (gE X.K E mi) (gE X.K E mo) σ H Q);refine⟨ρ,l,S,hl,hs,k.imp λx S1 k ρ1 H1 u l1 s1 r1=>?_⟩;obtain⟨ρ2,l2,S2,vy,uS,k2⟩:=k ρ1 H1 u l1 s1 r1;refine⟨ρ2,l2,S2,vy,uS,k2.imp λy S3 k2 ρ3 H3 v l3 s3 r3=>?_⟩;obtain⟨ρ4,S4,x4,y4,d,S5,s4,r4,r5,hm,k4⟩:=k2 ρ3 H3 v l3 s3 r3;unfold Nq at hm;split at hm
 ·rename_i o' hd
  cases hm;obtain⟨a,o2,rfl,g,g1,g2⟩:=WE s4 r5 r4 hd;refine⟨a,o2,rfl,g,?_⟩
  have:o2.isSome=o'.isSome:=by
   cases o' with
   | none=>rw[g1 rfl];rfl
   | some d=>obtain⟨w',rfl,_⟩:=g2 d rfl;rfl
  rw[this];exact k4 ρ4 H3 _ .refl s4 (.bl _)
 ·cases hm
theorem cH(hu:X.A.units+1 < FX)(hi:GE X E i mi)(ho:GE X E o mo)(h1:Cy .NotIn o=false:=by rfl):GE X E (.Compare i [.NotIn] [o] pos) (m2 (Nq true) mi mo):=(oP (UR hu hi ho) h1).imp λ_ _ _ h=>R9 h
theorem fS{K}{m}{σ}{H}{Q}(h:gT K E (mB m) σ H Q):gE K E m σ H λx H1=>∃c,x=.bl c/\Q c H1:=by
 obtain⟨ρ,l,S,hl,hs,hm⟩:=h;refine⟨ρ,l,S,hl,hs,hm.seq λd S1 hm ρ1 H1 x l1 s1 r1=>?_⟩
 cases d <;> first | exact hm.elim | skip
 cases r1;exact⟨_,rfl,hm ρ1 H1 l1 s1⟩
theorem pN(hu:X.A.units+1 < FX)(hi:GE X E i mi)(ho:GE X E o mo)(h1:Cy .In o=false:=by rfl):GT X E (.Compare i [.In] [o] pos) (mB (m2 (Nq false) mi mo)):=(eJ (oR hu hi ho) h1).imp λ_ _ _ h=>jP (fS h)
theorem cF(hu:X.A.units+1 < FX)(hi:GE X E i mi)(ho:GE X E o mo)(h1:Cy .NotIn o=false:=by rfl):GT X E (.Compare i [.NotIn] [o] pos) (mB (m2 (Nq true) mi mo)):=(eJ (UR hu hi ho) h1).imp λ_ _ _ h=>R9 (fS h)
def Jc:ME:=λ_ S=>.ok (.ref S.length) (S++[.dK []])
def M2:ME:=λ_ S=>.ok (.ref S.length) (S++[.dT []])
theorem M6:GE X E (.Dict [] [] pos) Jc:=(ed (X:=X) (pos:=pos)).imp<|by
 rintro σ H Q ⟨ρ,l,S,hl,hs,k⟩ p hp
 obtain⟨s2,l2,at2⟩:=hs.alloc (ho:=.dK []) (o:=.dK []) hp ⟨[],CJ,.nil⟩;exact k _ _ _ l2 s2 (.ref at2)
theorem PV:GE X E (.Dict [] [] pos) M2:=(eZ (X:=X) (pos:=pos)).imp<|by
 rintro σ H Q ⟨ρ,l,S,hl,hs,k⟩ p hp
 obtain⟨s2,l2,at2⟩:=hs.alloc (ho:=.dT []) (o:=.dT []) hp ⟨[],CJ,.nil⟩;exact k _ _ _ l2 s2 (.ref at2)
def QS(x y v:D)(S:Sto):Option Sto:=match x with
 | .ref n=>match S[n]? with
  | some (.dK f')=>match fg y with
   | some k=>if f'.length < sizeLine then some (S.set n (.dK (CG f' k v)))else none
   | none=>none
  | some (.dT f')=>match y with
   | .tup ds=>match N6 ds with
    | some ks=>if f'.length < sizeLine then some (S.set n (.dT (CG f' ks v)))else none
    | none=>none
   | _=>none
  | _=>none
 | _=>none
def Cv(mo mi mv:ME):MS:=λe S=>(mv e S).lift e λv S1=>(mo e S1).lift e λx S2=>(mi e S2).lift e λy S3=>match QS x y v S3 with
 | some S4=>.ok (.nx e) S4
 | none=>.bad
theorem Gw(hu:X.A.units+1 < FX)(ho:GE X E o mo)(hi:GE X E i mi)(hv:GE X E value mv)(hs:G6 value (some (.Subscript o i pos')) pos.line X.env=pure false:=by rfl):GS X E (.Assign [.Subscript o i pos'] value pos) (Cv mo mi mv):=(jn hu ho hi hv hs).imp<|by
 rintro D σ H ⟨ρ,l,S,hl,hs,hm⟩
 refine⟨ρ,l,S,hl,hs,hm.lift hl .refl λv S1 hm ρ1 H1 vv l1 s1 r1=>⟨ρ1,l,S1,hl.mono l1,s1,(hm.later l1).lift (hl.mono l1) l1 λx S2 hm ρ2 H2 xv l2 s2 r2=>⟨ρ2,l,S2,hl.mono (l1.trans l2),s2,(hm.later l2).lift (hl.mono (l1.trans l2)) (l1.trans l2) λy S3 hm ρ3 H3 yv l3 s3 r3=>?_⟩⟩⟩;have r1':=r1.mono (l2.trans l3);have r2':=r2.mono l3;have hl3:=hl.mono (l1.trans (l2.trans l3));split at hm
 ·rename_i S4 hp
  unfold QS at hp;split at hp
  ·rename_i n
   cases r2' with
   | @ref _ a hn=>
    split at hp
    ·rename_i f' h4
     split at hp
     ·rename_i ky hk
      split at hp
      ·rename_i hz
       cases hp;obtain⟨tx,e,r⟩:=s3.ob n _ _ h4 hn;rw[RZ r3 hk];have le:Le X.K ρ3 H3 ρ3 (upd H3 a (.dK (MM tx ky vv))):=Le.write hn (by rw[e];trivial);obtain⟨s5,l5⟩:=s3.write (ho:=.dK (MM tx ky vv)) (o:=.dK (CG f' ky v)) hn ⟨_,CJ,(KVR.put ky r1' r).mono le⟩ le;exact⟨a,_,rfl,X3.k e (by rw[<-KVR.length r];exact hz),hm ρ3 _ σ (l1.trans (l2.trans (l3.trans l5))) s5 (hl3.mono l5)⟩
      ·cases hp
     ·cases hp
    ·rename_i f' h4
     split at hp
     ·rename_i ds
      split at hp
      ·rename_i ks hk
       split at hp
       ·rename_i hz
        cases hp;obtain⟨tx,e,r⟩:=s3.ob n _ _ h4 hn
        cases r3 with
        | tup b1 b2=>
         rw[PM b2 hk]at b1;have le:Le X.K ρ3 H3 ρ3 (upd H3 a (.dT (MM tx ks vv))):=Le.write hn (by rw[e];trivial);obtain⟨s5,l5⟩:=s3.write (ho:=.dT (MM tx ks vv)) (o:=.dT (CG f' ks v)) hn ⟨_,CJ,(KVR.put ks r1' r).mono le⟩ le;exact⟨a,_,rfl,X3.t e b1 (by rw[<-KVR.length r];exact hz),hm ρ3 _ σ (l1.trans (l2.trans (l3.trans l5))) s5 (hl3.mono l5)⟩
       ·cases hp
      ·cases hp
     ·cases hp
    ·cases hp
  ·cases hp
 ·exact hm.elim
end
section
variable{X:Cx}{E:EW}{a b c:Expr}{pos:Pos}
theorem bN{K}{f g}{σ}{H}{Q}(h:gE K E (m3 f g ma mb mc) σ H Q):dm (rD K f) (rD K g) (gE K E ma) (gE K E mb) (gE K E mc) σ H Q:=by
 obtain⟨ρ,l,S,hl,hs,hm⟩:=h;refine⟨ρ,l,S,hl,hs,hm.seq λx S1 hm ρ1 H1 u l1 s1 r1=>⟨ρ1,l,S1,hl.mono l1,s1,(hm.later l1).seq λy S2 hm ρ2 H2 v l2 s2 r2=>?_⟩⟩
 cases hf:f x y S2 with
 | bad=>rw[hf]at hm;exact hm.elim
 | err _ _=>rw[hf]at hm;exact hm.elim
 | ok z S3=>
  rw[hf]at hm;dsimp only[okR,Res.bind]at hm;refine⟨ρ2,S2,x,y,z,S3,s2,r1.mono l2,r2,hf,λρ3 H3 w l3 s3 r3=>?_⟩
  cases z with
  | bl k=>
   cases r3;refine⟨k,rfl,?_⟩
   cases k with
   | true=>
    rw[qX rfl];refine⟨ρ3,l,S3,hl.mono (l1.trans (l2.trans l3)),s3,Cg.seq (hm.later (l2.trans l3)) λw S4 hm ρ4 H4 wv l4 s4 r4=>?_⟩;obtain⟨d,S',e,k⟩:=hm.okR;exact⟨ρ4,S4,y,w,d,S',s4,r2.mono (l3.trans l4),r4,e,λρ' H' z l' s' r'=>k ρ' H' z (l1.trans (l2.trans (l3.trans (l4.trans l')))) s' r'⟩
   | false=>rw[qY AK];exact hm ρ3 H3 _ (l1.trans (l2.trans l3)) s3 (.bl false)
  | _=>exact hm.elim
theorem Ss(ho:OpR X (Ch op) (rD X.K f))(vS:OpR X (Ch op') (rD X.K g))(ha:GE X E a ma)(hb:GE X E b mb)(hc:GE X E c mc)
  (hm:lastMarks [op,op'] [b,c]=false:=by with_unfolding_all rfl):GT X E (.Compare a [op,op'] [b,c] pos) (mB (m3 f g ma mb mc)):=(eM ho vS ha hb hc hm).imp λ_ _ _ h=>bN (fS h)
def Y4(m:ME):ME:=λe S=>(m e S).bind λd S1=>match d with
 | .int i=>.ok (.int (-i)) S1
 | _=>.bad
theorem V9(h:GE X E a ma):GE X E (.UnaryOp .USub a pos) (Y4 ma):=(sD nG h).imp<|by
 rintro σ H Q ⟨ρ,l,S,hl,hs,hm⟩
 refine⟨ρ,l,S,hl,hs,hm.seq λd S1 hm ρ1 H1 x l1 s1 r1=>?_⟩
 cases d <;> first | exact hm.elim | skip
 cases r1;exact⟨_,rfl,hm ρ1 H1 _ l1 s1 (.int _)⟩
end
abbrev MO:=Lo->Sto->Res (Option Int)
def gO(K:AG)(E:EW)(m:MO):TO:=λσ H Q=>∃ρ e S,Gs K ρ H e σ/\CW K ρ S H/\Cg K (λc=>E c σ) ρ H (m e S) λo S'=>∀ρ' H',Le K ρ H ρ' H'->CW K ρ' S' H'->Q o H'
abbrev GO(X:Cx)(E:EW)(e:Option Expr)(m:MO):Prop:=PO X e (gO X.K E m)
def XZ:MO:=λ_ S=>.ok none S
def Sa(m:ME):MO:=λe S=>(m e S).bind λd S1=>match d with
 | .int i=>.ok (some i) S1
 | _=>.bad
def Nr{α:Type}(xs:List α)(lo hi:Option Int):List α:=(xs.drop (HT.sIx xs.length 0 lo)).take (HT.sIx xs.length xs.length hi - HT.sIx xs.length 0 lo)
section
variable{X:Cx}{E:EW}{e:Expr}{lo hi:Option Expr}{m:ME}
theorem PO.imp(h:PO X o t)(i:∀σ H Q,t' σ H Q->t σ H Q):PO X o t':=λζ s σ H Q I q=>h ζ s σ H Q I (i σ H Q q)
theorem V7:GO X E none XZ:=PO.imp jr λσ H Q ⟨ρ,l,S,hl,hs,hm⟩=>hm ρ H .refl hs
theorem Rb(h:GE X E e m):GO X E (some e) (Sa m):=PO.imp (jq h)<|by
 rintro σ H Q ⟨ρ,l,S,hl,hs,hm⟩
 refine⟨ρ,l,S,hl,hs,hm.seq λd S1 hm ρ1 H1 x l1 s1 r1=>?_⟩
 cases d <;> first | exact hm.elim | skip
 cases r1;exact⟨_,rfl,hm ρ1 H1 l1 s1⟩
theorem gp{K}{ρ}{H}{ds}{vs}(r:A0 K ρ H ds vs)(lo hi:Option Int):A0 K ρ H (Nr ds lo hi) (ZM vs lo hi):=by
 unfold Nr ZM;rw[r.length];exact(r.drop _).take _
end
section
variable{X:Cx}{E:EW}{e:Expr}{p pos:Pos}{m:ME}
def Gz(m:ME):ME:=λe S=>(m e S).bind λd S1=>match Ga d S1 with
 | some ds=>.ok (.tup ds) S1
 | none=>.bad
theorem HS(hg:Gl X "tuple") (hm:X.mg "tuple" = none) (h:GE X E e m) (he:Ag [e] X.env=(false,Co e X.env) :: Ag [] X.env:=by rfl):GE X E (.Call (.Name "tuple" p) [e] [] pos) (Gz m):=
 (QA UA hg hm tt (HK h JY he) (by decide) (by decide) he rfl).imp<|by
 rintro σ H Q ⟨ρ,l,S,hl,hs,hm⟩
 refine⟨ρ,l,S,hl,hs,hm.seq λd S1 hm ρ1 H1 x l1 s1 r1=>?_⟩
 cases hq:Ga d S1 with
 | none=>rw[hq]at hm;exact hm.elim
 | some ds=>
  rw[hq]at hm
  have yL:∀a vs,x=.ref a->SqL X.K H1 a vs->A0 X.K ρ1 H1 ds vs->∃p ys,[x]=[.ref p]/\((SqL X.K H1 p ys/\∀l,H1 l=none->Q (.ref l) (upd H1 l (.tup ys)))∨(SqT X.K H1 p ys/\Q (.ref p) H1)):=λa vs e sq rr=>by
   subst e;refine⟨a,vs,rfl,.inl ⟨sq,λq hq=>?_⟩⟩;obtain⟨s2,l2⟩:=Iu (ho:=.tup vs) s1 hq;exact hm _ _ _ (l1.trans l2) s2 (.tup CJ (rr.mono l2))
  cases r1 with
  | @tup _ a vs h1 h2=>cases hq;exact⟨a,vs,rfl,.inr ⟨.inl (.inl h1),hm ρ1 H1 _ l1 s1 (.tup h1 h2)⟩⟩
  | @fro _ a vs h1 h2=>cases hq;exact yL a vs rfl h1.sq h2
  | @ref n a hn=>
   obtain⟨o,ho,ro⟩:=s1.there hn;unfold Ga at hq;simp only[ho]at hq
   cases o with
   | lst es=>cases hq;obtain⟨vs,e,rr⟩:=ro;exact yL a vs rfl (.inl (.inl e)) rr
   | _=>cases hq
  | _=>cases hq
variable{o:Expr}
def atL(d:D)(S:Sto):Option (Nat×List D):=match d with
 | .ref n=>match S[n]? with
  | some (.lst xs)=>some (n,xs)
  | _=>none
 | _=>none
theorem TH{K}{ρ}{S}{H}{d}{x}{n}{xs}(s:CW K ρ S H)(r:CH K ρ H d x)(h:atL d S=some (n,xs)):d=.ref n/\S[n]?=some (.lst xs)/\∃a vs,x=.ref a/\ρ[n]?=some a/\H a=some (.lst vs)/\A0 K ρ H xs vs:=by
 unfold atL at h;split at h
 ·split at h
  ·rename_i ds hd
   cases h;exact⟨rfl,hd,Zv s r hd⟩
  ·cases h
 ·cases h
theorem Zz{K}{ρ}{S}{H}{n}{a}{vs ws}{ys}(s:CW K ρ S H)(hn:ρ[n]?=some a)(e:H a=some (.lst vs))(r:A0 K ρ H ys ws) :
  CW K ρ (S.set n (.lst ys)) (upd H a (.lst ws))/\Le K ρ H ρ (upd H a (.lst ws)):=by
 have le:Le K ρ H ρ (upd H a (.lst ws)):=Le.write hn (by rw[e];trivial);exact s.write (ho:=.lst ws) (o:=.lst ys) hn ⟨_,CJ,r.mono le⟩ le
end
section
variable{X:Cx}
def Ow:ZLi->Int:=λns=>Ri (λi=>ns.getD i 0) ns.length
theorem LZ:∀(n:Nat),(∀i,i < n->f i=g i)->Ri f n=Ri g n
 | 0,_=>rfl
 | n+1,h=>by
  show Ri f n+f n=Ri g n+g n;rw[LZ n λi hi=>h i (by lia),h n (by lia)]
theorem Qj(x:Int)(f:Nat->Int):∀n:Nat,Ri (λi=>match i with | 0=>x | j+1=>f j) (n+1)=x+Ri f n
 | 0=>by show(0:Int)+x=x+0;lia
 | n+1=>by
  show Ri _ (n+1)+f n=x+(Ri f n+f n);rw[Qj x f n]
  lia
theorem Vd:∀ns:ZLi,Ow ns=ns.sum
 | []=>rfl
 | n :: ns=>by
  have:=Vd ns;unfold Ow at this ⊢;rw[List.sum_cons,<-this,BB,<-Qj]
  refine LZ _ λi hi=>?_
  cases i <;> simp
theorem Tz{ns:ZLi}{i':List AJ}(r:B0 (ns.map V.int) i'):∃xs:Array (Int×Tok),i'.toArray=intItems xs/\xs.size=ns.length/\∀i,i < ns.length->numAt xs i=ns.getD i 0:=by
 induction ns generalizing i' with
 | nil=>
  cases r;exact⟨#[],by simp[intItems],rfl,λi hi=>zX hi (by simp)⟩
 | cons n ns ih=>
  cases r with
  | cons r1 r2=>
   obtain⟨xs,e1,e2,e3⟩:=ih r2;obtain⟨t,rfl⟩:=r1;refine⟨#[(n,t)]++xs,?_,by simp[e2];lia,λi hi=>?_⟩
   ·unfold intItems at e1 ⊢
    rw[Array.map_append,<-e1];simp
   ·cases i with
    | zero=>
     unfold numAt;rw[Array.getElem?_append_left (by simp)];simp
    | succ i=>
     have:=e3 i (by simpa using hi);unfold numAt at this ⊢;rw[Array.getElem?_append_right (by simp)];simpa using this
def rk(K:AG)(f:ZLi->Int):List V->Hp->VK->Prop:=λxs H Q=>∃p ns,xs=[.ref p]/\SqL K H p (ns.map V.int)/\Q (.int (f ns)) H
theorem cT(hc:X.calm=true):K5 X (.builtin "sum") (rk X.K Ow):=by
 intro ζ s σ H xs us Q I r h;obtain⟨p,ns,rfl,hq,q⟩:=h;obtain⟨u,rfl,rx⟩:=vals1 r;cases rx;obtain⟨i',r',pl,hz⟩:=I.list hq;obtain⟨xs,e1,e2,e3⟩:=Tz r'
 refine sum_intListG (xs:=xs) (I.ok.hd hc) (by rw[<-e1];exact pl.isList) λh' tk t' kp=>⟨.int _,H,I.kept kp,⟨t',rfl⟩,?_⟩
 rw[e2,LZ _ e3];exact q
def Je:List D->Option ZLi
 | []=>some []
 | .int b :: ds=>(Je ds).map (b :: ·)
 | _ :: _=>none
theorem PP:∀{ds:List D} {ns:ZLi},Je ds=some ns->ds=ns.map D.int
 | [],_,h=>by cases h;rfl
 | .int b :: ds,ns,h=>by
  unfold Je at h
  cases hq:Je ds with
  | none=>rw[hq]at h;cases h
  | some cs=>rw[hq]at h;cases h;rw[PP hq];rfl
 | .non :: _,_,h=>by cases h
 | .bl _ :: _,_,h=>by cases h
 | .str _ :: _,_,h=>by cases h
 | .tup _ :: _,_,h=>by cases h
 | .fro _ :: _,_,h=>by cases h
 | .ref _ :: _,_,h=>by cases h
 | .exc _ :: _,_,h=>by cases h
def Xg(m:ME):ME:=λe S=>(m e S).bind λd S1=>match No d S1 with
 | some ds=>match Je ds with
  | some ns=>.ok (.int (Ow ns)) S1
  | none=>.bad
 | none=>.bad
theorem ZG(hc:X.calm=true)(hg:Gl X "sum") (hm:X.mg "sum" = none) (h:GE X E e m) (he:Ag [e] X.env=(false,Co e X.env) :: Ag [] X.env:=by rfl):GE X E (.Call (.Name "sum" p) [e] [] pos) (Xg m):=
 (O4 (cT hc) hg hm tu (HK h JY he) (by decide) (by decide) he rfl).imp<|by
 rintro σ H Q ⟨ρ,l,S,hl,hs,hm⟩
 refine⟨ρ,l,S,hl,hs,hm.seq λd S1 hm ρ1 H1 x l1 s1 r1=>?_⟩
 cases hq:No d S1 with
 | none=>rw[hq]at hm;exact hm.elim
 | some ds=>
  rw[hq]at hm;dsimp only at hm
  cases hi:Je ds with
  | none=>rw[hi]at hm;exact hm.elim
  | some ns=>
   rw[hi]at hm;obtain⟨p,xs,rfl,rr,sq⟩:=J9 s1 r1 hq;rw[PP hi]at rr;rw[rr.ints]at sq;exact⟨p,ns,rfl,sq,hm ρ1 H1 _ l1 s1 (.int _)⟩
end
def JZ{α:Type}(r r':Res α):Res α:=match r with
 | .bad=>r'
 | r=>r
theorem br{α:Type}(r r':Res α):JZ r r'=r∨JZ r r'=r':=by cases r <;> simp[JZ]
def op2(f g:D->D->Sto->Res D):D->D->Sto->Res D:=λx y S=>JZ (f x y S) (g x y S)
theorem Z8(f g:D->D->Sto->Res D)(ma mb:ME)(l:Lo)(S:Sto):m2 (op2 f g) ma mb l S=m2 f ma mb l S∨m2 (op2 f g) ma mb l S=m2 g ma mb l S:=by
 unfold m2
 cases ma l S with
 | ok x S1=>
  dsimp only[Res.bind]
  cases mb l S1 with
  | ok y S2=>
   dsimp only[Res.bind];unfold op2
   rcases br (f x y S2) (g x y S2)with e | e <;> rw[e] <;> simp
  | err c S2=>exact .inl rfl
  | bad=>exact .inl rfl
 | err c S1=>exact .inl rfl
 | bad=>exact .inl rfl
section
theorem gP{m m1 m2}(h1:GE X E e m1)(h2:GE X E e m2)(h:∀l S,m l S=m1 l S∨m l S=m2 l S):GE X E e m:=by
 rintro ζ s σ H Q I ⟨ρ,l,S,hl,hs,a⟩
 rcases h l S with q | q
 ·rw[q]at a;exact h1 ζ s σ H Q I ⟨ρ,l,S,hl,hs,a⟩
 ·rw[q]at a;exact h2 ζ s σ H Q I ⟨ρ,l,S,hl,hs,a⟩
theorem gJ(h1:GT X E e t1)(h2:GT X E e t2)(h:∀l S,t l S=t1 l S∨t l S=t2 l S):GT X E e t:=by
 rintro ζ s σ H Q I ⟨ρ,l,S,hl,hs,a⟩
 rcases h l S with q | q
 ·rw[q]at a;exact h1 ζ s σ H Q I ⟨ρ,l,S,hl,hs,a⟩
 ·rw[q]at a;exact h2 ζ s σ H Q I ⟨ρ,l,S,hl,hs,a⟩
theorem pU(h1:GI X E tg e t1)(h2:GI X E tg e t2)(h:∀l S,t l S=t1 l S∨t l S=t2 l S):GI X E tg e t:=by
 rintro ζ s σ H R I ⟨ρ,l,S,hl,hs,a⟩
 rcases h l S with q | q
 ·rw[q]at a;exact h1 ζ s σ H R I ⟨ρ,l,S,hl,hs,a⟩
 ·rw[q]at a;exact h2 ζ s σ H R I ⟨ρ,l,S,hl,hs,a⟩
theorem lz{m m1 m2}(h:∀l S,m l S=m1 l S∨m l S=m2 l S)(l:Lo)(S:Sto):mB m l S=mB m1 l S∨mB m l S=mB m2 l S:=by
 unfold mB
 rcases h l S with q | q <;> rw[q] <;> simp
abbrev inA(neg:Bool):=op2 (inD neg) (Nq neg)
theorem gN(hu:X.A.units+64 < FX)(hi:GE X E i mi)(ho:GE X E o mo)(h1:Cy .NotIn o=false:=by with_unfolding_all rfl):GE X E (.Compare i [.NotIn] [o] pos) (m2 (inA true) mi mo):=
 gP (ZH (XX hu) hi ho h1) (cH (by lia) hi ho h1) λ_ _=>Z8 _ _ _ _ _ _
theorem Sr(hu:X.A.units+64 < FX)(hi:GE X E i mi)(ho:GE X E o mo)(h1:Cy .In o=false:=by with_unfolding_all rfl):GT X E (.Compare i [.In] [o] pos) (mB (m2 (inA false) mi mo)):=
 gJ (Ec (sS hu) hi ho h1) (pN (by lia) hi ho h1) (lz λ_ _=>Z8 _ _ _ _ _ _)
theorem Go(hu:X.A.units+64 < FX)(hi:GE X E i mi)(ho:GE X E o mo)(h1:Cy .NotIn o=false:=by with_unfolding_all rfl):GT X E (.Compare i [.NotIn] [o] pos) (mB (m2 (inA true) mi mo)):=
 gJ (Ec (XX hu) hi ho h1) (cF (by lia) hi ho h1) (lz λ_ _=>Z8 _ _ _ _ _ _)
abbrev ixA:=op2 ixD S7
theorem Cm(hu:X.A.units+64 < FX)(ho:GE X E o mo)(hi:GE X E i mi)(hs:WQ i:=by intro _ _;rfl):GE X E (.Subscript o i pos) (m2 ixA mo mi):=
 gP (tJ sQ ho hi hs) (kh (by lia) ho hi hs) λ_ _=>Z8 _ _ _ _ _ _
def Fm(d:D):QX:=match d with
 | .tup ds=>Hm ds
 | d=>Qg d
def D1(m:ME):MI:=λe S=>(m e S).bind λd S1=>match Fm d S1 with
 | some _=>.ok (Fm d) S1
 | none=>.bad
theorem DA(h:GE X E e m):GI X E tg e (D1 m):=pU (pT h) (pR h) λl S=>by
 unfold D1 tD mF
 cases m l S with
 | ok d S1=>
  dsimp only[Res.bind]
  cases d <;> first | exact .inl rfl | exact .inr rfl
 | err c S1=>exact .inl rfl
 | bad=>exact .inl rfl
def KO(m:ME):ME:=λe S=>(m e S).bind λd S1=>match Ga d S1 with
 | some ds=>.ok (.int ds.length) S1
 | none=>.bad
theorem Hz(hg:Gl X "len") (hm:X.mg "len" = none) (h:GE X E e m) (he:Ag [e] X.env=(false,Co e X.env) :: Ag [] X.env:=by rfl):GE X E (.Call (.Name "len" p) [e] [] pos) (KO m):=
 (kf WK nY hg hm PySem.boot_len (mH h) (by decide) (by decide) he).imp λσ H Q ⟨ρ,l,S,hl,hs,a⟩=>⟨ρ,l,S,hl,hs,by
  have q:mQ sg (Xh m) l S=KO m l S:=by
   unfold mQ Xh KO
   cases m l S with
   | ok d S1=>
    dsimp only[Res.bind]
    cases Ga d S1 <;> rfl
   | err c S1=>rfl
   | bad=>rfl
  rw[q];exact a⟩
theorem Rc(hc:X.calm=true)(hg:Gl X "min") (hm:X.mg "min" = none) (h:GA X E [a,b] ml) (he:Ag [a,b] X.env=(false,Co a X.env) :: Ag [b] X.env:=by rfl) (uz:(E6 pos (Ag [b] X.env)).any (·.1)=false:=by rfl):GE X E (.Call (.Name "min" p) [a,b] [] pos) (mQ N4 ml):=
 aO (cV hc) lO hg hm tz h (by decide) (by decide) he uz
theorem aM(hc:X.calm=true)(hg:Gl X "max") (hm:X.mg "max" = none) (h:GA X E [a,b] ml) (he:Ag [a,b] X.env=(false,Co a X.env) :: Ag [b] X.env:=by rfl) (uz:(E6 pos (Ag [b] X.env)).any (·.1)=false:=by rfl):GE X E (.Call (.Name "max" p) [a,b] [] pos) (mQ Qk ml):=
 aO (cW hc) lP hg hm t4 h (by decide) (by decide) he uz
theorem kg(hg:Gl X "list") (hm:X.mg "list" = none) (h:GE X E e m) (he:Ag [e] X.env=(false,Co e X.env) :: Ag [] X.env:=by rfl):GE X E (.Call (.Name "list" p) [e] [] pos) (Db (mN aD (Xh m))):=
 CM (ka WJ jW hg hm t5 (mH h) (by decide) (by decide) he)
end
def Nb(mo ma:ME):ME:=λe S=>(mo e S).bind λd S1=>match atL d S1 with
 | some (n,_)=>(ma e S1).bind λy S2=>match atL d S2,atL y S2 with
  | some (_,xs),some (k,ys)=>if k≠n/\xs.length+ys.length<=sizeLine then .ok .non (S2.set n (.lst (xs++ys)))else .bad
  | _,_=>.bad
 | none=>.bad
section
theorem Ue(ho:GE X E o mo)(ha:GE X E e ma)(uE:GU o "extend" X.env (Co o X.env)=Co o X.env:=by rfl)
  (vU:((E6 ui (Ag [e] X.env)).all (λx=>!x.1)&&(YH ui (Pm [] X.env)).all (λx=>x.1.isSome)
    &&decide ([e].length+([]:List X8).length+(if ([]:List X8).isEmpty then 0 else 1) < 30))=true:=by rfl)
  (uF:(apos.endLine==ui.line)=true:=by rfl) (hs:Ag [e] X.env=(false,Co e X.env) :: Ag [] X.env:=by rfl) (uO:(E6 ui (Ag [] X.env)).any (·.1)=false:=by rfl) :
  GE X E (.Call (.Attribute o "extend" apos) [e] [] ui) (Nb mo ma):=(lv UE PySem.F.slot_list_extend PySem.F.type_list_extend bw ho (HK ha JY hs) uE vU uF hs uO).imp<|by
 rintro σ H Q ⟨ρ,l,S,hl,hs,hm⟩
 refine⟨ρ,l,S,hl,hs,hm.seq λd S1 hm ρ1 H1 v l1 s1 r1=>?_⟩
 cases hq:atL d S1 with
 | none=>rw[hq]at hm;exact hm.elim
 | some z=>
  obtain⟨n,xs0⟩:=z;rw[hq]at hm;dsimp only at hm;obtain⟨rfl,h0,a,vs0,rfl,hn,e0,_⟩:=TH s1 r1 hq;refine⟨.inl ⟨rfl,vs0,.inl (.inl e0)⟩,ρ1,l,S1,hl.mono l1,s1,(hm.later l1).seq λy S2 hm ρ2 H2 u l2 s2 r2=>?_⟩;split at hm
  ·rename_i n' xs k ys h2 h3
   split at hm
   ·rename_i hz
    obtain⟨e',h4,a',vs,ea,vd,e2,rr⟩:=TH s2 (r1.mono l2) h2;cases e';cases ea;obtain⟨ey,h5,p,ws,rfl,hk,e3,uT⟩:=TH s2 r2 h3;obtain⟨s3,l3⟩:=Zz s2 vd e2 (rr.append uT);exact⟨a,p,vs,ws,rfl,rfl,e2,e3,by rw[<-rr.length,<-uT.length];exact hz.2,hm ρ2 _ _ (l1.trans (l2.trans l3)) s3 .non⟩
   ·exact hm.elim
  ·exact hm.elim
end
def i4(sc:TY)(x:Str):Bool:=decide (sc.names.lookup x=some .local)||decide (sc.names.lookup x=some .cell)||decide (sc.names.lookup x=some .free)
def gr(X:Cx)(scope:TY)(own N':List Str):Bool:=
 decide (scope.kind=.function)&&scope.names.all (λy=>!decide (y.2=.local)||decide (scope.names.lookup y.1=some .local)) &&
 scope.names.all (λy=>!decide (y.2=.free)||decide (X.env.kindOf y.1=some .cell)||decide (X.env.kindOf y.1=some .free))&&decide (N'.length=own.length+X.N.length) &&
 ((N'.drop own.length).zip X.N).all (λp=>!i4 (Kh scope X.env) p.1||(decide (p.1=p.2)&&i4 X.env.scope p.1&&(decide ((Kh scope X.env).names.lookup p.1=some .cell)||decide ((Kh scope X.env).names.lookup p.1=some .free))&&!decide (X.env.kindOf p.1=some .local)&&!scope.names.any (λz=>decide (z=(p.1,DK)))&&scope.names.any (λz=>decide (z=(p.1,Gc))))) &&
 (Kh scope X.env).names.all (λy=>(!decide (y.2=.cell)&&!decide (y.2=.free))||scope.names.any (λz=>decide (z=(y.1,Gc)))||scope.names.any (λz=>decide (z=(y.1,DK))))
theorem Ws:i4 sc x=true↔Vis sc x:=by
 unfold i4 Vis;simp[or_assoc]
theorem DB(h:gr X scope own N'=true):OY X scope own N':=by
 unfold gr at h;simp only[DJ]at h;obtain⟨⟨⟨⟨⟨h1,h3⟩,h4⟩,h5⟩,h6⟩,h7⟩:=h;rw[MD]at h3 h4 h6 h7;refine⟨of_decide_eq_true h1,λy hy e=>?_,λy hy e=>?_,of_decide_eq_true h5,λi x e v=>?_,λx hx=>?_⟩
 ·have:=h3 y hy
  simpa[e]using this
 ·have:=h4 y hy
  simpa[e]using this
 ·have hlen:=of_decide_eq_true h5
  have hi:own.length+i < N'.length:=(AE.mp e).1
  have hx:i < X.N.length:=by lia
  have hm:(x,X.N[i])∈(N'.drop own.length).zip X.N:=by
   rw[List.mem_iff_getElem?];refine⟨i,?_⟩;rw[List.getElem?_zip_eq_some];exact⟨by rw[Jv];exact e,by simp[hx]⟩
  have:=h6 _ hm;rw[Ws.mpr v]at this;simp only[mW,mX,DJ,JH,decide_eq_true_eq,Bool.not_eq_true',decide_eq_false_iff_not]at this;obtain⟨⟨⟨⟨⟨z1,z2⟩,z3⟩,z4⟩,z5⟩,z6⟩:=this;refine⟨⟨by rw[z1];simp[hx],Ws.mp z2,z3,z4⟩,λq=>?_,?_⟩
  ·rw[cz]at z5
   exact z5 _ q (wX rfl)
  ·obtain⟨z,hz,e⟩:=Ge.mp z6
   rw[of_decide_eq_true e]at hz;exact hz
 ·have key:∀k,(Kh scope X.env).names.lookup x=some k->(k=.cell∨k=.free)->(x,Gc)∈scope.names∨(x,DK)∈scope.names:=λk e hk=>by
   have:=h7 _ (D7 e)
   rcases hk with rfl | rfl
   ·simpa using this
   ·simpa using this
  rcases hx with e | e
  ·exact key _ e (.inl rfl)
  ·exact key _ e (.inr rfl)
structure Dfn(K:AG)(mg:Str->Option AJ)(x qual:Str)(st:DS)(ps:List Str) where
 f:Ab
 fd:LG
 F:Fun K x qual st f fd
 b:Binds K fd ps []
 m:mg x=some (.ref f)
theorem Dfn.kp{K}{mg}{x qual}{st}{ps}(d:Dfn K mg x qual st ps):Fe K (.ref d.f)=true:=d.F.kp
structure Mtd(K:AG)(x qual:Str)(st:DS)(ps:List Str) where
 f:Ab
 fd:LG
 F:Fun K x qual st f fd
 b:Binds K fd ps []
structure Own(K:AG)(mg:Str->Option AJ)(x:Str)(C f:Ab):Prop where
 cl:Cls K C
 mk':Mk K C f
 m:mg x=some (.ref C)
abbrev wN:Nat:=1000000
end L2
namespace Srt
open PySem PyProof.Rows
structure Ord(U:BV->Prop)(lt:BV->BV->Bool):Prop where
 asym:∀x y,U x->U y->lt x y=true->lt y x=false
 ntr:∀x y z,U x->U y->U z->lt y x=false->lt z y=false->lt z x=false
theorem Ord.irr(o:Ord U lt)(h:U x):lt x x=false:=by
 cases e:lt x x with
 | false=>rfl
 | true=>exact(o.asym x x h h e).symm.trans e |>.symm▸rfl
def ix(xs:Array BV)(i:Nat):BV:=xs.getD i (.none,.none)
theorem Kx(h:xs[i]?=ys[j]?):ix xs i=ix ys j:=by
 unfold ix;rw[FZ,FZ,h]
theorem D9(h:i < xs.size):xs[i]?=some (ix xs i):=by
 unfold ix;rw[FZ,getElem?_pos xs i h];rfl
theorem cA(hs:src < xs.size)(hd:d<=src)(k:Nat) :
  ix (mR xs src d) k=if k=src - d then ix xs src else if src - d < k/\k<=src then ix xs (k - 1)else ix xs k:=by
 have e:=getElem?_bubble hs d hd k;split
 ·rename_i h;rw[qX h]at e;exact Kx e
 ·rename_i h
  rw[qY h]at e;split
  ·rename_i h2;rw[qX h2]at e;exact Kx e
  ·rename_i h2;rw[qY h2]at e;exact Kx e
theorem Ex(hj:j<=xs.size)(k:Nat) :
  ix (LC xs i j ((j - i) / 2)) k=if i<=k/\k < j then ix xs (i+j - 1 - k)else ix xs k:=by
 have e:=getElem?_mirror_all (i:=i) hj k;split
 ·rename_i h;rw[qX h]at e;exact Kx e
 ·rename_i h;rw[qY h]at e;exact Kx e
section
def MH(prog:Bs)(w:CV)(A:Cj)(s:AS)(a₀:Array BV)(κ:Po)(lt:BV->BV->Bool):Prop:=
 ∀x y,x∈a₀->y∈a₀->∀(Q:Bool->AS->Prop) (E:AJ->AS->Prop),Q (lt x y) s->Aq (Ad prog w) A (keyLt' κ x.1 y.1) Q E s
structure Good(a₀:Array BV)(κ:Po)(st:Bd):Prop where
 perm:(AW st).Perm a₀
 kind:kindOf st=κ
 failed:Js st=none
theorem Good.size{st:Bd}(g:Good a₀ κ st):(AW st).size=a₀.size:=g.perm.size_eq
theorem Good.mem{st:Bd}(g:Good a₀ κ st){i:Nat}(h:i < a₀.size):ix (AW st) i∈a₀:=by
 have h':i < (AW st).size:=by rw[g.size];exact h
 have e:=D9 h';have:=Da e;exact Bk.mp ((GH.mp g.perm).mem_iff.mp (Bk.mpr this))
theorem Good.setArr{st:Bd}(g:Good a₀ κ st){xs:Array BV}(hp:xs.Perm (AW st)):Good a₀ κ (setArr st xs):=⟨hp.trans g.perm,g.kind,g.failed⟩
theorem Rs{st:Bd}{x y:BV}{Q:Option Bool->Bd->Prop}(C:MH prog w A s a₀ κ lt)(g:Good a₀ κ st)(hx:x∈a₀)(hy:y∈a₀)(h:Q (some (lt x y)) st):wpS (Ad prog w) A E s (lt' x y) Q st:=by
 rw[lt'_eq];refine AQ (Ia ?_);rw[g.kind];refine AQ (wpS_lift (RF ?_));refine C x y hx hy _ _ ⟨rfl,?_⟩;exact AR h
theorem Ps{st:Bd}{i j:Nat}{Q:Option Bool->Bd->Prop}(C:MH prog w A s a₀ κ lt)(g:Good a₀ κ st)(hi:i < a₀.size)(hj:j < a₀.size)(h:Q (some (lt (ix (AW st) i) (ix (AW st) j))) st) :
  wpS (Ad prog w) A E s (qQ i j) Q st:=by
 rw[ltAt'_eq];refine AQ (Ia ?_);show wpS _ _ _ _ (do let x <-elem' (AW st) i;let y <-elem' (AW st) j;lt' x y) Q st;rw[iO,iO,D9 (by rw[g.size];exact hi),D9 (by rw[g.size];exact hj)];exact AQ (AR (AQ (AR (Rs C g (g.mem hi) (g.mem hj) h))))
def Up(lt:BV->BV->Bool)(xs:Array BV)(lo hi:Nat):Prop:=∀i j,lo<=i->i<=j->j < hi->lt (ix xs j) (ix xs i)=false
def Dn(lt:BV->BV->Bool)(xs:Array BV)(lo hi:Nat):Prop:=∀i j,lo<=i->i<=j->j < hi->lt (ix xs i) (ix xs j)=false
def Out(xs ys:Array BV)(lo hi:Nat):Prop:=∀i,(i < lo∨hi<=i)->ix ys i=ix xs i
theorem Out.refl{xs:Array BV}{lo hi:Nat}:Out xs xs lo hi:=λ_ _=>rfl
theorem Out.trans{xs ys zs:Array BV}{lo hi:Nat}(a:Out xs ys lo hi)(b:Out ys zs lo hi):Out xs zs lo hi:=λi h=>(b i h).trans (a i h)
theorem Up.out{xs ys:Array BV}{lo hi l h:Nat}(u:Up lt xs l h)(o:Out xs ys lo hi)(d:h<=lo∨hi<=l):Up lt ys l h:=λi j h1 h2 h3=>by
 rw[o i (by lia),o j (by lia)];exact u i j h1 h2 h3
theorem Up.grow{st:Bd}(O:Ord (·∈a₀) lt)(g:Good a₀ κ st){lo hi:Nat}(hs:hi < a₀.size)(u:Up lt (AW st) lo hi)(h0:lo < hi)(h:lt (ix (AW st) hi) (ix (AW st) (hi - 1))=false):Up lt (AW st) lo (hi+1):=λi j h1 h2 h3=>by
 by_cases hj:j < hi
 ·exact u i j h1 h2 hj
 ·have:j=hi:=by lia
  subst this
  by_cases xg:i=j
  ·subst xg;exact O.irr (g.mem hs)
  ·exact O.ntr _ _ _ (g.mem (by lia)) (g.mem (show j - 1 < _ by omega)) (g.mem hs) (u i (j - 1) h1 (by lia) (by lia)) h
theorem wpS_binarySort{st:Bd}{lo n ok:Nat}{Q:Bool->Bd->Prop}(C:MH prog w A s a₀ κ lt)(O:Ord (·∈a₀) lt)(hn:lo+n<=a₀.size)(hok:ok<=n)(g:Good a₀ κ st)(u:Up lt (AW st) lo (lo+ok))
  (h:∀st',Good a₀ κ st'->Up lt (AW st') lo (lo+n)->Out (AW st) (AW st') lo (lo+n)->AZ st'=AZ st->Q true st'):wpS (Ad prog w) A E s (binarySort' lo n ok) Q st:=by
 rw[binarySort'_eq]
 refine AQ (D6 (Cc (I:=λk c st'=>c=(none,())/\Good a₀ κ st'/\Up lt (AW st') lo (lo+min k n)/\Out (AW st) (AW st') lo (lo+n)/\AZ st'=AZ st)
  (Q:=λc st'=>c=(none,())/\Good a₀ κ st'/\Up lt (AW st') lo (lo+n)/\Out (AW st) (AW st') lo (lo+n)/\AZ st'=AZ st) ?step ?fin ?init) ?post)
 case post=>
  rintro c st' ⟨rfl,g',u',o',p'⟩;exact AR (h st' g' u' o' p')
 case init=>
  refine⟨rfl,g,λi j h1 h2 h3=>?_,.refl,rfl⟩
  by_cases h0:ok=0
  ·have:i=j:=by lia
   subst this;exact O.irr (g.mem (by omega))
  ·exact u i j h1 h2 (by lia)
 case fin=>
  rintro c st' ⟨hc,g',u',o',p'⟩;refine⟨hc,g',?_,o',p'⟩;rwa [show min (max (max ok 1) n) n=n by lia]at u'
 case step=>
  rintro k c uo hak hkn ⟨rfl,g1,u1,o1,p1⟩;rw[show min k n=k by lia]at u1
  have hk:lo+k < a₀.size:=by lia
  refine AQ (D6 (Cc (I:=λx c j'=>j'=uo/\∃l r,c=(none,l,r)/\l<=r/\r<=k/\r - l<=k - x /\
    (∀i,i < l->lt (ix (AW uo) (lo+k)) (ix (AW uo) (lo+i))=false)/\(∀i,r<=i->i < k->lt (ix (AW uo) (lo+k)) (ix (AW uo) (lo+i))=true))
   (Q:=λc j'=>j'=uo/\∃l r,c=(none,l,r)/\l<=k /\
    (∀i,i < l->lt (ix (AW uo) (lo+k)) (ix (AW uo) (lo+i))=false)/\(∀i,l<=i->i < k->lt (ix (AW uo) (lo+k)) (ix (AW uo) (lo+i))=true)) ?istep ?ifin ?iinit) ?ipost)
  case iinit=>exact⟨rfl,0,k,rfl,by lia,by lia,by lia,λi hi=>by lia,λi h1 h2=>by lia⟩
  case ifin=>
   rintro c j' ⟨rfl,l,r,rfl,hlr,hrk,hm,wD,xh⟩
   have:l=r:=by lia
   subst this;exact⟨rfl,l,l,rfl,hrk,wD,xh⟩
  case istep=>
   rintro x c j' _ hxk ⟨rfl,l,r,rfl,hlr,hrk,hm,wD,xh⟩;dsimp only
   by_cases uP:l ≥ r
   ·rw[qX uP]
    have:l=r:=by lia
    subst this;exact AR ⟨rfl,l,l,rfl,hrk,wD,xh⟩
   ·rw[qY uP]
    refine AQ (Ps C g1 hk (by lia) ?_)
    cases hless:lt (ix (AW j') (lo+k)) (ix (AW j') (lo+(l+r) / 2))with
    | true=>
     refine AR ⟨rfl,l,(l+r) / 2,rfl,by lia,by lia,by omega,wD,λi h1 h2=>?_⟩
     cases e:lt (ix (AW j') (lo+k)) (ix (AW j') (lo+i))with
     | true=>rfl
     | false=>
      have:=O.ntr _ _ _ (g1.mem (show lo+(l+r) / 2 < _ by lia)) (g1.mem (show lo+i < _ by lia)) (g1.mem hk) (u1 (lo+(l+r) / 2) (lo+i) (by lia) (by lia) (by lia)) e;rw[hless]at this;cases this
    | false=>
     refine AR ⟨rfl,(l+r) / 2+1,r,rfl,by lia,by omega,by omega,λi h1=>?_,xh⟩;exact O.ntr _ _ _ (g1.mem (show lo+i < _ by lia)) (g1.mem (show lo+(l+r) / 2 < _ by lia)) (g1.mem hk) (u1 (lo+i) (lo+(l+r) / 2) (by lia) (by lia) (by lia)) hless
  case ipost=>
   rintro c j' ⟨rfl,l,r,rfl,hlk,wD,xh⟩;show wpS _ _ _ _ (do moveDown' (lo+k) (lo+l);pure (IT (none,()))) _ _;rw[moveDown'_eq]
   have hks:lo+k < (AW j').size:=by rw[g1.size];exact hk
   have e:∀i,ix (mR (AW j') (lo+k) (lo+k - (lo+l))) i=if i=lo+l then ix (AW j') (lo+k)else if lo+l < i/\i<=lo+k then ix (AW j') (i - 1)else ix (AW j') i:=λi=>by
    rw[cA hks (by lia),show lo+k - (lo+k - (lo+l))=lo+l by lia]
   refine AQ (EF (AR ⟨rfl,g1.setArr (bubble_perm _ _ _),?_,o1.trans λi hi=>?_,p1⟩))
   ·rw[show min (k+1) n=k+1 by lia]
    intro i j h1 h2 h3;show lt (ix (mR (AW j') (lo+k) (lo+k - (lo+l))) j) (ix (mR (AW j') (lo+k) (lo+k - (lo+l))) i)=false;rw[e,e]
    repeat' split
    all_goals first
     | (exfalso;lia)
     | exact O.irr (g1.mem hk)
     | (have q:=wD (i - lo) (by lia);rw[show lo+(i - lo)=i by lia]at q;exact q)
     | (have q:=xh (j - 1 - lo) (by omega) (by omega);rw[show lo+(j - 1 - lo)=j - 1 by lia]at q;exact O.asym _ _ (g1.mem hk) (g1.mem (by lia)) q)
     | exact u1 _ _ (by omega) (by omega) (by lia)
   ·show ix (mR (AW j') (lo+k) (lo+k - (lo+l))) i=ix (AW j') i
    rw[e,qY (by lia),qY (by lia)]
end
section
theorem Kn{σ:Type}{M:Model}{r:String}{Q:PUnit->σ->Prop}{st:σ}(h:Q ⟨⟩ st):wpS M A E s (liftM (rule r):StateT σ Sem PUnit) Q st:=wpS_lift (YD ⟨rfl,h⟩)
theorem Dn.flip{xs:Array BV}{lo hi:Nat}(hs:hi<=xs.size)(d:Dn lt xs lo hi):Up lt (LC xs lo hi ((hi - lo) / 2)) lo hi:=λi j h1 h2 h3=>by
 rw[Ex hs,Ex hs,qX (by lia),qX (by lia)];exact d _ _ (by omega) (by omega) (by omega)
theorem Dn.part{xs:Array BV}{lo hi m:Nat}(hs:hi<=xs.size)(hm:lo<=m)(hmh:m<=hi)(d:Dn lt xs lo hi)(e:Up lt xs m hi):Dn lt (LC xs m hi ((hi - m) / 2)) lo hi:=λi j h1 h2 h3=>by
 rw[Ex hs,Ex hs]
 by_cases xg:m<=i
 ·rw[qX (by lia),qX (by lia)]
  exact e _ _ (by omega) (by omega) (by omega)
 ·rw[qY (by lia)]
  split
  ·exact d _ _ (by omega) (by lia) (by omega)
  ·exact d _ _ (by omega) (by omega) (by omega)
theorem Ld{xs:Array BV}{i j lo hi:Nat}(hj:j<=xs.size)(h1:lo<=i)(h2:j<=hi):Out xs (LC xs i j ((j - i) / 2)) lo hi:=λk hk=>by
 rw[Ex hj,qY (by lia)]
theorem Dn.grow{st:Bd}(O:Ord (·∈a₀) lt)(g:Good a₀ κ st){lo hi:Nat}(hs:hi < a₀.size)(u:Dn lt (AW st) lo hi)(h0:lo < hi)(h:lt (ix (AW st) (hi - 1)) (ix (AW st) hi)=false):Dn lt (AW st) lo (hi+1):=λi j h1 h2 h3=>by
 by_cases hj:j < hi
 ·exact u i j h1 h2 hj
 ·have:j=hi:=by lia
  subst this
  by_cases xg:i=j
  ·subst xg;exact O.irr (g.mem hs)
  ·exact O.ntr _ _ _ (g.mem hs) (g.mem (show j - 1 < _ by omega)) (g.mem (by lia)) h (u i (j - 1) h1 (by lia) (by lia))
theorem YW(O:Ord (·∈a₀) lt){st:Bd}(g:Good a₀ κ st){lo:Nat}(h:lo < a₀.size):Up lt (AW st) lo (lo+1):=λi j h1 h2 h3=>by
 have e1:i=lo:=by lia
 have e2:j=lo:=by lia
 rw[e1,e2];exact O.irr (g.mem h)
theorem im{st:Bd}{lo u9 n:Nat}{Q:Option Nat->Bd->Prop}(C:MH prog w A s a₀ κ lt)(O:Ord (·∈a₀) lt)(h1:1<=n)(h2:n<=u9)(hn:lo+u9<=a₀.size)(g:Good a₀ κ st)(u:Up lt (AW st) lo (lo+n))
  (h:∀n,1<=n->n<=u9->Up lt (AW st) lo (lo+n)->Q (some n) st):wpS (Ad prog w) A E s (do
   let mut n:=n
   for _ in [n:u9] do
    let some uu <-qQ (lo+n) (lo+n - 1) | return none
    if uu then break
    n:=n+1
   return some n) Q st:=by
 refine AQ (D6 (Cc (I:=λx c st'=>st'=st/\c=(none,x)/\Up lt (AW st) lo (lo+x))
  (Q:=λc st'=>st'=st/\∃n,c=(none,n)/\1<=n/\n<=u9/\Up lt (AW st) lo (lo+n)) ?step ?fin ⟨rfl,rfl,u⟩) ?post)
 case fin=>
  rintro c st' ⟨rfl,rfl,u⟩
  have e:max n u9=u9:=by lia
  rw[e]at u ⊢;exact⟨rfl,u9,rfl,by lia,AL _,u⟩
 case step=>
  rintro x c st' zH zI ⟨rfl,rfl,u⟩;dsimp only;refine AQ (Ps C g (by lia) (by lia) ?_)
  cases hq:lt (ix (AW st') (lo+x)) (ix (AW st') (lo+x - 1))with
  | true=>exact AR ⟨rfl,x,rfl,by lia,by lia,u⟩
  | false=>exact AR ⟨rfl,rfl,Up.grow (hi:=lo+x) O g (by lia) u (by lia) hq⟩
 case post=>
  rintro c st' ⟨rfl,n,rfl,yM,vd,u⟩;exact AR (h n yM vd u)
theorem wpS_countRun{st}{lo u9}{Q}(C:MH prog w A s a₀ κ lt)(O:Ord (·∈a₀) lt)(h1:1<=u9)(hn:lo+u9<=a₀.size)(g:Good a₀ κ st)
  (h:∀st' n,Good a₀ κ st'->1<=n->n<=u9->Up lt (AW st') lo (lo+n)->Out (AW st) (AW st') lo (lo+u9)->AZ st'=AZ st->Q (some n) st'):wpS (Ad prog w) A E s (countRun' lo u9) Q st:=by
 rw[countRun'_eq]
 refine AQ (D6 (Cc (I:=λx c st'=>st'=st/\c=(none,x)/\Up lt (AW st) lo (lo+x))
  (Q:=λc st'=>st'=st/\∃n,c=(none,n)/\1<=n/\n<=u9/\Up lt (AW st) lo (lo+n)/\(n=u9∨lt (ix (AW st) (lo+n)) (ix (AW st) (lo+n - 1))=true)) ?step ?fin ?init) ?post)
 case init=>
  refine⟨rfl,rfl,λi j a1 a2 a3=>?_⟩
  have:i=j:=by lia
  subst this;exact O.irr (g.mem (by lia))
 case fin=>
  rintro c st' ⟨rfl,rfl,u⟩
  have e:max 1 u9=u9:=by lia
  rw[e]at u ⊢;exact⟨rfl,u9,rfl,h1,AL _,u,.inl rfl⟩
 case step=>
  rintro x c st' zH zI ⟨rfl,rfl,u⟩;dsimp only;refine AQ (Ps C g (by lia) (by lia) ?_)
  cases hq:lt (ix (AW st') (lo+x)) (ix (AW st') (lo+x - 1))with
  | true=>exact AR ⟨rfl,x,rfl,zH,by lia,u,.inr hq⟩
  | false=>exact AR ⟨rfl,rfl,Up.grow (hi:=lo+x) O g (by lia) u (by lia) hq⟩
 case post=>
  rintro c st' ⟨rfl,n,rfl,yM,vd,u,hd⟩;dsimp only
  by_cases hnn:n=u9
  ·rw[qX (by simpa using hnn)]
   exact AR (h st' n g yM vd u .refl rfl)
  ·rw[qY (by simpa using hnn)]
   have vT:=hd.resolve_left hnn
   have desc:∀(uo:Bd),Good a₀ κ uo->Dn lt (AW uo) lo (lo+(n+1))->Out (AW st') (AW uo) lo (lo+u9)->AZ uo=AZ st' ->
     wpS (Ad prog w) A E s (do
      liftM (rule "list.sort.descending-run")
      let mut n:=n+1
      let mut neq:=0
      for _ in [n:u9] do
       let some uu <-qQ (lo+n) (lo+n - 1) | return none
       if uu then
        if neq > 0 then RH (lo+n - (neq+1)) (lo+n)
        neq:=0
       else
        let some xD <-qQ (lo+n - 1) (lo+n) | return none
        if xD then break
        neq:=neq+1
       n:=n+1
      if neq > 0 then RH (lo+n - (neq+1)) (lo+n)
      RH lo (lo+n)
      for _ in [n:u9] do
       let some uu <-qQ (lo+n) (lo+n - 1) | return none
       if uu then break
       n:=n+1
      return some n) Q uo:=by
    intro uo g1 d1 o1 p1;refine AQ (Kn ?_)
    refine AQ (D6 (Cc (I:=λx c j'=>Good a₀ κ j'/\∃q,c=(none,x,q)/\q+1<=x/\Dn lt (AW j') lo (lo+x)/\Up lt (AW j') (lo+x - (q+1)) (lo+x)/\Out (AW st') (AW j') lo (lo+u9)/\AZ j'=AZ st')
     (Q:=λc j'=>Good a₀ κ j'/\∃n q,c=(none,n,q)/\n<=u9/\q+1<=n/\Dn lt (AW j') lo (lo+n)/\Up lt (AW j') (lo+n - (q+1)) (lo+n)/\Out (AW st') (AW j') lo (lo+u9)/\AZ j'=AZ st') ?dstep ?dfin ?dinit) ?dpost)
    case dinit=>
     refine⟨g1,0,rfl,by lia,d1,?_,o1,p1⟩;have:=YW O g1 (lo:=lo+n) (by lia);rwa [show lo+(n+1) - (0+1)=lo+n by lia,show lo+(n+1)=lo+n+1 by lia]
    case dfin=>
     rintro c j' ⟨g2,q,rfl,hq,d2,u2,o2,p2⟩
     have e:max (n+1) u9=u9:=by lia
     rw[e]at d2 u2 hq ⊢;exact⟨g2,u9,q,rfl,AL _,hq,d2,u2,o2,p2⟩
    case dstep=>
     rintro x c j' zH zI ⟨g2,q,rfl,hq,d2,u2,o2,p2⟩;dsimp only;refine AQ (Ps C g2 (by lia) (by lia) ?_)
     cases hs:lt (ix (AW j') (lo+x)) (ix (AW j') (lo+x - 1))with
     | true=>
      dsimp only;rw[qX rfl];have uw:=O.asym _ _ (g2.mem (show lo+x < _ by lia)) (g2.mem (show lo+x - 1 < _ by lia)) hs
      by_cases xE:q > 0
      ·rw[qX xE,Ni]
       have hsz:lo+x<=(AW j').size:=by rw[g2.size];lia
       have g3:Good a₀ κ (setArr j' (LC (AW j') (lo+x - (q+1)) (lo+x) ((lo+x - (lo+x - (q+1))) / 2))):=g2.setArr (WU _ _ _ _);have d3:=Dn.part (lt:=lt) (lo:=lo) hsz (show lo<=lo+x - (q+1) by lia) (by omega) d2 u2;refine AQ (EF (AR ⟨g3,0,rfl,by lia,?_,?_,o2.trans (Ld hsz (by lia) (by lia)),p2⟩))
       ·refine Dn.grow (hi:=lo+x) O g3 (by lia) d3 (by lia) ?_
        show lt (ix (LC (AW j') (lo+x - (q+1)) (lo+x) ((lo+x - (lo+x - (q+1))) / 2)) (lo+x - 1)) (ix (LC (AW j') (lo+x - (q+1)) (lo+x) ((lo+x - (lo+x - (q+1))) / 2)) (lo+x))=false;rw[Ex hsz,Ex hsz,qX (by omega),qY (by lia)];exact O.ntr _ _ _ (g2.mem (by lia)) (g2.mem (show lo+x - 1 < _ by lia)) (g2.mem (by omega)) uw (d2 _ _ (by lia) (by omega) (by lia))
       ·have:=YW O g3 (lo:=lo+x) (by lia)
        rwa [show lo+(x+1) - (0+1)=lo+x by lia,show lo+(x+1)=lo+x+1 by lia]
      ·rw[qY xE]
       refine AR ⟨g2,0,rfl,by lia,Dn.grow (hi:=lo+x) O g2 (by lia) d2 (by lia) uw,?_,o2,p2⟩;have:=YW O g2 (lo:=lo+x) (by lia);rwa [show lo+(x+1) - (0+1)=lo+x by lia,show lo+(x+1)=lo+x+1 by lia]
     | false=>
      dsimp only;rw[qY AK];refine AQ (Ps C g2 (by lia) (by lia) ?_)
      cases hl:lt (ix (AW j') (lo+x - 1)) (ix (AW j') (lo+x))with
      | true=>exact AR ⟨g2,x,q,rfl,by lia,hq,d2,u2,o2,p2⟩
      | false=>
       refine AR ⟨g2,q+1,rfl,by lia,Dn.grow (hi:=lo+x) O g2 (by lia) d2 (by lia) hl,?_,o2,p2⟩;rw[show lo+(x+1) - (q+1+1)=lo+x - (q+1) by lia];exact Up.grow (hi:=lo+x) O g2 (by lia) u2 (by omega) hs
    case dpost=>
     rintro c j' ⟨g2,m,q,rfl,hm,hq,d2,u2,o2,p2⟩;dsimp only
     have hsz:lo+m<=(AW j').size:=by rw[g2.size];lia
     have last:∀vb,Good a₀ κ vb->Dn lt (AW vb) lo (lo+m)->Out (AW st') (AW vb) lo (lo+u9)->AZ vb=AZ st'->∀(R:StateT Bd Sem (Option Nat)),R=(do
        let mut n:=m
        for _ in [n:u9] do
         let some uu <-qQ (lo+n) (lo+n - 1) | return none
         if uu then break
         n:=n+1
        return some n)->wpS (Ad prog w) A E s (do RH lo (lo+m);R) Q vb:=by
      rintro vb g3 d3 o3 p3 R rfl
      have yN:lo+m<=(AW vb).size:=by rw[g3.size];lia
      rw[Ni];refine AQ (EF ?_);have g4:Good a₀ κ (setArr vb (LC (AW vb) lo (lo+m) ((lo+m - lo) / 2))):=g3.setArr (WU _ _ _ _)
      exact im C O (by lia) hm hn g4 (Dn.flip yN d3) λk k1 k2 k3=>h _ k g4 k1 k2 k3 (o3.trans (Ld yN (by lia) (by lia))) p3
     by_cases xE:q > 0
     ·rw[qX xE,Ni]
      refine AQ (EF ?_);exact last _ (g2.setArr (WU _ _ _ _)) (Dn.part hsz (by lia) (by omega) d2 u2) (o2.trans (Ld hsz (by lia) (by lia))) p2 _ rfl
     ·rw[qY xE]
      exact last _ g2 d2 o2 p2 _ rfl
   have uw:=O.asym _ _ (g.mem (show lo+n < _ by lia)) (g.mem (show lo+n - 1 < _ by omega)) vT
   by_cases yD:n > 1
   ·rw[qX yD]
    refine AQ (Ps C g (by lia) (by omega) ?_)
    cases hr:lt (ix (AW st') lo) (ix (AW st') (lo+n - 1))with
    | true=>exact AR (h st' n g yM vd u .refl rfl)
    | false=>
     dsimp only;rw[qY AK,Ni]
     have hsz:lo+n<=(AW st').size:=by rw[g.size];lia
     have g1:Good a₀ κ (setArr st' (LC (AW st') lo (lo+n) ((lo+n - lo) / 2))):=g.setArr (WU _ _ _ _)
     have al:∀i j,lo<=i->i < lo+n->lo<=j->j < lo+n->lt (ix (AW st') i) (ix (AW st') j)=false:=λi j i1 i2 j1 j2=>by
      have q1:=u j (lo+n - 1) (by omega) (by lia) (by omega);have q2:=u lo i (by lia) (by omega) (by omega);exact O.ntr _ _ _ (g.mem (by lia)) (g.mem (show lo < _ by lia)) (g.mem (by lia)) (O.ntr _ _ _ (g.mem (by lia)) (g.mem (show lo+n - 1 < _ by lia)) (g.mem (by lia)) q1 hr) q2
     refine AQ (EF ?_);refine desc _ g1 ?_ (Ld hsz (by lia) (by lia)) rfl;refine Dn.grow (hi:=lo+n) O g1 (by lia) (λi j a1 a2 a3=>?_) (by lia) ?_
     ·show lt (ix (LC (AW st') lo (lo+n) ((lo+n - lo) / 2)) i) (ix (LC (AW st') lo (lo+n) ((lo+n - lo) / 2)) j)=false
      rw[Ex hsz,Ex hsz,qX (by lia),qX (by lia)];exact al _ _ (by omega) (by omega) (by omega) (by omega)
     ·show lt (ix (LC (AW st') lo (lo+n) ((lo+n - lo) / 2)) (lo+n - 1)) (ix (LC (AW st') lo (lo+n) ((lo+n - lo) / 2)) (lo+n))=false
      rw[Ex hsz,Ex hsz,qX (by omega),qY (by lia),show lo+(lo+n) - 1 - (lo+n - 1)=lo by omega];exact O.ntr _ _ _ (g.mem (by lia)) (g.mem (show lo+n - 1 < _ by lia)) (g.mem (by lia)) uw hr
   ·rw[qY yD]
    have e:n=1:=by lia
    subst e;refine desc _ g (Dn.grow (hi:=lo+1) O g (by lia) (λi j a1 a2 a3=>?_) (by lia) uw) .refl rfl
    have e1:i=lo:=by lia
    have e2:j=lo:=by lia
    rw[e1,e2];exact O.irr (g.mem (by lia))
end
def tK:Bool->BV->Array BV->Nat->Nat->Nat->StateT Bd Sem (Option Nat):=sortPriv% PySem.Builtin.gallop
section
abbrev BS:=Option (Option Nat)×Nat×Nat
theorem lJ{st:Bd}{p:Nat->Bool}{n lo hi:Nat}{F:Nat->BS->StateT Bd Sem (ForInStep BS)}{T:BS->StateT Bd Sem (Option Nat)}{Q:Option Nat->Bd->Prop}(hlh:lo<=hi)(hhn:hi<=n)
  (wD:∀i,i < lo->p i=true) (xh:∀i,hi<=i->i < n->p i=false) (mono:∀i j,i<=j->j < n->p j=true->p i=true)
  (hF:∀x l h (R:ForInStep BS->Bd->Prop),l<=h->h<=n->(l ≥ h->R (.done (none,l,h)) st)->(l < h->p (l+(h - l) / 2)=true->R (.yield (none,l+(h - l) / 2+1,h)) st)->(l < h->p (l+(h - l) / 2)=false->R (.yield (none,l,l+(h - l) / 2)) st) ->
   wpS (Ad prog w) A E s (F x (none,l,h)) R st)
  (hT:∀l h,h<=n->(∀i,i < h->p i=true)->(∀i,h<=i->i < n->p i=false)->wpS (Ad prog w) A E s (T (none,l,h)) Q st):wpS (Ad prog w) A E s (forIn [0:n] (none,lo,hi) F >>= T) Q st:=by
 refine AQ (D6 (Cc (I:=λx c st'=>st'=st/\∃l h,c=(none,l,h)/\l<=h/\h<=n/\h - l<=n - x/\(∀i,i < l->p i=true)/\(∀i,h<=i->i < n->p i=false))
  (Q:=λc st'=>st'=st/\∃l h,c=(none,l,h)/\h<=n/\(∀i,i < h->p i=true)/\(∀i,h<=i->i < n->p i=false)) ?step ?fin ⟨rfl,lo,hi,rfl,hlh,hhn,by lia,wD,xh⟩) ?post)
 case fin=>
  rintro c st' ⟨rfl,l,h,rfl,h1,h2,h3,h4,h5⟩
  have:l=h:=by lia
  subst this;exact⟨rfl,l,l,rfl,h2,h4,h5⟩
 case step=>
  rintro x c st' _ hx ⟨rfl,l,h,rfl,h1,h2,h3,h4,h5⟩
  refine hF x l h _ h1 h2 (λuP=>?_) (λuw hp=>?_) λuw hp=>?_
  ·have:l=h:=by lia
   subst this;exact⟨rfl,l,l,rfl,h2,h4,h5⟩
  ·exact⟨rfl,_,_,rfl,by lia,h2,by omega,λi hi=>mono i (l+(h - l) / 2) (by lia) (by lia) hp,h5⟩
  ·refine⟨rfl,_,_,rfl,by lia,by lia,by omega,h4,λi vA zJ=>?_⟩
   cases e:p i with
   | false=>rfl
   | true=>rw[mono _ i vA zJ e]at hp;cases hp
 case post=>
  rintro c st' ⟨rfl,l,h,rfl,h2,h4,h5⟩;exact hT l h h2 h4 h5
theorem aP{st:Bd}{q:Nat->Bool}{n mx:Nat}{F:Nat->BS->StateT Bd Sem (ForInStep BS)}{T:BS->StateT Bd Sem (Option Nat)}{Q:Option Nat->Bd->Prop}(hm:mx<=n)(q0:q 0=true)
  (hF:∀x a b (R:ForInStep BS->Bd->Prop),a < b->(b ≥ mx->R (.done (none,a,b)) st)->(b < mx->q b=false->R (.done (none,a,b)) st)->(b < mx->q b=true->R (.yield (none,b,2 * b+1)) st)->wpS (Ad prog w) A E s (F x (none,a,b)) R st)
  (hT:∀a b,a < b->q a=true->(a=0∨a < mx)->(b < mx->q b=false)->wpS (Ad prog w) A E s (T (none,a,b)) Q st):wpS (Ad prog w) A E s (forIn [0:n] (none,0,1) F >>= T) Q st:=by
 refine AQ (D6 (Cc (I:=λx c st'=>st'=st/\∃a b,c=(none,a,b)/\a < b/\x+1<=b/\q a=true/\(a=0∨a < mx))
  (Q:=λc st'=>st'=st/\∃a b,c=(none,a,b)/\a < b/\q a=true/\(a=0∨a < mx)/\(b < mx->q b=false)) ?step ?fin ⟨rfl,0,1,rfl,by lia,by lia,q0,.inl rfl⟩) ?post)
 case fin=>
  rintro c st' ⟨rfl,a,b,rfl,h1,h2,h3,h4⟩;exact⟨rfl,a,b,rfl,h1,h3,h4,λh=>by lia⟩
 case step=>
  rintro x c st' _ hx ⟨rfl,a,b,rfl,h1,h2,h3,h4⟩
  refine hF x a b _ h1 (λuP=>?_) (λuw hp=>?_) λuw hp=>?_
  ·exact⟨rfl,a,b,rfl,h1,h3,h4,λh=>by lia⟩
  ·exact⟨rfl,a,b,rfl,h1,h3,h4,λ_=>hp⟩
  ·exact⟨rfl,b,2 * b+1,rfl,by lia,by lia,hp,.inr uw⟩
 case post=>
  rintro c st' ⟨rfl,a,b,rfl,h1,h3,h4,h5⟩;exact hT a b h1 h3 h4 h5
theorem Fi{st:Bd}{left:Bool}{key:BV}{arr:Array BV}{base n hint:Nat}{Q:Option Nat->Bd->Prop}(C:MH prog w A s a₀ κ lt)(g:Good a₀ κ st)(p:Nat->Bool)
  (wA:key∈a₀) (Ξ:∀i,i < n->base+i < arr.size/\ix arr (base+i)∈a₀) (hp:∀i,i < n->p i=if left=true then lt (ix arr (base+i)) key else !lt key (ix arr (base+i)))
  (mono:∀i j,i<=j->j < n->p j=true->p i=true) (hh:hint < n)
  (h:∀k,k<=n->(∀i,i < k->p i=true)->(∀i,k<=i->i < n->p i=false)->Q (some k) st):wpS (Ad prog w) A E s (tK left key arr base n hint) Q st:=by
 have yO:∀i,i < n->∀R:Option Bool->Bd->Prop,R (some (p i)) st->wpS (Ad prog w) A E s (do let x <-elem' arr (base+i);if left=true then lt' x key else do let y <-lt' key x;pure (y.map (!·))) R st:=by
  intro i hi R hR;obtain⟨h1,h2⟩:=Ξ i hi;rw[iO,D9 h1];refine AQ (AR ?_);rw[hp i hi]at hR
  cases left with
  | true=>exact Rs C g h2 wA hR
  | false=>exact AQ (Rs C g wA h2 (AR hR))
 refine(AQ ?_:wpS _ _ _ _ (tK left key arr base n hint) Q st);refine yO hint hh _ ?_
 have fin:∀(lo hi:Nat) {F:Nat->BS->StateT Bd Sem (ForInStep BS)} {T:BS->StateT Bd Sem (Option Nat)},lo<=hi->hi<=n->(∀i,i < lo->p i=true)->(∀i,hi<=i->i < n->p i=false) ->
   (∀x l h' (R:ForInStep BS->Bd->Prop),l<=h'->h'<=n->(l ≥ h'->R (.done (none,l,h')) st)->(l < h'->p (l+(h' - l) / 2)=true->R (.yield (none,l+(h' - l) / 2+1,h')) st)->(l < h'->p (l+(h' - l) / 2)=false->R (.yield (none,l,l+(h' - l) / 2)) st) ->
    wpS (Ad prog w) A E s (F x (none,l,h')) R st)->(∀l h',T (none,l,h')=pure (some h'))->wpS (Ad prog w) A E s (forIn [0:n] (none,lo,hi) F >>= T) Q st:=λlo hi F T h1 h2 h3 h4 hF hT=>
  lJ h1 h2 h3 h4 mono hF λl h' q1 q2 q3=>by rw[hT];exact AR (h h' q1 q2 q3)
 cases hq:p hint with
 | true=>
  dsimp only;rw[qX rfl]
  refine aP (q:=λi=>decide (hint+i < n)&&p (hint+i)) (mx:=n - hint) (by lia) (by simp[hq,hh]) (λx a b R xF r1 r2 r3=>?_) λa b xF qa ha hb=>?_
  ·dsimp only
   by_cases uP:b ≥ n - hint
   ·rw[qX uP];exact AR (r1 uP)
   ·rw[qY uP]
    refine AQ (yO (hint+b) (by lia) _ ?_);have hd:decide (hint+b < n)=true:=wX (by lia)
    cases e:p (hint+b)with
    | true=>exact AR (r3 (by lia) (by simp[hd,e]))
    | false=>exact AR (r2 (by lia) (by simp[hd,e]))
  ·dsimp only
   have pa:p (hint+a)=true:=by simp at qa;exact qa.2
   have han:hint+a < n:=by simp at qa;exact qa.1
   refine fin (hint+a+1) (hint+min b (n - hint)) (by omega) (by omega) (λi hi=>mono i (hint+a) (by lia) han pa) (λi h1 h2=>?_) (λx l h' R l1 l2 r1 r2 r3=>?_) λl h'=>rfl
   ·by_cases hbm:b < n - hint
    ·have:=hb hbm
     have hd:decide (hint+b < n)=true:=wX (by lia);rw[hd,WZ]at this
     cases e:p i with
     | false=>rfl
     | true=>rw[mono (hint+b) i (by lia) h2 e]at this;cases this
    ·omega
   ·dsimp only
    by_cases uP:l ≥ h'
    ·rw[qX uP];exact AR (r1 uP)
    ·rw[qY uP]
     refine AQ (yO (l+(h' - l) / 2) (by lia) _ ?_)
     cases e:p (l+(h' - l) / 2)with
     | true=>exact AR (r2 (by lia) e)
     | false=>exact AR (r3 (by lia) e)
 | false=>
  dsimp only;rw[qY AK]
  refine aP (q:=λi=>decide (i<=hint)&&!p (hint - i)) (mx:=hint+1) (by lia) (by simp[hq]) (λx a b R xF r1 r2 r3=>?_) λa b xF qa ha hb=>?_
  ·dsimp only
   by_cases uP:b ≥ hint+1
   ·rw[qX uP];exact AR (r1 uP)
   ·rw[qY uP]
    refine AQ (yO (hint - b) (by omega) _ ?_);have hd:decide (b<=hint)=true:=wX (by lia)
    cases e:p (hint - b)with
    | true=>exact AR (r2 (by lia) (by simp[hd,e]))
    | false=>exact AR (r3 (by lia) (by simp[hd,e]))
  ·dsimp only
   have pa:p (hint - a)=false:=by simp at qa;exact qa.2
   have han:a<=hint:=by simp at qa;exact qa.1
   refine fin (hint+1 - min b (hint+1)) (hint - a) (by omega) (by omega) (λi hi=>?_) (λi h1 h2=>?_) (λx l h' R l1 l2 r1 r2 r3=>?_) λl h'=>rfl
   ·by_cases hbm:b < hint+1
    ·have:=hb hbm
     have hd:decide (b<=hint)=true:=wX (by lia);rw[hd,WZ]at this;exact mono i (hint - b) (by omega) (by lia) (by simpa using this)
    ·omega
   ·cases e:p i with
    | false=>rfl
    | true=>rw[mono (hint - a) i h1 h2 e]at pa;cases pa
   ·dsimp only
    by_cases uP:l ≥ h'
    ·rw[qX uP];exact AR (r1 uP)
    ·rw[qY uP]
     refine AQ (yO (l+(h' - l) / 2) (by lia) _ ?_)
     cases e:p (l+(h' - l) / 2)with
     | true=>exact AR (r2 (by lia) e)
     | false=>exact AR (r3 (by lia) e)
end
structure MI(R:BV->BV->Prop)(T o ra rb:List BV):Prop where
 perm:(o++(ra++rb)).Perm T
 srt:o.Pairwise R
 low:∀x∈o,∀y∈ra++rb,R x y
 sa:ra.Pairwise R
 sb:rb.Pairwise R
structure JF(R:BV->BV->Prop)(T r:List BV):Prop where
 perm:r.Perm T
 srt:r.Pairwise R
section
theorem MI.takeA(m:MI R T o (xs++ra) rb)(h:∀x∈xs,∀y∈rb,R x y):MI R T (o++xs) ra rb:=by
 have sa:=BU.mp m.sa;refine⟨by simpa[Bu]using m.perm,BU.mpr ⟨m.srt,sa.1,λx hx y hy=>m.low x hx y (by simp[hy])⟩,λx hx y hy=>?_,sa.2.1,m.sb⟩
 rcases A9.mp hx with hx | hx
 ·exact m.low x hx y (by rcases A9.mp hy with h | h <;> simp[h])
 ·rcases A9.mp hy with hy | hy
  ·exact sa.2.2 x hx y hy
  ·exact h x hx y hy
theorem MI.takeB(m:MI R T o ra (xs++rb))(h:∀x∈xs,∀y∈ra,R x y):MI R T (o++xs) ra rb:=by
 have sb:=BU.mp m.sb;refine⟨?_,BU.mpr ⟨m.srt,sb.1,λx hx y hy=>m.low x hx y (by simp[hy])⟩,λx hx y hy=>?_,m.sa,sb.2.1⟩
 ·refine List.Perm.trans ?_ m.perm
  rw[Bu];refine LF o ?_;rw[<-Bu,<-Bu];exact Td rb YL
 ·rcases A9.mp hx with hx | hx
  ·exact m.low x hx y (by rcases A9.mp hy with h | h <;> simp[h])
  ·rcases A9.mp hy with hy | hy
   ·exact h x hx y hy
   ·exact sb.2.2 x hx y hy
theorem MI.endA(m:MI R T o ra []):JF R T (o++ra):=by
 refine⟨by simpa using m.perm,BU.mpr ⟨m.srt,m.sa,λx hx y hy=>m.low x hx y (by simp[hy])⟩⟩
theorem MI.endB(m:MI R T o [] rb):JF R T (o++rb):=by
 refine⟨by simpa using m.perm,BU.mpr ⟨m.srt,m.sb,λx hx y hy=>m.low x hx y (by simp[hy])⟩⟩
theorem MI.last(m:MI R T o ra rb)(h:∀y∈rb,∀x∈ra,R y x):JF R T (o++(rb++ra)):=by
 refine⟨(LF o YL).trans m.perm,BU.mpr ⟨m.srt,BU.mpr ⟨m.sb,m.sa,h⟩,λx hx y hy=>m.low x hx y (by rcases A9.mp hy with h | h <;> simp[h])⟩⟩
end
theorem Rf(h:i < a.size):a.toList.drop i=ix a i :: a.toList.drop (i+1):=by
 rw[DZ (by simpa using h)]
 congr 1
 have:=D9 h;rw[getElem?_pos a i h]at this;simpa using this
theorem Jj{a:Array BV}{i k:Nat}(h:i+k<=a.size):a.toList.drop i=(a.extract i (i+k)).toList++a.toList.drop (i+k):=by
 have e:(a.extract i (i+k)).toList=(a.toList.drop i).take k:=by simp[Qb]
 rw[e,<-UI,IS]
theorem RW(h:i+k<=a.size)(hx:x∈(a.extract i (i+k)).toList):∃j,j < k/\x=ix a (i+j):=by
 rw[Bk,RK]at hx;obtain⟨j,hj,rfl⟩:=hx;refine⟨j,by lia,?_⟩;have:=D9 (xs:=a) (i:=i+j) (by lia);rw[getElem?_pos a _ (by lia)]at this;simpa using this
theorem Lr(a:Array BV)(i:Nat):(a.extract i a.size).toList=a.toList.drop i:=by
 simp[Qb];exact Cr (by simp)
theorem G4(hx:x∈a.toList.drop i):∃j,i<=j/\j < a.size/\x=ix a j:=by
 obtain⟨k,hk,rfl⟩:=Zc.mp hx;simp at hk;refine⟨i+k,by lia,by omega,?_⟩;have:=D9 (xs:=a) (i:=i+k) (by omega);rw[getElem?_pos a _ (by omega)]at this;simpa using this
section
variable{prog:Bs}{w:CV}{A:Cj}{E:AJ->AS->Prop}{s:AS}{a₀:Array BV}{κ:Po}{lt:BV->BV->Bool}
theorem Bz{st:Bd}{a:Array BV}{i:Nat}{Q:BV->Bd->Prop}(h:i < a.size)(hq:Q (ix a i) st):wpS (Ad prog w) A E s (elem' a i) Q st:=by
 rw[iO,D9 h];exact AR hq
def mLo:Array BV->Array BV->StateT Bd Sem (Array BV):=sortPriv% PySem.Builtin.mergeLo
def mHi:Array BV->Array BV->StateT Bd Sem (Array BV):=sortPriv% PySem.Builtin.mergeHi
structure MQ(a₀:Array BV)(κ:Po)(st st':Bd):Prop where
 good:Good a₀ κ st'
 arr:AW st'=AW st
 pend:AZ st'=AZ st
theorem MQ.gal{st st':Bd}(h:MQ a₀ κ st st')(n:Nat):MQ a₀ κ st (IF (kindOf st') (AW st') (AZ st') n (Js st')):=⟨⟨h.good.perm,h.good.kind,h.good.failed⟩,h.arr,h.pend⟩
abbrev Rl(lt:BV->BV->Bool)(x y:BV):Prop:=lt y x=false
theorem W6(O:Ord (·∈a₀) lt){a:Array BV}(ma:∀i,i < a.size->ix a i∈a₀)(sa:a.toList.Pairwise (Rl lt)):∀i j,i<=j->j < a.size->Rl lt (ix a i) (ix a j):=λi j xG hj=>by
 by_cases e:i=j
 ·subst e;exact O.irr (ma i hj)
 ·have hd:=Rf (a:=a) (i:=i) (by lia)
  have:=sa.sublist (List.drop_sublist i a.toList);rw[hd]at this;refine(Ju.mp this).1 _ ?_;rw[show a.toList.drop (i+1)=(a.extract (i+1) (i+1+(j - (i+1)))).toList++a.toList.drop (i+1+(j - (i+1)))from Jj (by lia),show i+1+(j - (i+1))=j by lia,Rf hj];simp
theorem V2(ma:∀x∈a.toList,x∈a₀):∀i,i < a.size->ix a i∈a₀:=λi hi=>ma _ (Bk.mpr (Da (D9 hi)))
theorem RL{st:Bd}{n:Nat}{Q:Unit->Bd->Prop}(h:Q () (IF (kindOf st) (AW st) (AZ st) n (Js st))):wpS (Ad prog w) A E s ((sortPriv% PySem.Builtin.setMinGallop) n) Q st:=EF h
abbrev L7:=Option (Array BV)×Array BV×Nat×Nat×Nat×Nat×Nat
theorem ik{st:Bd}{a b:Array BV}{Q:Array BV->Bd->Prop}(C:MH prog w A s a₀ κ lt)(O:Ord (·∈a₀) lt)(g:Good a₀ κ st)
  (ma:∀x∈a.toList,x∈a₀) (mb:∀x∈b.toList,x∈a₀) (sa:a.toList.Pairwise (Rl lt)) (sb:b.toList.Pairwise (Rl lt)) (na:0 < a.size) (nb:0 < b.size)
  (h0:∀x∈a.toList,Rl lt (ix b 0) x) (h1:∀y∈b.toList,Rl lt y (ix a (a.size - 1)))
  (h:∀r st',MQ a₀ κ st st'->JF (Rl lt) (a.toList++b.toList) r.toList->Q r st'):wpS (Ad prog w) A E s (mLo a b) Q st:=by
 have uj:=V2 ma;have uk:=V2 mb;have ua:=W6 O uj sa;have ub:=W6 O uk sb
 have tr:∀x y z:BV,x∈a₀->y∈a₀->z∈a₀->Rl lt x y->Rl lt y z->Rl lt x z:=λx y z hx hy hz h1 h2=>O.ntr x y z hx hy hz h1 h2
 let M (out:Array BV) (ia ib:Nat):Prop:=MI (Rl lt) (a.toList++b.toList) out.toList (a.toList.drop ia) (b.toList.drop ib)
 have tA:∀out ia ib,M out ia ib->ia < a.size->(∀j,ib<=j->j < b.size->Rl lt (ix a ia) (ix b j))->M (out.push (ix a ia)) (ia+1) ib:=λout ia ib m hia hr=>by
  have m':MI (Rl lt) (a.toList++b.toList) out.toList ([ix a ia]++a.toList.drop (ia+1)) (b.toList.drop ib):=by rw[FY,<-Rf hia];exact m
  have:=m'.takeA λx hx y hy=>by
   obtain⟨j,j1,j2,rfl⟩:=G4 hy;rw[Aa.mp hx];exact hr j j1 j2
  simpa[M]using this
 have tB:∀out ia ib,M out ia ib->ib < b.size->(∀j,ia<=j->j < a.size->Rl lt (ix b ib) (ix a j))->M (out.push (ix b ib)) ia (ib+1):=λout ia ib m hib hr=>by
  have m':MI (Rl lt) (a.toList++b.toList) out.toList (a.toList.drop ia) ([ix b ib]++b.toList.drop (ib+1)):=by rw[FY,<-Rf hib];exact m
  have:=m'.takeB λx hx y hy=>by
   obtain⟨j,j1,j2,rfl⟩:=G4 hy;rw[Aa.mp hx];exact hr j j1 j2
  simpa[M]using this
 have sA:∀out ia ib k,M out ia ib->ia+k<=a.size->(∀i j,i < k->ib<=j->j < b.size->Rl lt (ix a (ia+i)) (ix b j))->M (out++a.extract ia (ia+k)) (ia+k) ib:=λout ia ib k m hk hr=>by
  have m':MI (Rl lt) (a.toList++b.toList) out.toList ((a.extract ia (ia+k)).toList++a.toList.drop (ia+k)) (b.toList.drop ib):=by rw[<-Jj hk];exact m
  have:=m'.takeA λx hx y hy=>by
   obtain⟨j,j1,j2,rfl⟩:=G4 hy;obtain⟨i,i1,rfl⟩:=RW hk hx;exact hr i j i1 j1 j2
  show MI _ _ (out++a.extract ia (ia+k)).toList _ _;rw[BQ];exact this
 have sB:∀out ia ib k,M out ia ib->ib+k<=b.size->(∀i j,i < k->ia<=j->j < a.size->Rl lt (ix b (ib+i)) (ix a j))->M (out++b.extract ib (ib+k)) ia (ib+k):=λout ia ib k m hk hr=>by
  have m':MI (Rl lt) (a.toList++b.toList) out.toList (a.toList.drop ia) ((b.extract ib (ib+k)).toList++b.toList.drop (ib+k)):=by rw[<-Jj hk];exact m
  have:=m'.takeB λx hx y hy=>by
   obtain⟨j,j1,j2,rfl⟩:=G4 hy;obtain⟨i,i1,rfl⟩:=RW hk hx;exact hr i j i1 j1 j2
  show MI _ _ (out++b.extract ib (ib+k)).toList _ _;rw[BQ];exact this
 have eB:∀out ia ib,M out ia ib->ib=b.size->JF (Rl lt) (a.toList++b.toList) (out++a.extract ia a.size++b.extract ib b.size).toList:=λout ia ib m e=>by
  subst e
  have m':MI (Rl lt) (a.toList++b.toList) out.toList (a.toList.drop ia) []:=by
   have:b.toList.drop b.size=[]:=by simp
   rw[<-this];exact m
  rw[BQ,BQ,Lr,Lr,show b.toList.drop b.size=[] by simp,CB];exact m'.endA
 have eA:∀out ia ib,M out ia ib->ia=a.size->JF (Rl lt) (a.toList++b.toList) (out++a.extract ia a.size++b.extract ib b.size).toList:=λout ia ib m e=>by
  subst e
  have m':MI (Rl lt) (a.toList++b.toList) out.toList [] (b.toList.drop ib):=by
   have:a.toList.drop a.size=[]:=by simp
   rw[<-this];exact m
  rw[BQ,BQ,Lr,Lr,show a.toList.drop a.size=[] by simp,CB];exact m'.endB
 have eL:∀out ia ib,M out ia ib->ia+1=a.size->JF (Rl lt) (a.toList++b.toList) (out++b.extract ib b.size++a.extract ia a.size).toList:=λout ia ib m e=>by
  have:=m.last λy hy x hx=>by
   obtain⟨j,j1,j2,rfl⟩:=G4 hx;obtain⟨i,i1,i2,rfl⟩:=G4 hy
   have:j=a.size - 1:=by lia
   subst this;exact h1 _ (Bk.mpr (Da (D9 i2)))
  rw[BQ,BQ,Lr,Lr,Bu];exact this
 have m0:M #[] 0 0:=⟨by simp,by simp,by simp,by simpa using sa,by simpa using sb⟩
 have m1:M #[ix b 0] 0 1:=by
  have:=tB #[] 0 0 m0 nb λj _ hj=>h0 _ (Bk.mpr (Da (D9 hj)))
  simpa using this
 refine(AQ (Kn ?_):wpS _ _ _ _ (mLo a b) Q st);refine AQ (Bz nb ?_)
 by_cases c1:1=b.size
 ·refine(show wpS (Ad prog w) A E s (if (1==b.size)=true then _ else _) Q st from ?_)
  rw[qX (by simpa using c1)];exact AR (h _ st ⟨g,rfl,rfl⟩ (eB _ _ _ m1 c1))
 refine(show wpS (Ad prog w) A E s (if (1==b.size)=true then _ else _) Q st from ?_);rw[qY (by simpa using c1)]
 by_cases c2:0+1=a.size
 ·rw[qX (by simpa using c2)]
  exact AR (h _ st ⟨g,rfl,rfl⟩ (eL _ _ _ m1 c2))
 rw[qY (by simpa using c2)];refine AQ (Ia ?_)
 refine AQ (D6 (Cc (I:=λx c st'=>MQ a₀ κ st st'/\∃out ia ib mg,c=(none,out,ia,ib,mg)/\M out ia ib/\ia+1 < a.size/\ib < b.size/\1+x<=ia+ib)
  (Q:=λc st'=>MQ a₀ κ st st'/\∃r z,c=(some r,z)/\JF (Rl lt) (a.toList++b.toList) r.toList) ?step ?fin ?init) ?post)
 case init=>exact⟨⟨g,rfl,rfl⟩,_,_,_,_,rfl,m1,by lia,by lia,by lia⟩
 case fin=>
  rintro c st' ⟨_,out,ia,ib,mg,_,_,k1,k2,k3⟩
  lia
 case post=>
  rintro c st' ⟨s1,r,z,rfl,f⟩;exact AR (h r st' s1 f)
 case step=>
  rintro x c uo _ _ ⟨s1,out,ia,ib,mg,rfl,m,k1,k2,k3⟩
  refine AQ (D6 (Cc (I:=λy c st'=>st'=uo/\∃ug uI uK ac bc,c=(none,ug,uI,uK,ac,bc)/\M ug uI uK/\uI+1 < a.size/\uK < b.size/\ia+ib+y<=uI+uK)
   (Q:=λc st'=>st'=uo/\((∃r z,c=(some r,z)/\JF (Rl lt) (a.toList++b.toList) r.toList)∨∃ug uI uK ac bc,c=(none,ug,uI,uK,ac,bc)/\M ug uI uK/\uI+1 < a.size/\uK < b.size/\ia+ib+1<=uI+uK)) ?step1 ?fin1 ?init1) ?post1)
  case init1=>exact⟨rfl,out,ia,ib,0,0,rfl,m,k1,k2,by lia⟩
  case fin1=>
   rintro c st' ⟨rfl,ug,uI,uK,ac,bc,rfl,m',q1,q2,q3⟩;exact⟨rfl,.inr ⟨ug,uI,uK,ac,bc,rfl,m',q1,q2,by lia⟩⟩
  case step1=>
   rintro y c st' _ _ ⟨rfl,ug,uI,uK,ac,bc,rfl,m',q1,q2,q3⟩;refine AQ (Bz (i:=uK) q2 ?_);refine AQ (Bz (i:=uI) (show uI < a.size by lia) ?_);refine AQ (Rs C s1.good (uk _ q2) (uj _ (by lia)) ?_)
   cases e:lt (ix b uK) (ix a uI)with
   | true=>
    refine AQ (Bz q2 ?_);have r0:Rl lt (ix b uK) (ix a uI):=O.asym _ _ (uk _ q2) (uj _ (by lia)) e
    have m2:=tB ug uI uK m' q2 λj j1 j2=>tr _ _ _ (uk _ q2) (uj _ (by lia)) (uj _ j2) r0 (ua uI j j1 j2)
    refine(show wpS (Ad prog w) A E s (if (uK+1==b.size)=true then _ else _) _ st' from ?_)
    by_cases d:uK+1=b.size
    ·rw[qX (by simpa using d)]
     exact AR ⟨rfl,.inl ⟨_,_,rfl,eB _ _ _ m2 d⟩⟩
    ·rw[qY (by simpa using d)]
     split
     ·exact AR ⟨rfl,.inr ⟨_,uI,uK+1,_,_,rfl,m2,by omega,by lia,by lia⟩⟩
     ·exact AR ⟨rfl,_,uI,uK+1,_,_,rfl,m2,by omega,by lia,by lia⟩
   | false=>
    refine AQ (Bz (show uI < a.size by lia) ?_)
    have m2:=tA ug uI uK m' (by lia) λj j1 j2=>tr _ _ _ (uj _ (by lia)) (uk _ q2) (uk _ j2) e (ub uK j j1 j2)
    refine(show wpS (Ad prog w) A E s (if (uI+1+1==a.size)=true then _ else _) _ st' from ?_)
    by_cases d:uI+1+1=a.size
    ·rw[qX (by simpa using d)]
     exact AR ⟨rfl,.inl ⟨_,_,rfl,eL _ _ _ m2 d⟩⟩
    ·rw[qY (by simpa using d)]
     split
     ·exact AR ⟨rfl,.inr ⟨_,uI+1,uK,_,_,rfl,m2,by lia,by omega,by lia⟩⟩
     ·exact AR ⟨rfl,_,uI+1,uK,_,_,rfl,m2,by lia,by omega,by lia⟩
  case post1=>
   rintro c st' ⟨rfl,⟨r,z,rfl,f⟩ | ⟨ug,uI,uK,ac,bc,rfl,m',q1,q2,q3⟩⟩
   ·exact AR ⟨s1,_,_,rfl,f⟩
   refine AQ (Kn ?_)
   refine AQ (D6 (Cc (I:=λy c j'=>MQ a₀ κ st j'/\∃u6 u0 u5 uJ ac bc,c=(none,u6,u0,u5,uJ,ac,bc)/\M u6 u0 u5/\u0+1 < a.size/\u5 < b.size/\ia+ib+1<=u0+u5)
    (Q:=λc j'=>MQ a₀ κ st j'/\((∃r z,c=(some r,z)/\JF (Rl lt) (a.toList++b.toList) r.toList)∨∃u6 u0 u5 uJ ac bc,c=(none,u6,u0,u5,uJ,ac,bc)/\M u6 u0 u5/\u0+1 < a.size/\u5 < b.size/\ia+ib+1<=u0+u5)) ?step2 ?fin2 ?init2) ?post2)
   case init2=>exact⟨s1,ug,uI,uK,mg+1,ac,bc,rfl,m',q1,q2,q3⟩
   case fin2=>
    rintro c j' ⟨s2,u6,u0,u5,uJ,ac2,bc2,rfl,m2,p1,p2,p3⟩;exact⟨s2,.inr ⟨u6,u0,u5,uJ,ac2,bc2,rfl,m2,p1,p2,p3⟩⟩
   case post2=>
    rintro c j' ⟨s2,⟨r,z,rfl,f⟩ | ⟨u6,u0,u5,uJ,ac2,bc2,rfl,m2,p1,p2,p3⟩⟩
    ·exact AR ⟨s2,_,_,rfl,f⟩
    ·exact AQ (RL (AR ⟨s2.gal _,u6,u0,u5,uJ+1,rfl,m2,p1,p2,by lia⟩))
   case step2=>
    rintro y c j' _ _ ⟨s2,u6,u0,u5,uJ,ac2,bc2,rfl,m2,p1,p2,p3⟩
    let P:ForInStep L7->Bd->Prop:=λr st'=>match r with
     | .done c'=>MQ a₀ κ st st'/\((∃r z,c'=(some r,z)/\JF (Rl lt) (a.toList++b.toList) r.toList)∨∃u6 u0 u5 uJ ac bc,c'=(none,u6,u0,u5,uJ,ac,bc)/\M u6 u0 u5/\u0+1 < a.size/\u5 < b.size/\ia+ib+1<=u0+u5)
     | .yield c'=>MQ a₀ κ st st'/\∃u6 u0 u5 uJ ac bc,c'=(none,u6,u0,u5,uJ,ac,bc)/\M u6 u0 u5/\u0+1 < a.size/\u5 < b.size/\ia+ib+1<=u0+u5
    refine D6 (Q:=P) ?_ λr st' h=>by cases r <;> exact h
    refine(show wpS (Ad prog w) A E s (if uJ > 1 then _ else _) P j' from ?_);split
    all_goals
     refine AQ (RL ?_);refine AQ (Bz (i:=u5) p2 ?_);refine AQ (Fi (base:=u0) (n:=a.size - u0) (hint:=0) (arr:=a) (key:=ix b u5) (left:=false) C (s2.gal _).good (λi=>!lt (ix b u5) (ix a (u0+i))) (uk _ p2) (λi hi=>⟨by lia,uj _ (by lia)⟩) (λi hi=>rfl) (λi j xG hj e=>?_) (by lia) λk hk k1 k2=>?_)
     ·have e':lt (ix b u5) (ix a (u0+j))=false:=by simpa using e
      have:=tr _ _ _ (uj _ (by lia)) (uj _ (by lia)) (uk _ p2) (ua (u0+i) (u0+j) (by lia) (by lia)) e';simpa using this
     ·have far:∀j,u0+k<=j->j < a.size->Rl lt (ix b u5) (ix a j):=λj j1 j2=>by
       have:=k2 (j - u0) (by lia) (by lia);rw[show u0+(j - u0)=j by lia]at this;exact O.asym _ _ (uk _ p2) (uj _ j2) (by simpa using this)
      have m5:=sA u6 u0 u5 k m2 (by lia) λi j hi j1 j2=>tr _ _ _ (uj _ (by lia)) (uk _ p2) (uk _ j2) (by simpa using k1 i hi) (ub u5 j j1 j2)
      refine(show wpS (Ad prog w) A E s (if k > 0 then _ else _) P _ from ?_)
      by_cases hk0:k > 0
      ·rw[qX hk0]
       refine(show wpS (Ad prog w) A E s (if (u0+k+1==a.size)=true then _ else _) P _ from ?_)
       by_cases d1:u0+k+1=a.size
       ·rw[qX (by simpa using d1)]
        exact AR ⟨s2.gal _,.inl ⟨_,_,rfl,eL _ _ _ m5 d1⟩⟩
       rw[qY (by simpa using d1)]
       by_cases d2:u0+k=a.size
       ·rw[qX (by simpa using d2)]
        exact AR ⟨s2.gal _,.inl ⟨_,_,rfl,eA _ _ _ m5 d2⟩⟩
       rw[qY (by simpa using d2)]
       have c1:u0+k+1 < a.size:=by lia
       have c3:ia+ib+1<=u0+k+u5:=by lia
       have m4:=tB _ _ _ m5 p2 far;refine AQ (Bz (i:=u5) p2 ?_);refine(show wpS (Ad prog w) A E s (if (u5+1==b.size)=true then _ else _) P _ from ?_)
       by_cases d:u5+1=b.size
       ·rw[qX (by simpa using d)]
        exact AR ⟨s2.gal _,.inl ⟨_,_,rfl,eB _ _ _ m4 d⟩⟩
       rw[qY (by simpa using d)];refine AQ (Bz (i:=u0+k) (by lia) ?_);refine AQ (Fi (base:=u5+1) (n:=b.size - (u5+1)) (hint:=0) (arr:=b) (key:=ix a (u0+k)) (left:=true) C (s2.gal _).good (λi=>lt (ix b (u5+1+i)) (ix a (u0+k))) (uj _ (by lia)) (λi hi=>⟨by lia,uk _ (by lia)⟩) (λi hi=>rfl) (λi j xG hj e=>?_) (by lia) λk3 vP k4 k5=>?_)
       ·cases e2:lt (ix b (u5+1+i)) (ix a (u0+k))with
        | true=>rfl
        | false=>
         have:=tr _ _ _ (uj _ (by lia)) (uk _ (by lia)) (uk _ (by lia)) e2 (ub (u5+1+i) (u5+1+j) (by lia) (by lia));exact nomatch (show true=false from(show lt (ix b (u5+1+j)) (ix a (u0+k))=true from e).symm.trans this)
       ·have vY:∀j,u5+1+k3<=j->j < b.size->Rl lt (ix a (u0+k)) (ix b j):=λj j1 j2=>by
         have:=k5 (j - (u5+1)) (by lia) (by omega);rwa [show u5+1+(j - (u5+1))=j by lia]at this
        have m6:=sB _ (u0+k) (u5+1) k3 m4 (by lia) λi j hi j1 j2=>tr _ _ _ (uk _ (by lia)) (uj _ (by lia)) (uj _ j2) (O.asym _ _ (uk _ (by lia)) (uj _ (by lia)) (k4 i hi)) (ua (u0+k) j j1 j2)
        refine(show wpS (Ad prog w) A E s (if k3 > 0 then _ else _) P _ from ?_)
        by_cases vP:k3 > 0
        ·rw[qX vP]
         refine(show wpS (Ad prog w) A E s (if (u5+1+k3==b.size)=true then _ else _) P _ from ?_)
         by_cases d2:u5+1+k3=b.size
         ·rw[qX (by simpa using d2)]
          exact AR ⟨s2.gal _,.inl ⟨_,_,rfl,eB _ _ _ m6 d2⟩⟩
         rw[qY (by simpa using d2)];have m7:=tA _ _ _ m6 (by lia) vY;refine AQ (Bz (i:=u0+k) (by lia) ?_);refine(show wpS (Ad prog w) A E s (if (u0+k+1+1==a.size)=true then _ else _) P _ from ?_)
         by_cases d3:u0+k+1+1=a.size
         ·rw[qX (by simpa using d3)]
          exact AR ⟨s2.gal _,.inl ⟨_,_,rfl,eL _ _ _ m7 d3⟩⟩
         rw[qY (by simpa using d3)];split
         ·exact AR ⟨s2.gal _,.inr ⟨_,u0+k+1,u5+1+k3,_,_,_,rfl,m7,by lia,by lia,by lia⟩⟩
         ·exact AR ⟨s2.gal _,_,u0+k+1,u5+1+k3,_,_,_,rfl,m7,by lia,by lia,by lia⟩
        ·rw[qY vP]
         have:k3=0:=by lia
         subst this;have m7:=tA _ _ _ m4 (by lia) vY;refine AQ (Bz (i:=u0+k) (by lia) ?_);refine(show wpS (Ad prog w) A E s (if (u0+k+1+1==a.size)=true then _ else _) P _ from ?_)
         by_cases d3:u0+k+1+1=a.size
         ·rw[qX (by simpa using d3)]
          exact AR ⟨s2.gal _,.inl ⟨_,_,rfl,eL _ _ _ m7 d3⟩⟩
         rw[qY (by simpa using d3)];split
         ·exact AR ⟨s2.gal _,.inr ⟨_,u0+k+1,u5+1,_,_,_,rfl,m7,by lia,by lia,by lia⟩⟩
         ·exact AR ⟨s2.gal _,_,u0+k+1,u5+1,_,_,_,rfl,m7,by lia,by lia,by lia⟩
      ·rw[qY hk0]
       have:k=0:=by lia
       subst this
       have c1:u0+1 < a.size:=by omega
       have c3:ia+ib+1<=u0+u5:=by omega
       have m4:=tB _ _ _ m2 p2 far;refine AQ (Bz (i:=u5) p2 ?_);refine(show wpS (Ad prog w) A E s (if (u5+1==b.size)=true then _ else _) P _ from ?_)
       by_cases d:u5+1=b.size
       ·rw[qX (by simpa using d)]
        exact AR ⟨s2.gal _,.inl ⟨_,_,rfl,eB _ _ _ m4 d⟩⟩
       rw[qY (by simpa using d)];refine AQ (Bz (i:=u0) (by lia) ?_);refine AQ (Fi (base:=u5+1) (n:=b.size - (u5+1)) (hint:=0) (arr:=b) (key:=ix a u0) (left:=true) C (s2.gal _).good (λi=>lt (ix b (u5+1+i)) (ix a u0)) (uj _ (by lia)) (λi hi=>⟨by lia,uk _ (by lia)⟩) (λi hi=>rfl) (λi j xG hj e=>?_) (by lia) λk3 vP k4 k5=>?_)
       ·cases e2:lt (ix b (u5+1+i)) (ix a u0)with
        | true=>rfl
        | false=>
         have:=tr _ _ _ (uj _ (by lia)) (uk _ (by lia)) (uk _ (by lia)) e2 (ub (u5+1+i) (u5+1+j) (by lia) (by lia));exact nomatch (show true=false from(show lt (ix b (u5+1+j)) (ix a u0)=true from e).symm.trans this)
       ·have vY:∀j,u5+1+k3<=j->j < b.size->Rl lt (ix a u0) (ix b j):=λj j1 j2=>by
         have:=k5 (j - (u5+1)) (by lia) (by omega);rwa [show u5+1+(j - (u5+1))=j by lia]at this
        have m6:=sB _ u0 (u5+1) k3 m4 (by lia) λi j hi j1 j2=>tr _ _ _ (uk _ (by lia)) (uj _ (by lia)) (uj _ j2) (O.asym _ _ (uk _ (by lia)) (uj _ (by lia)) (k4 i hi)) (ua u0 j j1 j2)
        refine(show wpS (Ad prog w) A E s (if k3 > 0 then _ else _) P _ from ?_)
        by_cases vP:k3 > 0
        ·rw[qX vP]
         refine(show wpS (Ad prog w) A E s (if (u5+1+k3==b.size)=true then _ else _) P _ from ?_)
         by_cases d2:u5+1+k3=b.size
         ·rw[qX (by simpa using d2)]
          exact AR ⟨s2.gal _,.inl ⟨_,_,rfl,eB _ _ _ m6 d2⟩⟩
         rw[qY (by simpa using d2)];have m7:=tA _ _ _ m6 (by lia) vY;refine AQ (Bz (i:=u0) (by lia) ?_);refine(show wpS (Ad prog w) A E s (if (u0+1+1==a.size)=true then _ else _) P _ from ?_)
         by_cases d3:u0+1+1=a.size
         ·rw[qX (by simpa using d3)]
          exact AR ⟨s2.gal _,.inl ⟨_,_,rfl,eL _ _ _ m7 d3⟩⟩
         rw[qY (by simpa using d3)];split
         ·exact AR ⟨s2.gal _,.inr ⟨_,u0+1,u5+1+k3,_,_,_,rfl,m7,by lia,by lia,by lia⟩⟩
         ·exact AR ⟨s2.gal _,_,u0+1,u5+1+k3,_,_,_,rfl,m7,by lia,by lia,by lia⟩
        ·rw[qY vP]
         have:k3=0:=by lia
         subst this;have m7:=tA _ _ _ m4 (by lia) vY;refine AQ (Bz (i:=u0) (by lia) ?_);refine(show wpS (Ad prog w) A E s (if (u0+1+1==a.size)=true then _ else _) P _ from ?_)
         by_cases d3:u0+1+1=a.size
         ·rw[qX (by simpa using d3)]
          exact AR ⟨s2.gal _,.inl ⟨_,_,rfl,eL _ _ _ m7 d3⟩⟩
         rw[qY (by simpa using d3)];split
         ·exact AR ⟨s2.gal _,.inr ⟨_,u0+1,u5+1,_,_,_,rfl,m7,by lia,by lia,by lia⟩⟩
         ·exact AR ⟨s2.gal _,_,u0+1,u5+1,_,_,_,rfl,m7,by lia,by lia,by lia⟩
end
theorem MI.last2(m:MI R T o ra rb)(h:∀x∈ra,∀y∈rb,R x y):JF R T (o++(ra++rb)):=by
 refine⟨m.perm,BU.mpr ⟨m.srt,BU.mpr ⟨m.sa,m.sb,h⟩,λx hx y hy=>m.low x hx y hy⟩⟩
theorem JF.rev(f:JF (λx y=>Rl lt y x) T r):JF (Rl lt) T r.reverse:=⟨r.reverse_perm.trans f.perm,NS.mpr f.srt⟩
theorem Zp(h:i < a.size):(a.toList.take (i+1)).reverse=ix a i :: (a.toList.take i).reverse:=by
 have:=D9 h;rw[getElem?_pos a i h]at this;rw[Ff,show a.toList[i]?=some (ix a i) by simpa using D9 h];simp
theorem W7{a:Array BV}{i n:Nat}(h:i<=n)(hn:n<=a.size):(a.toList.take n).reverse=(a.extract i n).toList.reverse++(a.toList.take i).reverse:=by
 have e:(a.extract i n).toList=(a.toList.take n).drop i:=by simp[Qb,List.drop_take]
 rw[e,<-List.reverse_append]
 congr 1
 have:=IS i (a.toList.take n);rw[List.take_take,show min i n=i by lia]at this;exact this.symm
theorem G3(hx:x∈(a.toList.take n).reverse):∃j,j < n/\j < a.size/\x=ix a j:=by
 rw[iC]at hx;obtain⟨k,hk,rfl⟩:=Zc.mp hx;simp at hk;refine⟨k,by lia,by lia,?_⟩;have:=D9 (xs:=a) (i:=k) (by lia);rw[getElem?_pos a _ (by lia)]at this;simpa using this
theorem Xf(hx:x∈(a.extract i n).toList.reverse):∃j,i<=j/\j < n/\j < a.size/\x=ix a j:=by
 rw[iC,Bk,RK]at hx;obtain⟨j,hj,rfl⟩:=hx;refine⟨i+j,by lia,by omega,by omega,?_⟩;have:=D9 (xs:=a) (i:=i+j) (by omega);rw[getElem?_pos a _ (by omega)]at this;simpa using this
theorem JM(a:Array BV)(n:Nat):(a.extract 0 n).toList=a.toList.take n:=by simp[Qb]
section
theorem il{st:Bd}{a b:Array BV}{Q:Array BV->Bd->Prop}(C:MH prog w A s a₀ κ lt)(O:Ord (·∈a₀) lt)(g:Good a₀ κ st)
  (ma:∀x∈a.toList,x∈a₀) (mb:∀x∈b.toList,x∈a₀) (sa:a.toList.Pairwise (Rl lt)) (sb:b.toList.Pairwise (Rl lt)) (pa:0 < a.size) (pb:0 < b.size)
  (h0:∀x∈a.toList,Rl lt (ix b 0) x) (h1:∀y∈b.toList,Rl lt y (ix a (a.size - 1)))
  (h:∀r st',MQ a₀ κ st st'->JF (Rl lt) (a.toList++b.toList) r.toList->Q r st'):wpS (Ad prog w) A E s (mHi a b) Q st:=by
 have uj:=V2 ma;have uk:=V2 mb;have ua:=W6 O uj sa;have ub:=W6 O uk sb
 have tr:∀x y z:BV,x∈a₀->y∈a₀->z∈a₀->Rl lt x y->Rl lt y z->Rl lt x z:=λx y z hx hy hz h1 h2=>O.ntr x y z hx hy hz h1 h2
 let M (out:Array BV) (na nb:Nat):Prop:=MI (λx y=>Rl lt y x) (a.toList++b.toList) out.toList (a.toList.take na).reverse (b.toList.take nb).reverse
 have tA0:∀out na nb,M out (na+1) nb->na < a.size->nb<=b.size->(∀j,j < nb->Rl lt (ix b j) (ix a na))->M (out.push (ix a na)) na nb:=λout na nb m wH wI hr=>by
  have m':MI (λx y=>Rl lt y x) (a.toList++b.toList) out.toList ([ix a na]++(a.toList.take na).reverse) (b.toList.take nb).reverse:=by rw[FY,<-Zp wH];exact m
  have:=m'.takeA λx hx y hy=>by
   obtain⟨j,j1,j2,rfl⟩:=G3 hy;rw[Aa.mp hx];exact hr j j1
  simpa[M]using this
 have tB0:∀out na nb,M out na (nb+1)->nb < b.size->na<=a.size->(∀j,j < na->Rl lt (ix a j) (ix b nb))->M (out.push (ix b nb)) na nb:=λout na nb m wI wH hr=>by
  have m':MI (λx y=>Rl lt y x) (a.toList++b.toList) out.toList (a.toList.take na).reverse ([ix b nb]++(b.toList.take nb).reverse):=by rw[FY,<-Zp wI];exact m
  have:=m'.takeB λx hx y hy=>by
   obtain⟨j,j1,j2,rfl⟩:=G3 hy;rw[Aa.mp hx];exact hr j j1
  simpa[M]using this
 have tA:∀out na nb,M out na nb->0 < na->na<=a.size->nb<=b.size->(∀j,j < nb->Rl lt (ix b j) (ix a (na - 1)))->M (out.push (ix a (na - 1))) (na - 1) nb:=λout na nb m h0 wH wI hr=>
  tA0 out (na - 1) nb (by rw[show na - 1+1=na by lia];exact m) (by omega) wI hr
 have tB:∀out na nb,M out na nb->0 < nb->nb<=b.size->na<=a.size->(∀j,j < na->Rl lt (ix a j) (ix b (nb - 1)))->M (out.push (ix b (nb - 1))) na (nb - 1):=λout na nb m h0 wI wH hr=>
  tB0 out na (nb - 1) (by rw[show nb - 1+1=nb by lia];exact m) (by omega) wH hr
 have sA:∀out na nb k,M out na nb->k<=na->na<=a.size->nb<=b.size->(∀i j,k<=i->i < na->j < nb->Rl lt (ix b j) (ix a i))->M (out++(a.extract k na).reverse) k nb:=λout na nb k m hk wH wI hr=>by
  have m':MI (λx y=>Rl lt y x) (a.toList++b.toList) out.toList ((a.extract k na).toList.reverse++(a.toList.take k).reverse) (b.toList.take nb).reverse:=by rw[<-W7 hk wH];exact m
  have:=m'.takeA λx hx y hy=>by
   obtain⟨j,j1,j2,rfl⟩:=G3 hy;obtain⟨i,i1,i2,i3,rfl⟩:=Xf hx;exact hr i j i1 i2 j1
  show MI _ _ (out++(a.extract k na).reverse).toList _ _;rw[BQ,GF];exact this
 have sB:∀out na nb k,M out na nb->k<=nb->nb<=b.size->na<=a.size->(∀i j,k<=i->i < nb->j < na->Rl lt (ix a j) (ix b i))->M (out++(b.extract k nb).reverse) na k:=λout na nb k m hk wI wH hr=>by
  have m':MI (λx y=>Rl lt y x) (a.toList++b.toList) out.toList (a.toList.take na).reverse ((b.extract k nb).toList.reverse++(b.toList.take k).reverse):=by rw[<-W7 hk wI];exact m
  have:=m'.takeB λx hx y hy=>by
   obtain⟨j,j1,j2,rfl⟩:=G3 hy;obtain⟨i,i1,i2,i3,rfl⟩:=Xf hx;exact hr i j i1 i2 j1
  show MI _ _ (out++(b.extract k nb).reverse).toList _ _;rw[BQ,GF];exact this
 have eA:∀out na nb,M out na nb->na=0->JF (Rl lt) (a.toList++b.toList) (a.extract 0 na++b.extract 0 nb++out.reverse).toList:=λout na nb m e=>by
  subst e
  have m':MI (λx y=>Rl lt y x) (a.toList++b.toList) out.toList [] (b.toList.take nb).reverse:=by simpa[M]using m
  have:=m'.endB.rev;rw[BQ,BQ,JM,JM,GF];simpa using this
 have eB:∀out na nb,M out na nb->nb=0->JF (Rl lt) (a.toList++b.toList) (a.extract 0 na++b.extract 0 nb++out.reverse).toList:=λout na nb m e=>by
  subst e
  have m':MI (λx y=>Rl lt y x) (a.toList++b.toList) out.toList (a.toList.take na).reverse []:=by simpa[M]using m
  have:=m'.endA.rev;rw[BQ,BQ,JM,JM,GF];simpa using this
 have eF:∀out na nb,M out na nb->nb=1->JF (Rl lt) (a.toList++b.toList) (b.extract 0 nb++a.extract 0 na++out.reverse).toList:=λout na nb m e=>by
  have:=m.last2 λx hx y hy=>by
   obtain⟨j,j1,j2,rfl⟩:=G3 hx;obtain⟨i,i1,i2,rfl⟩:=G3 hy
   have:i=0:=by lia
   subst this;exact h0 _ (Bk.mpr (Da (D9 j2)))
  have:=this.rev;rw[BQ,BQ,JM,JM,GF];simpa using this
 have m0:M #[] a.size b.size:=by
  refine⟨?_,by simp,by simp,?_,?_⟩
  ·rw[Cr (by simp),Cr (by simp)]
   simpa using List.Perm.append a.toList.reverse_perm b.toList.reverse_perm
  ·rw[Cr (by simp)];exact NS.mpr sa
  ·rw[Cr (by simp)];exact NS.mpr sb
 have m1:M #[ix a (a.size - 1)] (a.size - 1) b.size:=by
  have:=tA #[] a.size b.size m0 pa (AL _) (AL _) λj hj=>h1 _ (Bk.mpr (Da (D9 hj)))
  simpa using this
 refine(AQ (Kn ?_):wpS _ _ _ _ (mHi a b) Q st);refine AQ (Bz (i:=a.size - 1) (by omega) ?_)
 by_cases c1:a.size - 1=0
 ·refine(show wpS (Ad prog w) A E s (if (a.size - 1==0)=true then _ else _) Q st from ?_)
  rw[qX (by simpa using c1)];exact AR (h _ st ⟨g,rfl,rfl⟩ (eA _ _ _ m1 c1))
 refine(show wpS (Ad prog w) A E s (if (a.size - 1==0)=true then _ else _) Q st from ?_);rw[qY (by simpa using c1)]
 by_cases c2:b.size=1
 ·rw[qX (by simpa using c2)]
  exact AR (h _ st ⟨g,rfl,rfl⟩ (eF _ _ _ m1 c2))
 rw[qY (by simpa using c2)];refine AQ (Ia ?_)
 refine AQ (D6 (Cc (I:=λx c st'=>MQ a₀ κ st st'/\∃out na nb mg,c=(none,na,nb,out,mg)/\M out na nb/\0 < na/\1 < nb/\na<=a.size/\nb<=b.size/\na+nb+1+x<=a.size+b.size)
  (Q:=λc st'=>MQ a₀ κ st st'/\∃r z,c=(some r,z)/\JF (Rl lt) (a.toList++b.toList) r.toList) ?step ?fin ?init) ?post)
 case init=>exact⟨⟨g,rfl,rfl⟩,_,a.size - 1,b.size,_,rfl,m1,by lia,by lia,by omega,by lia,by lia⟩
 case fin=>
  rintro c st' ⟨_,out,na,nb,mg,_,_,k1,k2,k3,k4,k5⟩
  lia
 case post=>
  rintro c st' ⟨s1,r,z,rfl,f⟩;exact AR (h r st' s1 f)
 case step=>
  rintro x c uo _ _ ⟨s1,out,na,nb,mg,rfl,m,k1,k2,k3,k4,k5⟩
  refine AQ (D6 (Cc (I:=λy c st'=>st'=uo/\∃ug uG uH ac bc,c=(none,uG,uH,ug,ac,bc)/\M ug uG uH/\0 < uG/\1 < uH/\uG<=a.size/\uH<=b.size/\uG+uH+y<=na+nb)
   (Q:=λc st'=>st'=uo/\((∃r z,c=(some r,z)/\JF (Rl lt) (a.toList++b.toList) r.toList)∨∃ug uG uH ac bc,c=(none,uG,uH,ug,ac,bc)/\M ug uG uH/\0 < uG/\1 < uH/\uG<=a.size/\uH<=b.size/\uG+uH+1<=na+nb)) ?step1 ?fin1 ?init1) ?post1)
  case init1=>exact⟨rfl,out,na,nb,0,0,rfl,m,k1,k2,k3,k4,by lia⟩
  case fin1=>
   rintro c st' ⟨rfl,ug,uG,uH,ac,bc,rfl,m',q1,q2,q3,q4,q5⟩;exact⟨rfl,.inr ⟨ug,uG,uH,ac,bc,rfl,m',q1,q2,q3,q4,by lia⟩⟩
  case step1=>
   rintro y c st' _ _ ⟨rfl,ug,uG,uH,ac,bc,rfl,m',q1,q2,q3,q4,q5⟩;refine AQ (Bz (i:=uH - 1) (by lia) ?_);refine AQ (Bz (i:=uG - 1) (by lia) ?_);refine AQ (Rs C s1.good (uk _ (by lia)) (uj _ (by lia)) ?_)
   cases e:lt (ix b (uH - 1)) (ix a (uG - 1))with
   | true=>
    refine AQ (Bz (i:=uG - 1) (by lia) ?_);have r0:Rl lt (ix b (uH - 1)) (ix a (uG - 1)):=O.asym _ _ (uk _ (by lia)) (uj _ (by lia)) e
    have m2:=tA ug uG uH m' q1 q3 q4 λj j1=>tr _ _ _ (uk _ (by lia)) (uk _ (by lia)) (uj _ (by lia)) (ub j (uH - 1) (by lia) (by lia)) r0
    refine(show wpS (Ad prog w) A E s (if (uG - 1==0)=true then _ else _) _ st' from ?_)
    by_cases d:uG - 1=0
    ·rw[qX (by simpa using d)]
     exact AR ⟨rfl,.inl ⟨_,_,rfl,eA _ _ _ m2 d⟩⟩
    ·rw[qY (by simpa using d)]
     split
     ·exact AR ⟨rfl,.inr ⟨_,uG - 1,uH,_,_,rfl,m2,by lia,by omega,by lia,by omega,by lia⟩⟩
     ·exact AR ⟨rfl,_,uG - 1,uH,_,_,rfl,m2,by lia,by omega,by lia,by omega,by lia⟩
   | false=>
    refine AQ (Bz (i:=uH - 1) (by lia) ?_)
    have m2:=tB ug uG uH m' (by lia) q4 q3 λj j1=>tr _ _ _ (uj _ (by lia)) (uj _ (by lia)) (uk _ (by lia)) (ua j (uG - 1) (by lia) (by lia)) e
    refine(show wpS (Ad prog w) A E s (if (uH - 1==1)=true then _ else _) _ st' from ?_)
    by_cases d:uH - 1=1
    ·rw[qX (by simpa using d)]
     exact AR ⟨rfl,.inl ⟨_,_,rfl,eF _ _ _ m2 d⟩⟩
    ·rw[qY (by simpa using d)]
     split
     ·exact AR ⟨rfl,.inr ⟨_,uG,uH - 1,_,_,rfl,m2,by omega,by lia,by omega,by lia,by lia⟩⟩
     ·exact AR ⟨rfl,_,uG,uH - 1,_,_,rfl,m2,by omega,by lia,by omega,by lia,by lia⟩
  case post1=>
   rintro c st' ⟨rfl,⟨r,z,rfl,f⟩ | ⟨ug,uG,uH,ac,bc,rfl,m',q1,q2,q3,q4,q5⟩⟩
   ·exact AR ⟨s1,_,_,rfl,f⟩
   refine AQ (Kn ?_)
   refine AQ (D6 (Cc (I:=λy c j'=>MQ a₀ κ st j'/\∃u6 uy ue uJ ac bc,c=(none,uy,ue,u6,uJ,ac,bc)/\M u6 uy ue/\0 < uy/\1 < ue/\uy<=a.size/\ue<=b.size/\uy+ue+1<=na+nb)
    (Q:=λc j'=>MQ a₀ κ st j'/\((∃r z,c=(some r,z)/\JF (Rl lt) (a.toList++b.toList) r.toList)∨∃u6 uy ue uJ ac bc,c=(none,uy,ue,u6,uJ,ac,bc)/\M u6 uy ue/\0 < uy/\1 < ue/\uy<=a.size/\ue<=b.size/\uy+ue+1<=na+nb)) ?step2 ?fin2 ?init2) ?post2)
   case init2=>exact⟨s1,ug,uG,uH,mg+1,ac,bc,rfl,m',q1,q2,q3,q4,q5⟩
   case fin2=>
    rintro c j' ⟨s2,u6,uy,ue,uJ,ac2,bc2,rfl,m2,p1⟩;exact⟨s2,.inr ⟨u6,uy,ue,uJ,ac2,bc2,rfl,m2,p1⟩⟩
   case post2=>
    rintro c j' ⟨s2,⟨r,z,rfl,f⟩ | ⟨u6,uy,ue,uJ,ac2,bc2,rfl,m2,p1,p2,p3,p4,p5⟩⟩
    ·exact AR ⟨s2,_,_,rfl,f⟩
    ·exact AQ (RL (AR ⟨s2.gal _,u6,uy,ue,uJ+1,rfl,m2,p1,p2,p3,p4,by lia⟩))
   case step2=>
    rintro y c j' _ _ ⟨s2,u6,uy,ue,uJ,ac2,bc2,rfl,m2,p1,p2,p3,p4,p5⟩
    let P:ForInStep (Option (Array BV)×Nat×Nat×Array BV×Nat×Nat×Nat)->Bd->Prop:=λr st'=>match r with
     | .done c'=>MQ a₀ κ st st'/\((∃r z,c'=(some r,z)/\JF (Rl lt) (a.toList++b.toList) r.toList)∨∃u6 uy ue uJ ac bc,c'=(none,uy,ue,u6,uJ,ac,bc)/\M u6 uy ue/\0 < uy/\1 < ue/\uy<=a.size/\ue<=b.size/\uy+ue+1<=na+nb)
     | .yield c'=>MQ a₀ κ st st'/\∃u6 uy ue uJ ac bc,c'=(none,uy,ue,u6,uJ,ac,bc)/\M u6 uy ue/\0 < uy/\1 < ue/\uy<=a.size/\ue<=b.size/\uy+ue+1<=na+nb
    refine D6 (Q:=P) ?_ λr st' h=>by cases r <;> exact h
    refine(show wpS (Ad prog w) A E s (if uJ > 1 then _ else _) P j' from ?_);split
    all_goals
     refine AQ (RL ?_);refine AQ (Bz (i:=ue - 1) (by lia) ?_);refine AQ (Fi (base:=0) (n:=uy) (hint:=uy - 1) (arr:=a) (key:=ix b (ue - 1)) (left:=false) C (s2.gal _).good (λi=>!lt (ix b (ue - 1)) (ix a (0+i))) (uk _ (by lia)) (λi hi=>⟨by lia,uj _ (by lia)⟩) (λi hi=>rfl) (λi j xG hj e=>?_) (by lia) λk hk k1 k2=>?_)
     ·have e':lt (ix b (ue - 1)) (ix a (0+j))=false:=by simpa using e
      have:=tr _ _ _ (uj _ (by lia)) (uj _ (by lia)) (uk _ (by lia)) (ua (0+i) (0+j) (by lia) (by lia)) e';simpa using this
     ·have near:∀j,j < k->Rl lt (ix a j) (ix b (ue - 1)):=λj j1=>by
       have:=k1 j j1;rw[Ht]at this;simpa using this
      have m5:=sA u6 uy ue k m2 hk p3 p4 λi j i1 i2 j1=>by
       have:=k2 i i1 i2;rw[Ht]at this;exact tr _ _ _ (uk _ (by lia)) (uk _ (by lia)) (uj _ (by lia)) (ub j (ue - 1) (by lia) (by lia)) (O.asym _ _ (uk _ (by lia)) (uj _ (by lia)) (by simpa using this))
      refine(show wpS (Ad prog w) A E s (if uy - k > 0 then _ else _) P _ from ?_)
      by_cases hk0:uy - k > 0
      ·rw[qX hk0]
       refine(show wpS (Ad prog w) A E s (if (k==0)=true then _ else _) P _ from ?_)
       by_cases d1:k=0
       ·rw[qX (by simpa using d1)]
        exact AR ⟨s2.gal _,.inl ⟨_,_,rfl,eA _ _ _ m5 d1⟩⟩
       rw[qY (by simpa using d1)];have m4:=tB _ _ _ m5 (by lia) p4 (by lia) near;refine AQ (Bz (i:=ue - 1) (by lia) ?_);refine(show wpS (Ad prog w) A E s (if (ue - 1==1)=true then _ else _) P _ from ?_)
       by_cases d:ue - 1=1
       ·rw[qX (by simpa using d)]
        exact AR ⟨s2.gal _,.inl ⟨_,_,rfl,eF _ _ _ m4 d⟩⟩
       rw[qY (by simpa using d)];refine AQ (Bz (i:=k - 1) (by omega) ?_);refine AQ (Fi (base:=0) (n:=ue - 1) (hint:=ue - 1 - 1) (arr:=b) (key:=ix a (k - 1)) (left:=true) C (s2.gal _).good (λi=>lt (ix b (0+i)) (ix a (k - 1))) (uj _ (by omega)) (λi hi=>⟨by lia,uk _ (by lia)⟩) (λi hi=>rfl) (λi j xG hj e=>?_) (by lia) λk3 vP k4 k5=>?_)
       ·cases e2:lt (ix b (0+i)) (ix a (k - 1))with
        | true=>rfl
        | false=>
         have:=tr _ _ _ (uj _ (by lia)) (uk _ (by lia)) (uk _ (by lia)) e2 (ub (0+i) (0+j) (by lia) (by lia));exact nomatch (show true=false from(show lt (ix b (0+j)) (ix a (k - 1))=true from e).symm.trans this)
       ·have vg:∀j,j < k3->Rl lt (ix b j) (ix a (k - 1)):=λj j1=>by
         have:=k4 j j1;rw[Ht]at this;exact O.asym _ _ (uk _ (by lia)) (uj _ (by omega)) this
        have m6:=sB _ k (ue - 1) k3 m4 vP (by lia) (by lia) λi j i1 i2 j1=>by
         have:=k5 i i1 i2;rw[Ht]at this;exact tr _ _ _ (uj _ (by lia)) (uj _ (by lia)) (uk _ (by lia)) (ua j (k - 1) (by lia) (by lia)) this
        refine(show wpS (Ad prog w) A E s (if ue - 1 - k3 > 0 then _ else _) P _ from ?_)
        by_cases hk4:ue - 1 - k3 > 0
        ·rw[qX hk4]
         refine(show wpS (Ad prog w) A E s (if (k3==1)=true then _ else _) P _ from ?_)
         by_cases d2:k3=1
         ·rw[qX (by simpa using d2)]
          exact AR ⟨s2.gal _,.inl ⟨_,_,rfl,eF _ _ _ m6 d2⟩⟩
         rw[qY (by simpa using d2)]
         by_cases d4:k3=0
         ·rw[qX (by simpa using d4)]
          exact AR ⟨s2.gal _,.inl ⟨_,_,rfl,eB _ _ _ m6 d4⟩⟩
         rw[qY (by simpa using d4)];have m7:=tA _ _ _ m6 (by lia) (by lia) (by lia) vg;refine AQ (Bz (i:=k - 1) (by lia) ?_);refine(show wpS (Ad prog w) A E s (if (k - 1==0)=true then _ else _) P _ from ?_)
         by_cases d3:k - 1=0
         ·rw[qX (by simpa using d3)]
          exact AR ⟨s2.gal _,.inl ⟨_,_,rfl,eA _ _ _ m7 d3⟩⟩
         rw[qY (by simpa using d3)];split
         ·exact AR ⟨s2.gal _,.inr ⟨_,k - 1,k3,_,_,_,rfl,m7,by lia,by lia,by lia,by lia,by lia⟩⟩
         ·exact AR ⟨s2.gal _,_,k - 1,k3,_,_,_,rfl,m7,by lia,by lia,by lia,by lia,by lia⟩
        ·rw[qY hk4]
         have:k3=ue - 1:=by lia
         subst this;have m7:=tA _ _ _ m4 (by lia) (by lia) (by lia) vg;refine AQ (Bz (i:=k - 1) (by lia) ?_);refine(show wpS (Ad prog w) A E s (if (k - 1==0)=true then _ else _) P _ from ?_)
         by_cases d3:k - 1=0
         ·rw[qX (by simpa using d3)]
          exact AR ⟨s2.gal _,.inl ⟨_,_,rfl,eA _ _ _ m7 d3⟩⟩
         rw[qY (by simpa using d3)];split
         ·exact AR ⟨s2.gal _,.inr ⟨_,k - 1,ue - 1,_,_,_,rfl,m7,by lia,by lia,by lia,by lia,by lia⟩⟩
         ·exact AR ⟨s2.gal _,_,k - 1,ue - 1,_,_,_,rfl,m7,by lia,by lia,by lia,by lia,by lia⟩
      ·rw[qY hk0]
       have:k=uy:=by lia
       subst this;have m4:=tB _ _ _ m2 (by lia) p4 (by omega) near;refine AQ (Bz (i:=ue - 1) (by lia) ?_);refine(show wpS (Ad prog w) A E s (if (ue - 1==1)=true then _ else _) P _ from ?_)
       by_cases d:ue - 1=1
       ·rw[qX (by simpa using d)]
        exact AR ⟨s2.gal _,.inl ⟨_,_,rfl,eF _ _ _ m4 d⟩⟩
       rw[qY (by simpa using d)];refine AQ (Bz (i:=k - 1) (by lia) ?_);refine AQ (Fi (base:=0) (n:=ue - 1) (hint:=ue - 1 - 1) (arr:=b) (key:=ix a (k - 1)) (left:=true) C (s2.gal _).good (λi=>lt (ix b (0+i)) (ix a (k - 1))) (uj _ (by lia)) (λi hi=>⟨by lia,uk _ (by lia)⟩) (λi hi=>rfl) (λi j xG hj e=>?_) (by lia) λk3 vP k4 k5=>?_)
       ·cases e2:lt (ix b (0+i)) (ix a (k - 1))with
        | true=>rfl
        | false=>
         have:=tr _ _ _ (uj _ (by lia)) (uk _ (by lia)) (uk _ (by lia)) e2 (ub (0+i) (0+j) (by lia) (by lia));exact nomatch (show true=false from(show lt (ix b (0+j)) (ix a (k - 1))=true from e).symm.trans this)
       ·have vg:∀j,j < k3->Rl lt (ix b j) (ix a (k - 1)):=λj j1=>by
         have:=k4 j j1;rw[Ht]at this;exact O.asym _ _ (uk _ (by lia)) (uj _ (by lia)) this
        have m6:=sB _ k (ue - 1) k3 m4 vP (by lia) (by omega) λi j i1 i2 j1=>by
         have:=k5 i i1 i2;rw[Ht]at this;exact tr _ _ _ (uj _ (by lia)) (uj _ (by lia)) (uk _ (by lia)) (ua j (k - 1) (by lia) (by lia)) this
        refine(show wpS (Ad prog w) A E s (if ue - 1 - k3 > 0 then _ else _) P _ from ?_)
        by_cases hk4:ue - 1 - k3 > 0
        ·rw[qX hk4]
         refine(show wpS (Ad prog w) A E s (if (k3==1)=true then _ else _) P _ from ?_)
         by_cases d2:k3=1
         ·rw[qX (by simpa using d2)]
          exact AR ⟨s2.gal _,.inl ⟨_,_,rfl,eF _ _ _ m6 d2⟩⟩
         rw[qY (by simpa using d2)]
         by_cases d4:k3=0
         ·rw[qX (by simpa using d4)]
          exact AR ⟨s2.gal _,.inl ⟨_,_,rfl,eB _ _ _ m6 d4⟩⟩
         rw[qY (by simpa using d4)];have m7:=tA _ _ _ m6 (by omega) (by omega) (by lia) vg;refine AQ (Bz (i:=k - 1) (by lia) ?_);refine(show wpS (Ad prog w) A E s (if (k - 1==0)=true then _ else _) P _ from ?_)
         by_cases d3:k - 1=0
         ·rw[qX (by simpa using d3)]
          exact AR ⟨s2.gal _,.inl ⟨_,_,rfl,eA _ _ _ m7 d3⟩⟩
         rw[qY (by simpa using d3)];split
         ·exact AR ⟨s2.gal _,.inr ⟨_,k - 1,k3,_,_,_,rfl,m7,by lia,by lia,by lia,by lia,by lia⟩⟩
         ·exact AR ⟨s2.gal _,_,k - 1,k3,_,_,_,rfl,m7,by lia,by lia,by lia,by lia,by lia⟩
        ·rw[qY hk4]
         have:k3=ue - 1:=by lia
         subst this;have m7:=tA _ _ _ m4 (by omega) (by omega) (by lia) vg;refine AQ (Bz (i:=k - 1) (by lia) ?_);refine(show wpS (Ad prog w) A E s (if (k - 1==0)=true then _ else _) P _ from ?_)
         by_cases d3:k - 1=0
         ·rw[qX (by simpa using d3)]
          exact AR ⟨s2.gal _,.inl ⟨_,_,rfl,eA _ _ _ m7 d3⟩⟩
         rw[qY (by simpa using d3)];split
         ·exact AR ⟨s2.gal _,.inr ⟨_,k - 1,ue - 1,_,_,_,rfl,m7,by lia,by lia,by lia,by lia,by lia⟩⟩
         ·exact AR ⟨s2.gal _,_,k - 1,ue - 1,_,_,_,rfl,m7,by lia,by lia,by lia,by lia,by lia⟩
end
def wr(arr:Array BV)(sa:Nat)(l:List (BV×Nat)):Array BV:=l.foldl (λa (x:BV×Nat)=>match x with | (p,j)=>a.setIfInBounds (sa+j) p) arr
theorem VM(sa:Nat):∀(l:List BV) (k:Nat) (arr:Array BV),sa+k+l.length<=arr.size->(wr arr sa (l.zipIdx k)).toList=arr.toList.take (sa+k)++l++arr.toList.drop (sa+k+l.length)
 | [],k,arr,h=>by simp[wr]
 | x :: l,k,arr,h=>by
  rw[BB]at h;have e:wr arr sa ((x :: l).zipIdx k)=wr (arr.setIfInBounds (sa+k) x) sa (l.zipIdx (k+1)):=rfl;rw[e,VM sa l (k+1) _ (by simp;lia)]
  have hk:sa+k < arr.toList.length:=by simp;lia
  rw[Tf,BB,show sa+(k+1)=sa+k+1 by lia];rw[Ff,List.take_set_of_le (AL _),At hk,List.drop_set_of_lt (by lia)];simp[show sa+k+1+l.length=sa+k+(l.length+1) by lia]
theorem ix_list(a:Array BV)(i:Nat):ix a i=(a.toList[i]?).getD (.none,.none):=by
 unfold ix;rw[FZ];simp
theorem fq(h:sa+m.size<=arr.size)(i:Nat):ix (wr arr sa m.toList.zipIdx) i=if i < sa then ix arr i else if i < sa+m.size then ix m (i - sa)else ix arr i:=by
 have e:=VM sa m.toList 0 arr (by simpa using h);rw[ix_list,show m.toList.zipIdx=m.toList.zipIdx 0 from rfl,e,qp]
 have hl:(arr.toList.take sa).length=sa:=by simp;lia
 split
 ·rename_i h1
  rw[Bu,Av (by lia),WX h1,ix_list]
 ·rename_i h1
  split
  ·rename_i h2
   rw[Bu,Bn (by lia),hl,Av (by simp;lia),ix_list]
  ·rename_i h2
   rw[Bn (by simp;lia),Jv,ix_list]
   congr 2
   simp
   lia
theorem jy{arr m:Array BV}{sa:Nat}(h:sa+m.size<=arr.size)(hp:m.toList.Perm (arr.extract sa (sa+m.size)).toList):(wr arr sa m.toList.zipIdx).Perm arr:=by
 rw[GH];have e:=VM sa m.toList 0 arr (by simpa using h);rw[show m.toList.zipIdx=m.toList.zipIdx 0 from rfl,e,qp]
 have e2:arr.toList=arr.toList.take sa++(arr.extract sa (sa+m.size)).toList++arr.toList.drop (sa+m.toList.length):=by
  rw[Bu,Bq,<-Jj h,IS]
 conv=>rhs;rw[e2]
 exact Td _ (LF _ hp)
theorem ZA{a:Array BV}{lo hi i:Nat}(h:hi<=a.size)(xg:i < hi - lo):ix (a.extract lo hi) i=ix a (lo+i):=by
 apply Kx
 rw[Array.getElem?_extract];simp
 lia
section
variable{prog:Bs}{w:CV}{A:Cj}{E:AJ->AS->Prop}{s:AS}{a₀:Array BV}{κ:Po}{lt:BV->BV->Bool}
theorem da{a:Array BV}{lo hi:Nat}(h:hi<=a.size)(u:Up lt a lo hi):(a.extract lo hi).toList.Pairwise (Rl lt):=by
 rw[U2];intro i j xg hj xG;simp at xg hj
 have e:∀k (hk:k < (a.extract lo hi).toList.length),(a.extract lo hi).toList[k]=ix a (lo+k):=λk hk=>by
  have uY:k < (a.extract lo hi).size:=by rw[Bq]at hk;exact hk
  have:=D9 uY;rw[getElem?_pos (a.extract lo hi) k uY]at this
  have hs:(a.extract lo hi).size=hi - lo:=by simp;lia
  rw[<-ZA h (by lia)];simpa using this
 rw[e,e];exact u _ _ (by lia) (by lia) (by omega)
theorem ij{st uo:Bd}{Q:PUnit->Bd->Prop}(h:Q ⟨⟩ uo):wpS (Ad prog w) A E s (set uo:StateT Bd Sem PUnit) Q st:=AR h
theorem Wo{st}{i sa na pw sb nb pw2}{Q}(C:MH prog w A s a₀ κ lt)(O:Ord (·∈a₀) lt)(g:Good a₀ κ st)
  (e1:(AZ st)[i]?=some (sa,na,pw)) (e2:(AZ st)[i+1]?=some (sb,nb,pw2)) (xF:sb=sa+na) (wH:1<=na) (wI:1<=nb) (hs:sb+nb<=a₀.size)
  (ua:Up lt (AW st) sa (sa+na)) (ub:Up lt (AW st) sb (sb+nb))
  (h:∀st',Good a₀ κ st'->AZ st'=((AZ st).setIfInBounds i (sa,na+nb,pw)).eraseIdxIfInBounds (i+1)->Up lt (AW st') sa (sa+(na+nb))->Out (AW st) (AW st') sa (sa+(na+nb))->Q true st') :
  wpS (Ad prog w) A E s (mergeAt' i) Q st:=by
 subst xF;have hsz:=g.size
 have mem:∀j,j < a₀.size->ix (AW st) j∈a₀:=λj hj=>g.mem hj
 have tr:∀x y z:BV,x∈a₀->y∈a₀->z∈a₀->Rl lt x y->Rl lt y z->Rl lt x z:=λx y z hx hy hz h1 h2=>O.ntr x y z hx hy hz h1 h2
 refine(AQ (Ia ?_):wpS _ _ _ _ (mergeAt' i) Q st);rw[show(sortPriv% PySem.Builtin.SortState.pending) st=AZ st from rfl,e1,e2];refine AQ (ij ?_);generalize hst1:((sortPriv% PySem.Builtin.SortState.mk) (kindOf st) (AW st) (((AZ st).setIfInBounds i (sa,na+nb,pw)).eraseIdxIfInBounds (i+1)) (gallopOf st) (Js st))=uo
 have g1:Good a₀ κ uo:=by subst hst1;exact⟨g.perm,g.kind,g.failed⟩
 have a1:AW uo=AW st:=by subst hst1;rfl
 have p1:AZ uo=((AZ st).setIfInBounds i (sa,na+nb,pw)).eraseIdxIfInBounds (i+1):=by subst hst1;rfl
 refine AQ (Bz (a:=AW st) (i:=sa+na) (by lia) ?_);refine AQ (Fi (base:=sa) (n:=na) (hint:=0) (arr:=AW st) (key:=ix (AW st) (sa+na)) (left:=false) C g1 (λj=>!lt (ix (AW st) (sa+na)) (ix (AW st) (sa+j))) (mem _ (by lia)) (λj hj=>⟨by lia,mem _ (by lia)⟩) (λj hj=>rfl) (λx y yP hy e=>?_) (by lia) λk hk k1 k2=>?_)
 ·have e':lt (ix (AW st) (sa+na)) (ix (AW st) (sa+y))=false:=by simpa using e
  have:=tr _ _ _ (mem _ (by lia)) (mem _ (by lia)) (mem _ (by lia)) (ua (sa+x) (sa+y) (by lia) (by lia) (by lia)) e';simpa using this
 have low:∀j,sa<=j->j < sa+k->Rl lt (ix (AW st) j) (ix (AW st) (sa+na)):=λj j1 j2=>by
  have:=k1 (j - sa) (by lia);rw[show sa+(j - sa)=j by lia]at this;simpa using this
 have yQ:∀i j,sa<=i->i < sa+k->sa+na<=j->j < sa+na+nb->Rl lt (ix (AW st) i) (ix (AW st) j):=λi j i1 i2 j1 j2=>tr _ _ _ (mem _ (by lia)) (mem _ (by lia)) (mem _ (by lia)) (low i i1 i2) (ub _ _ (by lia) (by omega) (by omega))
 have whole:(∀j,sa<=j->j < sa+na->Rl lt (ix (AW st) j) (ix (AW st) (sa+na)))->Up lt (AW st) sa (sa+(na+nb)):=λhh x y h1 h2 h3=>by
  by_cases c1:y < sa+na
  ·exact ua x y h1 h2 c1
  by_cases c2:x < sa+na
  ·exact tr _ _ _ (mem _ (by lia)) (mem _ (by lia)) (mem _ (by lia)) (hh x h1 c2) (ub _ _ (by lia) (by lia) (by lia))
  ·exact ub x y (by lia) h2 (by lia)
 refine(show wpS (Ad prog w) A E s (if (na - k==0)=true then _ else _) Q uo from ?_)
 by_cases c1:na - k=0
 ·rw[qX (by simpa using c1)]
  refine AR (h uo g1 p1 ?_ (by rw[a1];exact .refl));rw[a1]
  exact whole λj j1 j2=>low j j1 (by lia)
 rw[qY (by simpa using c1)];refine AQ (Bz (a:=AW st) (i:=sa+k+(na - k) - 1) (by omega) ?_);rw[show sa+k+(na - k) - 1=sa+na - 1 by lia];refine AQ (Fi (base:=sa+na) (n:=nb) (hint:=nb - 1) (arr:=AW st) (key:=ix (AW st) (sa+na - 1)) (left:=true) C g1 (λj=>lt (ix (AW st) (sa+na+j)) (ix (AW st) (sa+na - 1))) (mem _ (by lia)) (λj hj=>⟨by lia,mem _ (by lia)⟩) (λj hj=>rfl) (λx y yP hy e=>?_) (by omega) λk3 vP k4 k5=>?_)
 ·cases e2:lt (ix (AW st) (sa+na+x)) (ix (AW st) (sa+na - 1))with
  | true=>rfl
  | false=>
   have:=tr _ _ _ (mem _ (by lia)) (mem _ (by lia)) (mem _ (by lia)) e2 (ub (sa+na+x) (sa+na+y) (by lia) (by lia) (by lia));exact nomatch (show true=false from(show lt (ix (AW st) (sa+na+y)) (ix (AW st) (sa+na - 1))=true from e).symm.trans this)
 have high:∀j,sa+na+k3<=j->j < sa+na+nb->Rl lt (ix (AW st) (sa+na - 1)) (ix (AW st) j):=λj j1 j2=>by
  have:=k5 (j - (sa+na)) (by lia) (by lia);rwa [show sa+na+(j - (sa+na))=j by lia]at this
 refine(show wpS (Ad prog w) A E s (if (k3==0)=true then _ else _) Q uo from ?_)
 by_cases c2:k3=0
 ·rw[qX (by simpa using c2)]
  refine AR (h uo g1 p1 ?_ (by rw[a1];exact .refl));rw[a1]
  exact whole λj j1 j2=>tr _ _ _ (mem _ (by lia)) (mem _ (by lia)) (mem _ (by lia)) (ua j (sa+na - 1) (by omega) (by lia) (by lia)) (high _ (by lia) (by lia))
 rw[qY (by simpa using c2)]
 let x:=(AW st).extract (sa+k) (sa+na)
 let y:=(AW st).extract (sa+na) (sa+na+k3)
 have xs:x.size=na - k:=by simp[x];lia
 have ys:y.size=k3:=by simp[y];lia
 have ixx:∀j,j < na - k->ix x j=ix (AW st) (sa+k+j):=λj hj=>ZA (by lia) (by lia)
 have ixy:∀j,j < k3->ix y j=ix (AW st) (sa+na+j):=λj hj=>ZA (by lia) (by lia)
 have xH:∀z∈x.toList,∃j,j < na - k/\z=ix (AW st) (sa+k+j):=λz hz=>by
  have hz:z∈((AW st).extract (sa+k) (sa+k+(na - k))).toList:=by rw[show sa+k+(na - k)=sa+na by lia];exact hz
  exact RW (by lia) hz
 have xI:∀z∈y.toList,∃j,j < k3/\z=ix (AW st) (sa+na+j):=λz hz=>RW (by lia) hz
 have fin:∀(r:Array BV) (st':Bd),MQ a₀ κ uo st'->JF (Rl lt) (x.toList++y.toList) r.toList->∀j':Bd,AW j'=wr (AW st') (sa+k) r.toList.zipIdx->kindOf j'=kindOf st'->Js j'=Js st'->AZ j'=AZ st'->Q true j':=by
  intro r st' sm f j' q1 q2 q3 q4
  have hr:r.size=na - k+k3:=by
   have:=f.perm.length_eq;simp only[AX,Bq]at this
   lia
  have ha:AW st'=AW st:=sm.arr.trans a1;rw[ha]at q1
  have hb:sa+k+r.size<=(AW st).size:=by lia
  have mm:∀t,t < r.size->∃t',ix r t=ix (AW st) t'/\sa+k<=t'/\t' < sa+na+k3:=λt ht=>by
   have:ix r t∈r.toList:=Bk.mpr (Da (D9 ht))
   rcases A9.mp (f.perm.mem_iff.mp this)with h | h
   ·obtain⟨j,j1,e⟩:=xH _ h
    exact⟨_,e,by lia,by lia⟩
   ·obtain⟨j,j1,e⟩:=xI _ h
    exact⟨_,e,by lia,by lia⟩
  have rs:=W6 O (a:=r) (λt ht=>by
   obtain⟨t',e,_,_⟩:=mm t ht;rw[e]
   exact mem _ (by lia)) f.srt
  refine h j' ⟨?_,?_,?_⟩ (q4.trans (sm.pend.trans p1)) ?_ ?_
  ·rw[q1]
   refine(jy hb (f.perm.trans ?_)).trans g.perm
   have:(AW st).toList.drop (sa+k)=x.toList++(AW st).toList.drop (sa+na):=by
    have:=Jj (a:=AW st) (i:=sa+k) (k:=na - k) (by lia);rw[show sa+k+(na - k)=sa+na by lia]at this;exact this
   have h2:(AW st).toList.drop (sa+na)=y.toList++(AW st).toList.drop (sa+na+k3):=Jj (by lia);have h3:(AW st).toList.drop (sa+k)=((AW st).extract (sa+k) (sa+k+r.size)).toList++(AW st).toList.drop (sa+k+r.size):=Jj hb;rw[this,h2,<-Bu,show sa+k+r.size=sa+na+k3 by lia]at h3;rw[show sa+k+r.size=sa+na+k3 by lia];exact Zd (List.append_cancel_right h3)
  ·rw[q2];exact sm.good.kind
  ·rw[q3];exact sm.good.failed
  ·rw[q1]
   intro i j h1 h2 h3;show Rl lt _ _;rw[fq hb,fq hb]
   by_cases i1:i < sa+k
   ·rw[qX i1]
    by_cases j1:j < sa+k
    ·rw[qX j1];exact ua i j h1 h2 (by lia)
    rw[qY j1]
    by_cases j2:j < sa+k+r.size
    ·rw[qX j2]
     obtain⟨t,e,t1,t2⟩:=mm (j - (sa+k)) (by omega);rw[e]
     by_cases t3:t < sa+na
     ·exact ua i t h1 (by lia) t3
     ·exact yQ i t h1 i1 (by lia) (by lia)
    ·rw[qY j2];exact yQ i j h1 i1 (by lia) (by lia)
   rw[qY i1,qY (show ¬j < sa+k by lia)]
   by_cases i2:i < sa+k+r.size
   ·rw[qX i2]
    by_cases j2:j < sa+k+r.size
    ·rw[qX j2];exact rs _ _ (by lia) (by omega)
    ·rw[qY j2]
     obtain⟨t,e,t1,t2⟩:=mm (i - (sa+k)) (by omega);rw[e]
     by_cases t3:t < sa+na
     ·exact tr _ _ _ (mem _ (by lia)) (mem _ (by lia)) (mem _ (by lia)) (ua t (sa+na - 1) (by lia) (by lia) (by lia)) (high j (by lia) (by lia))
     ·exact ub t j (by lia) (by lia) (by lia)
   ·rw[qY i2,qY (show ¬j < sa+k+r.size by lia)]
    exact ub i j (by lia) h2 (by lia)
  ·rw[q1]
   intro i hi;rw[fq hb]
   by_cases i1:i < sa+k
   ·rw[qX i1]
   ·rw[qY i1,qY (by lia)]
 have args:∀{P:Prop},((∀z∈x.toList,z∈a₀)->(∀z∈y.toList,z∈a₀)->x.toList.Pairwise (Rl lt)->y.toList.Pairwise (Rl lt)->0 < x.size->0 < y.size->(∀z∈x.toList,Rl lt (ix y 0) z)->(∀z∈y.toList,Rl lt z (ix x (x.size - 1)))->P)->P:=by
  intro P hP
  refine hP (λz hz=>?_) (λz hz=>?_) (da (by lia) λi j h1 h2 h3=>ua i j (by lia) h2 h3) (da (by lia) λi j h1 h2 h3=>ub i j h1 h2 (by lia)) (by lia) (by lia) (λz hz=>?_) λz hz=>?_
  ·obtain⟨j,j1,rfl⟩:=xH z hz
   exact mem _ (by lia)
  ·obtain⟨j,j1,rfl⟩:=xI z hz
   exact mem _ (by lia)
  ·obtain⟨j,j1,rfl⟩:=xH z hz
   rw[ixy 0 (by lia)];have:=k2 (k+j) (by lia) (by lia);rw[show sa+(k+j)=sa+k+j by lia]at this;exact O.asym _ _ (mem _ (by lia)) (mem _ (by lia)) (by simpa using this)
  ·obtain⟨j,j1,rfl⟩:=xI z hz
   rw[xs,ixx _ (by lia),show sa+k+(na - k - 1)=sa+na - 1 by lia];exact O.asym _ _ (mem _ (by lia)) (mem _ (by lia)) (k4 j j1)
 refine(show wpS (Ad prog w) A E s (if na - k<=k3 then mLo x y >>= _ else mHi x y >>= _) Q uo from ?_);split
 ·refine AQ (args λb1 b2 b3 b4 b5 b6 b7 b8=>ik C O g1 b1 b2 b3 b4 b5 b6 b7 b8 λr st' sm f=>?_)
  refine AQ (EF (AQ (Ia (AR ?_))));have q:=fin r st' sm f (setArr st' (wr (AW st') (sa+k) r.toList.zipIdx)) rfl rfl rfl rfl;rw[<-show(Js st').isNone=true by rw[sm.good.failed];rfl]at q;exact q
 ·refine AQ (args λb1 b2 b3 b4 b5 b6 b7 b8=>il C O g1 b1 b2 b3 b4 b5 b6 b7 b8 λr st' sm f=>?_)
  refine AQ (EF (AQ (Ia (AR ?_))));have q:=fin r st' sm f (setArr st' (wr (AW st') (sa+k) r.toList.zipIdx)) rfl rfl rfl rfl;rw[<-show(Js st').isNone=true by rw[sm.good.failed];rfl]at q;exact q
end
theorem kY[Decidable c](h:1 < z):(if c then z - 2 - 1 else z - 2)+1 < z:=by split <;> omega
def Stk(lt:BV->BV->Bool)(arr:Array BV):List (Nat×Nat×Nat)->Nat->Nat->Prop
 | [],lo,hi=>lo=hi
 | (s,n,_) :: r,lo,hi=>s=lo/\1<=n/\Up lt arr s (s+n)/\Stk lt arr r (s+n) hi
section
theorem Stk.le:∀{l:List (Nat×Nat×Nat)} {lo hi:Nat},Stk lt arr l lo hi->lo+l.length<=hi
 | [],lo,hi,h=>by cases h;simp
 | (s,n,_) :: r,lo,hi,⟨h1,h2,_,h4⟩=>by
  have:=Stk.le h4;rw[BB]
  lia
theorem Stk.app:∀{l r:List (Nat×Nat×Nat)} {lo hi:Nat},Stk lt arr (l++r) lo hi↔∃mid,Stk lt arr l lo mid/\Stk lt arr r mid hi
 | [],r,lo,hi=>⟨λh=>⟨lo,rfl,h⟩,λ⟨_,e,h⟩=>by cases e;exact h⟩
 | (s,n,_) :: l,r,lo,hi=>by
  constructor
  ·rintro⟨h1,h2,h3,h4⟩
   obtain⟨mid,a,b⟩:=Stk.app.mp h4;exact⟨mid,⟨h1,h2,h3,a⟩,b⟩
  ·rintro⟨mid,⟨h1,h2,h3,h4⟩,b⟩
   exact⟨h1,h2,h3,Stk.app.mpr ⟨mid,h4,b⟩⟩
theorem Stk.pw(hf:∀x,(f x).1=x.1/\(f x).2.1=x.2.1):∀{l:List (Nat×Nat×Nat)} {lo hi:Nat} (i:Nat),Stk lt arr l lo hi->Stk lt arr (l.modify i f) lo hi
 | [],lo,hi,i,h=>by cases i <;> exact h
 | (s,n,p) :: r,lo,hi,0,h=>by
  obtain⟨e1,e2⟩:=hf (s,n,p);show Stk lt arr (f (s,n,p) :: r) lo hi;generalize f (s,n,p)=q at e1 e2;obtain⟨s',n',p'⟩:=q;dsimp only at e1 e2;subst e1 e2;exact h
 | (s,n,p) :: r,lo,hi,i+1,⟨h1,h2,h3,h4⟩=>⟨h1,h2,h3,Stk.pw hf i h4⟩
theorem Stk.out:∀{l:List (Nat×Nat×Nat)} {lo hi x y:Nat},Stk lt arr l lo hi->Out arr arr' x y->(hi<=x∨y<=lo)->Stk lt arr' l lo hi
 | [],lo,hi,x,y,h,o,d=>h
 | (s,n,_) :: r,lo,hi,x,y,⟨h1,h2,h3,h4⟩,o,d=>by
  have:=h4.le;exact⟨h1,h2,h3.out o (by lia),Stk.out h4 o (by lia)⟩
end
section
theorem Out.wide(o:Out xs ys l h)(h1:l'<=l)(h2:h<=h'):Out xs ys l' h':=λi hi=>o i (by lia)
theorem LI{st:Bd}{i hi:Nat}{Q:Bool->Bd->Prop}(C:MH prog w A s a₀ κ lt)(O:Ord (·∈a₀) lt)(g:Good a₀ κ st)(k:Stk lt (AW st) (AZ st).toList 0 hi)(hs:hi<=a₀.size)(vA:i+1 < (AZ st).size)
  (h:∀st',Good a₀ κ st'->Stk lt (AW st') (AZ st').toList 0 hi->(AZ st').size+1=(AZ st).size->Out (AW st) (AW st') 0 hi->Q true st'):wpS (Ad prog w) A E s (mergeAt' i) Q st:=by
 obtain⟨sa,na,pw,e1⟩:∃sa na pw,(AZ st)[i]?=some (sa,na,pw):=⟨_,_,_,getElem?_pos (AZ st) i (by lia)⟩
 obtain⟨sb,nb,pw2,e2⟩:∃sa na pw,(AZ st)[i+1]?=some (sa,na,pw):=⟨_,_,_,getElem?_pos (AZ st) (i+1) vA⟩
 obtain⟨l,r,el,hl⟩:∃l r,(AZ st).toList=l++(sa,na,pw) :: (sb,nb,pw2) :: r/\l.length=i:=by
  have a1:(AZ st).toList[i]?=some (sa,na,pw):=by simpa using e1
  have a2:(AZ st).toList[i+1]?=some (sb,nb,pw2):=by simpa using e2
  obtain⟨b1,c1⟩:=AE.mp a1;obtain⟨b2,c2⟩:=AE.mp a2;refine⟨(AZ st).toList.take i,(AZ st).toList.drop (i+2),?_,by rw[Di];lia⟩
  conv=>lhs;rw[<-IS i (AZ st).toList,DZ b1,DZ b2,c1,c2]
 rw[el]at k;obtain⟨mid,k1,⟨q1,q2,q3,⟨q4,q5,q6,q7⟩⟩⟩:=Stk.app.mp k;have hle:=q7.le;have hle1:=k1.le
 refine Wo C O g e1 e2 q4 q2 q5 (by lia) q3 q6 λst' g' p' u' o'=>?_
 have pl:(AZ st').toList=l++(sa,na+nb,pw) :: r:=by
  rw[p',Array.toList_eraseIdxIfInBounds,Tf,el];rw[List.set_append_right _ _ (by lia),hl,Nat.sub_self,List.set_cons_zero,List.eraseIdx_append_of_length_le (by lia),show i+1 - l.length=1 by lia];rfl
 refine h st' g' ?_ ?_ (o'.wide (by lia) (by lia))
 ·rw[pl]
  refine Stk.app.mpr ⟨mid,k1.out o' (.inl (by lia)),q1,by lia,u',?_⟩
  have e:sb+nb=sa+(na+nb):=by lia
  rw[e]at q7;exact q7.out o' (.inr (by lia))
 ·have z1:=congrArg Il pl
  have z2:=congrArg Il el;simp at z1 z2
  lia
theorem wpS_sortRuns{st:Bd}{Q:Unit->Bd->Prop}(C:MH prog w A s a₀ κ lt)(O:Ord (·∈a₀) lt)(g:Good a₀ κ st)(hp:AZ st = #[])
  (h:∀st',Good a₀ κ st'->Up lt (AW st') 0 a₀.size->Q () st'):wpS (Ad prog w) A E s sortRuns' Q st:=by
 rw[sortRuns'_eq];refine AQ (Ia ?_);dsimp only;rw[g.size];generalize minRun' a₀.size a₀.size 0=mr
 refine AQ (D6 (Cc (I:=λx c st'=>∃lo,c=(none,lo)/\Good a₀ κ st'/\Stk lt (AW st') (AZ st').toList 0 lo/\lo<=a₀.size/\min x a₀.size<=lo)
  (Q:=λc st'=>c=(none,a₀.size)/\Good a₀ κ st'/\Stk lt (AW st') (AZ st').toList 0 a₀.size) ?step ?fin ?init) ?post)
 case init=>exact⟨0,rfl,g,by rw[hp];rfl,by lia,by lia⟩
 case fin=>
  rintro c st' ⟨lo,rfl,g',k',h1,h2⟩
  have:lo=a₀.size:=by lia
  subst this;exact⟨rfl,g',k'⟩
 case step=>
  rintro x c uo _ hx ⟨lo,rfl,g1,k1,h1,h2⟩;dsimp only
  by_cases uP:lo ≥ a₀.size
  ·rw[qX uP]
   have:lo=a₀.size:=by lia
   subst this;exact AR ⟨rfl,g1,k1⟩
  rw[qY uP];refine AQ (wpS_countRun C O (by lia) (by lia) g1 λj' n g2 n1 n2 u2 o2 p2=>?_);dsimp only
  have k2:Stk lt (AW j') (AZ j').toList 0 lo:=by
   rw[p2];exact k1.out o2 (.inl (AL _))
  by_cases hm:n < mr
  ·rw[qX hm]
   refine AQ (Kn ?_);refine AQ (wpS_binarySort C O (by lia) (by omega) g2 u2 λvb g3 u3 o3 p3=>?_)
   have k3:Stk lt (AW vb) (AZ vb).toList 0 lo:=by
    rw[p3];exact k2.out o3 (.inl (AL _))
   rw[qY (by simp)];refine AQ (Ia ?_)
   cases hb:(AZ vb).back? with
   | none=>
    dsimp only;refine AQ (EF (AR ⟨lo+min (a₀.size - lo) mr,rfl,⟨g3.perm,g3.kind,g3.failed⟩,?_,by lia,by lia⟩));show Stk lt (AW vb) ((AZ vb).push (lo,min (a₀.size - lo) mr,0)).toList 0 (lo+min (a₀.size - lo) mr);rw[Kg];exact Stk.app.mpr ⟨lo,k3,rfl,by omega,u3,rfl⟩
   | some t=>
    obtain⟨s1,n1,z⟩:=t;dsimp only;generalize power' a₀.size (2 * s1+n1) (2 * s1+n1+n1+min (a₀.size - lo) mr) a₀.size=pw
    refine AQ (D6 (Cc (I:=λ_ c ud=>c=(none,())/\Good a₀ κ ud/\Stk lt (AW ud) (AZ ud).toList 0 lo/\Up lt (AW ud) lo (lo+min (a₀.size - lo) mr))
     (Q:=λc ud=>c=(none,())/\Good a₀ κ ud/\Stk lt (AW ud) (AZ ud).toList 0 lo/\Up lt (AW ud) lo (lo+min (a₀.size - lo) mr)) ?_ (λc ud h=>h) ⟨rfl,g3,k3,u3⟩) ?_)
    ·rintro x' c' ud _ _ ⟨rfl,g4,k4,u4⟩
     refine AQ (Ia ?_)
     by_cases hz:(AZ ud).size > 1
     ·rw[qX hz]
      obtain⟨s2,n2,uQ,e2⟩:∃s2 n2 uQ,(AZ ud)[(AZ ud).size - 2]?=some (s2,n2,uQ):=⟨_,_,_,getElem?_pos (AZ ud) ((AZ ud).size - 2) (by lia)⟩
      rw[e2];dsimp only
      by_cases ho:uQ<=pw
      ·rw[qX ho]
       exact AR ⟨rfl,g4,k4,u4⟩
      ·rw[qY ho]
       refine AQ (LI C O g4 k4 (by omega) (by lia) λwg g5 k5 _ o5=>?_);exact AR ⟨rfl,g5,k5,u4.out o5 (.inr (by lia))⟩
     ·rw[qY hz]
      exact AR ⟨rfl,g4,k4,u4⟩
    ·rintro c' ud ⟨rfl,g4,k4,u4⟩
     dsimp only;refine AQ (EF (AQ (EF (AR ⟨lo+min (a₀.size - lo) mr,rfl,⟨g4.perm,g4.kind,g4.failed⟩,?_,by lia,by lia⟩))));show Stk lt (AW ud) ((((AZ ud).modify ((AZ ud).size - 1) λx=>(x.fst,x.2.fst,pw))).push (lo,min (a₀.size - lo) mr,0)).toList 0 (lo+min (a₀.size - lo) mr);rw[Kg,Zg];exact Stk.app.mpr ⟨lo,Stk.pw (f:=λx=>(x.fst,x.2.fst,pw)) (λx=>⟨rfl,rfl⟩) _ k4,rfl,by omega,u4,rfl⟩
  ·rw[qY hm]
   refine AQ (Ia ?_)
   cases hb:(AZ j').back? with
   | none=>
    dsimp only;refine AQ (EF (AR ⟨lo+n,rfl,⟨g2.perm,g2.kind,g2.failed⟩,?_,by lia,by lia⟩));show Stk lt (AW j') ((AZ j').push (lo,n,0)).toList 0 (lo+n);rw[Kg];exact Stk.app.mpr ⟨lo,k2,rfl,by omega,u2,rfl⟩
   | some t=>
    obtain⟨s1,n1,z⟩:=t;dsimp only;generalize power' a₀.size (2 * s1+n1) (2 * s1+n1+n1+n) a₀.size=pw
    refine AQ (D6 (Cc (I:=λ_ c ud=>c=(none,())/\Good a₀ κ ud/\Stk lt (AW ud) (AZ ud).toList 0 lo/\Up lt (AW ud) lo (lo+n))
     (Q:=λc ud=>c=(none,())/\Good a₀ κ ud/\Stk lt (AW ud) (AZ ud).toList 0 lo/\Up lt (AW ud) lo (lo+n)) ?_ (λc ud h=>h) ⟨rfl,g2,k2,u2⟩) ?_)
    ·rintro x' c' ud _ _ ⟨rfl,g4,k4,u4⟩
     refine AQ (Ia ?_)
     by_cases hz:(AZ ud).size > 1
     ·rw[qX hz]
      obtain⟨s2,n2,uQ,e2⟩:∃s2 n2 uQ,(AZ ud)[(AZ ud).size - 2]?=some (s2,n2,uQ):=⟨_,_,_,getElem?_pos (AZ ud) ((AZ ud).size - 2) (by lia)⟩
      rw[e2];dsimp only
      by_cases ho:uQ<=pw
      ·rw[qX ho]
       exact AR ⟨rfl,g4,k4,u4⟩
      ·rw[qY ho]
       refine AQ (LI C O g4 k4 (by omega) (by lia) λwg g5 k5 _ o5=>?_);exact AR ⟨rfl,g5,k5,u4.out o5 (.inr (by lia))⟩
     ·rw[qY hz]
      exact AR ⟨rfl,g4,k4,u4⟩
    ·rintro c' ud ⟨rfl,g4,k4,u4⟩
     dsimp only;refine AQ (EF (AQ (EF (AR ⟨lo+n,rfl,⟨g4.perm,g4.kind,g4.failed⟩,?_,by lia,by lia⟩))));show Stk lt (AW ud) ((((AZ ud).modify ((AZ ud).size - 1) λx=>(x.fst,x.2.fst,pw))).push (lo,n,0)).toList 0 (lo+n);rw[Kg,Zg];exact Stk.app.mpr ⟨lo,Stk.pw (f:=λx=>(x.fst,x.2.fst,pw)) (λx=>⟨rfl,rfl⟩) _ k4,rfl,by omega,u4,rfl⟩
 case post=>
  rintro c uo ⟨rfl,g1,k1⟩;dsimp only
  refine AQ (D6 (Cc (I:=λx c ud=>c=(none,())/\Good a₀ κ ud/\Stk lt (AW ud) (AZ ud).toList 0 a₀.size/\((AZ ud).size<=1∨(AZ ud).size+x<=a₀.size))
   (Q:=λc ud=>c=(none,())/\Good a₀ κ ud/\Stk lt (AW ud) (AZ ud).toList 0 a₀.size/\(AZ ud).size<=1) ?_ ?_ ?_) ?_)
  ·rintro x c ud _ _ ⟨rfl,g4,k4,d⟩
   refine AQ (Ia ?_)
   by_cases hz:(AZ ud).size<=1
   ·rw[qX hz]
    exact AR ⟨rfl,g4,k4,hz⟩
   ·rw[qY hz]
    refine AQ (LI C O g4 k4 (AL _) (kY (by lia)) λwg g5 k5 z5 o5=>?_);exact AR ⟨rfl,g5,k5,.inr (by lia)⟩
  ·rintro c ud ⟨rfl,g4,k4,d⟩
   exact⟨rfl,g4,k4,by lia⟩
  ·refine⟨rfl,g1,k1,.inr ?_⟩
   have:=k1.le;simp at this;omega
  ·rintro c ud ⟨rfl,g4,k4,d⟩
   refine AR (h ud g4 ?_);generalize hl:(AZ ud).toList=l at k4
   have hd:l.length<=1:=by rw[<-hl];simpa using d
   match l,k4,hd with
   | [],k4,_=>exact λi j h1 h2 h3=>by have:(0:Nat)=a₀.size:=k4;lia
   | [(s,n,_)],⟨e1,_,u,e2⟩,_=>
    have e2:s+n=a₀.size:=e2;rw[e2,e1]at u;exact u
end
def ltL:ZLi->ZLi->Bool
 | [],[]=>false
 | [],_ :: _=>true
 | _ :: _,[]=>false
 | x :: xs,y :: ys=>if x=y then ltL xs ys else decide (x < y)
theorem Sf:∀x y,ltL x y=true->ltL y x=false
 | [],[],h=>by cases h
 | [],_ :: _,_=>rfl
 | _ :: _,[],h=>by cases h
 | x :: xs,y :: ys,h=>by
  unfold ltL at h ⊢
  by_cases e:x=y
  ·rw[qX e]at h;rw[qX e.symm];exact Sf xs ys h
  ·rw[qY e]at h;rw[qY (Ci e)];simp at h ⊢;lia
theorem V0:∀x y z,ltL y x=false->ltL z y=false->ltL z x=false
 | [],y,[],_,_=>rfl
 | [],[],_ :: _,_,_=>rfl
 | [],_ :: _,_ :: _,_,_=>rfl
 | x :: xs,[],z,h,_=>by cases h
 | _,y :: ys,[],_,h=>by cases h
 | x :: xs,y :: ys,z :: zs,h1,h2=>by
  unfold ltL at h1 h2 ⊢
  by_cases e1:y=x
  ·rw[qX e1]at h1
   subst e1
   by_cases e2:z=y
   ·rw[qX e2]at h2 ⊢
    exact V0 xs ys zs h1 h2
   ·rw[qY e2]at h2 ⊢;exact h2
  ·rw[qY e1]at h1
   by_cases e2:z=y
   ·subst e2;rw[qY e1];exact h1
   ·rw[qY e2]at h2
    by_cases e3:z=x
    ·subst e3;simp at h1 h2;lia
    ·rw[qY e3];simp at h1 h2 ⊢;lia
theorem Z9:∀x y,ltL x y=false->ltL y x=false->x=y
 | [],[],_,_=>rfl
 | [],_ :: _,h,_=>by cases h
 | _ :: _,[],_,h=>by cases h
 | x :: xs,y :: ys,h1,h2=>by
  unfold ltL at h1 h2
  by_cases e:x=y
  ·rw[qX e]at h1;rw[qX e.symm]at h2;rw[e,Z9 xs ys h1 h2]
  ·rw[qY e]at h1;rw[qY (Ci e)]at h2;simp at h1 h2;lia
def ltK(f:AJ->ZLi)(x y:BV):Bool:=ltL (f x.1) (f y.1)
theorem kA(f:AJ->ZLi)(U:BV->Prop):Ord U (ltK f):=⟨λx y _ _ h=>Sf _ _ h,λx y z _ _ _ h1 h2=>V0 _ _ _ h1 h2⟩
section
theorem Yt(o:Bool)(h:Q (decide (a < b)) s):Aq (Ad prog w) A (oneLt' o (.int a t) (.int b u)) Q E s:=by
 cases o with
 | true=>exact oneLt_int h
 | false=>
  rw[oneLt'_eq];simp only[EY,if_false];exact AC (wpAny_lt_int (EE h))
def ZW(s:AS)(v:AJ)(ns:ZLi):Prop:=∃a i',v=.ref a/\s.heap.IsTuple a i'/\G9 i'.toList ns
def tR(o:Bool):(AJ×AJ)×Nat->Option Bool×Unit->Sem (ForInStep (Option Bool×Unit)):=λe _=>match e with
 | ((p,q),i)=>eqBool p q >>= λc=>if (!c)=true then oneLt' (o&&i==0) p q >>= λb=>pure (.done (some b,()))else pure (.yield (none,()))
theorem ff(o:Bool)(x y:AJ):keyLt' (qL o) x y=(Jx x >>= λr=>Jx y >>= λq=>forIn (r.toList.zip q.toList).zipIdx ((none,()):Option Bool×Unit) (tR o) >>= λz=>match z.1 with
  | some b=>pure b
  | none=>pure (decide (r.size < q.size))):=by kernel_rfl
theorem gu(o:Bool):∀{is js:List AJ} {ns ms:ZLi} (k:Nat) {Q:Bool->AS->Prop},G9 is ns->G9 js ms->Q (ltL ns ms) s ->
  Aq (Ad prog w) A (forIn ((is.zip js).zipIdx k) ((none,()):Option Bool×Unit) (tR o) >>= λz=>match z.1 with
   | some b=>pure b
   | none=>pure (decide (n0+is.length < n0+js.length))) Q E s:=by
 intro is
 induction is with
 | nil=>
  intro js ns ms k Q h1 h2 hq;cases h1;rw[List.zip_nil_left,iV,UG];refine AC (AO (AO ?_))
  cases h2 with
  | nil=>simpa[ltL]using hq
  | cons m t h=>simpa[ltL]using hq
 | cons v is ih=>
  intro js ns ms k Q h1 h2 hq
  cases h1 with
  | cons n t h1=>
   cases h2 with
   | nil=>
    rw[cj,iV,UG];refine AC (AO (AO ?_));rw[wY (by rw[BB,Me];lia)];exact hq
   | cons m u h2=>
    rw[Ph,List.zipIdx_cons,iX];rw[bind_assoc];unfold ltL at hq;refine AC ?_;refine AC (qh ?_)
    by_cases e:n=m
    ·rw[qX e]at hq
     rw[qY (by simp[e])];refine AO ?_;have:=ih (k+1) h1 h2 hq;simpa[Nat.add_lt_add_iff_left]using this
    ·rw[qY e]at hq
     rw[qX (by simp[e])];refine AC (Yt _ (AO ?_));exact AC (AO (AO hq))
end
section
theorem P0(h:ZW s v ns):∃i':Array AJ,G9 i'.toList ns/\s.TypeIs v "tuple"/\∀(E:AJ->AS->Prop) (Q:Array AJ->AS->Prop),Q i' s->Aq (Ad prog w) A (Jx v) Q E s:=by
 obtain⟨a,i',rfl,⟨o,ho,hc,n,hd⟩,hi⟩:=h;exact⟨i',hi,⟨o,ho,hc⟩,λE Q q=>listItems_at ho hd q⟩
theorem lG(o:Bool)(hx:ZW s x ns)(hy:ZW s y ms)(h:Q (ltL ns ms) s):Aq (Ad prog w) A (keyLt' (qL o) x y) Q E s:=by
 obtain⟨r,hr,_,wr⟩:=P0 (prog:=prog) (w:=w) (A:=A) hx;obtain⟨q,hq,_,wq⟩:=P0 (prog:=prog) (w:=w) (A:=A) hy;rw[ff];refine AC (wr E _ (AC (wq E _ ?_)));have:=gu (prog:=prog) (w:=w) (A:=A) (E:=E) (n0:=0) o 0 hr hq h;simp only[Ht,Bq]at this;exact this
theorem cL(h:ZW s v (n :: ns))(hq:∀t,Q (some (.int n t)) s):Aq (Ad prog w) A (au v) Q E s:=by
 obtain⟨r,hr,ty,wr⟩:=P0 (prog:=prog) (w:=w) (A:=A) h;refine(AC (TQ ty ?_):Aq _ _ (au v) Q E s);refine(show Aq (Ad prog w) A (if (G8 "tuple" != G8 "tuple")=true then _ else _) Q E s from ?_);rw[qY (by simp)];refine AC (wr E _ (AO ?_));generalize hl:r.toList=l at hr
 cases hr with
 | cons _ t h2=>
  have:r[0]?=some (.int n t):=by
   rw[<-YC,hl];rfl
  rw[this];exact hq t
theorem Sw:∀{vs:List AJ},(∀v∈vs,∃n ns,ZW s v (n :: ns))->∀{Q:List (Option AJ)->AS->Prop},(∀is ns,G9 is ns->is.length=vs.length->Q (is.map some) s)->Aq (Ad prog w) A (vs.mapM au) Q E s
 | [],_,Q,h=>by
  rw[List.mapM_nil];exact AO (h [] [] .nil rfl)
 | v :: vs,hv,Q,h=>by
  obtain⟨n,ns,hn⟩:=hv v Af;rw[List.mapM_cons];refine AC (cL hn λt=>AC (Sw (λv yt=>hv v (AY _ yt)) λis ms h1 h2=>AO ?_));exact h (.int n t :: is) (n :: ms) (.cons n t h1) (by rw[BB,h2,BB])
theorem Vt(h:G9 is ns)(h0:is≠[]):oneTypeOnly' is.toArray=pure (some (.type "int")):=by
 rw[oneTypeOnly'_eq,cv,mapM_typeOf_ints h];simp only[map_pure,pure_bind]
 cases is with
 | nil=>exact zX rfl h0
 | cons v is=>
  have e0:(Qa (λ_=>G8 "int") (v :: is)).toArray[0]?=some (G8 "int"):=by simp
  have e1:((Qa (λ_=>G8 "int") (v :: is)).toArray.all λx=>x==G8 "int")=true:=by
   simp only[List.all_toArray,qe,MD]
   exact λ_ _=>rfl
  rw[e0];simp only[e1,if_true]
theorem fb(hv:∀v∈vs,∃n ns,ZW s v (n :: ns))(h0:vs≠[])(h:Q (qL true) s):Aq (Ad prog w) A (keyKind' vs.toArray) Q E s:=by
 rw[keyKind'_eq,cv];refine AC ?_;rw[map_eq_pure_bind];refine AC (Sw hv λis ns h1 h2=>AO ?_)
 have xw:((is.map some).toArray.all λx=>x.isSome)=true:=by simp
 rw[qX xw];refine AC (YD ?_)
 have hf:(is.map some).toArray.filterMap id=is.toArray:=by simp
 rw[hf,Vt h1 (by intro e;subst e;cases vs with | nil=>exact h0 rfl | cons=>simp at h2)];refine AC (AO (AO ?_));exact h
end
section
theorem Hx(h:x∈MU vs):x.1∈vs/\x.1=x.2:=by
 have:x∈(MU vs).toList:=Bk.mpr h;rw[pairsOf_toList]at this;exact⟨(mem_zip_self this).2,(mem_zip_self this).1⟩
theorem bq(vs:List AJ):(MU vs).map (·.2)=vs.toArray:=by
 apply Array.ext'
 rw[LH,pairsOf_toList];simp[List.map_snd_zip]
def WP(prog:Bs)(w:CV)(A:Cj)(s:AS)(vs:List AJ)(f:AJ->ZLi):Prop:=
 ∃κ:Po,(∀(Q:Po->AS->Prop) (E:AJ->AS->Prop),Q κ s->Aq (Ad prog w) A (keyKind' vs.toArray) Q E s)/\MH prog w A s (MU vs) κ (ltK f)
theorem Tx(ho:s.heap.get? a=some (KD "list" vs.toArray n)) (hz:vs.length<=sizeLine)
  (hk:2<=vs.length->∀s':AS,(∀b o,b≠a->s.heap.get? b=some o->s'.heap.get? b=some o)->WP prog w A s' vs f)
  (h:∀out:Array AJ,out.toList.Perm vs->out.toList.Pairwise (λx y=>ltL (f y) (f x)=false)->P (.done (.ret .none)) { s with heap:=mM s.heap a vs out }) :
  Aq (Ad prog w) A (Builtin.«list.sort» ⟨[.ref a],[]⟩) P E s:=by
 have ha:a < s.heap.objs.size:=Am ho
 have hsz:vs.toArray.size=vs.length:=by simp
 obtain⟨e1,ho1⟩:∃e1,(s.heap.update a (GY λ_=>#[])).get? a=some (KD "list" #[] e1):=⟨_,get?_update_seq ho (λ_=>#[])⟩
 have zK:(((s.heap.update a (GY λ_=>#[])).push (KD "tuple" vs.toArray 0)).push (KD "list" #[] 0)).get? a=some (KD "list" #[] e1):=
  AT _ (AT _ ho1)
 have old:∀b o,b≠a->s.heap.get? b=some o->(((s.heap.update a (GY λ_=>#[])).push (KD "tuple" vs.toArray 0)).push (KD "list" #[] 0)).get? b=some o:=λb o hb hg=>
  AT _ (AT _ (by rw[bC _ _ _ _ hb];exact hg))
 have fin:∀st':Bd,(AW st').Perm (MU vs)->(AW st').toList.Pairwise (Rl (ltK f))->P (.done (.ret .none)) { s with heap:=mM s.heap a vs ((AW st').map (·.2)) }:=by
  intro st' hp hs
  have vG:∀x∈(AW st').toList,x.1=x.2:=λx hx=>by
   have:x∈(MU vs).toList:=(GH.mp hp).mem_iff.mp hx;exact(Hx (Bk.mp this)).2
  refine h _ ?_ ?_
  ·have:=(GH.mp hp).map (·.2)
   rw[<-LH,<-LH,bq]at this;simpa using this
  ·rw[LH,Cf]
   refine hs.imp_of_mem λ{x y} hx hy r=>?_
   rw[<-vG x hx,<-vG y hy];exact r
 have last:∀st':Bd,(AW st').Perm (MU vs)->Js st'=none->(AW st').toList.Pairwise (Rl (ltK f))->(((AW st').map (·.2)).size<=sizeLine+1):=λst' hp _ _=>by
  rw[Array.size_map,hp.size_eq,pairsOf_size]
  lia
 rw[list_sort_plain];refine AC (listItems_at ho rfl (AC (aq ho rfl (AC (iN ho1 rfl (AC (wpAny_newTuple (AC (wpAny_newList (MY ?_)))))) ) (by rw[hsz];exact hz) (Dv _))));show Aq (Ad prog w) A _ P E { s with heap:=((s.heap.update a (GY λ_=>#[])).push (KD "tuple" vs.toArray 0)).push (KD "list" #[] 0) };dsimp only
 by_cases h2:vs.toArray.size < 2
 ·rw[qX h2,qX h2]
  refine AC (AO ?_);rw[StateT.run_pure]
  have hs0:(AW (IF YF (vs.toArray.zip vs.toArray) #[] 7 none)).toList.Pairwise (Rl (ltK f)):=by
   have:(AW (IF YF (vs.toArray.zip vs.toArray) #[] 7 none)).toList.length < 2:=by
    rw[Bq];show(MU vs).size < 2;rw[pairsOf_size];omega
   generalize (AW (IF YF (vs.toArray.zip vs.toArray) #[] 7 none)).toList=l at this
   match l,this with
   | [],_=>exact .nil
   | [x],_=>exact Wg _ _
   | _ :: _ :: _,h=>simp at h;lia
  refine AC (AO (AC (iN zK rfl (AC (aq zK rfl ?_ (Dv _) (last (IF YF (vs.toArray.zip vs.toArray) #[] 7 none) (Pi _) rfl hs0))))));simp only[bne_self_eq_false,EY,if_false];exact AO (fin (IF YF (vs.toArray.zip vs.toArray) #[] 7 none) (Pi _) hs0)
 ·rw[qY h2,qY h2]
  obtain⟨κ,kk,C⟩:=hk (by lia) { s with heap:=((s.heap.update a (GY λ_=>#[])).push (KD "tuple" vs.toArray 0)).push (KD "list" #[] 0) } old;refine AC (kk _ _ ?_)
  refine AC (Hr (Srt.wpS_sortRuns (a₀:=MU vs) (st:=IF κ (vs.toArray.zip vs.toArray) #[] 7 none)
   (Q:=λ_ st'=>(AW st').Perm (MU vs)/\Js st'=none/\(AW st').toList.Pairwise (Rl (ltK f))) C (kA f _) ⟨Pi _,rfl,rfl⟩ rfl λst' g u=>⟨g.perm,g.failed,?_⟩) ?_ λ_ _ e=>e)
  ·have:=da (a:=AW st') (lo:=0) (hi:=(AW st').size) (AL _) (by rw[g.size];exact u)
   rwa [Lr,List.drop_zero]at this
  rintro⟨⟨⟩,st'⟩ s' ⟨rfl,hp,hf,hs⟩;refine AC (iN zK rfl (AC (aq zK rfl ?_ (Dv _) (last st' hp hf hs))));rw[hf];simp only[bne_self_eq_false,EY,if_false];exact AO (fin st' hp hs)
theorem bR(h:∀v∈vs,ZW s v (f v)/\f v≠[])(h0:vs≠[]):WP prog w A s vs f:=
 ⟨qL true,λQ E q=>fb (λv hv=>by
  obtain⟨h1,h2⟩:=h v hv
  cases e:f v with
  | nil=>exact zX e h2
  | cons n ns=>exact⟨n,ns,by rw[<-e];exact h1⟩) h0 q,λx y hx hy Q E q=>lG true (h _ (Hx hx).1).1 (h _ (Hx hy).1).1 q⟩
def e8(v:AJ):ZLi:=[numOf v]
theorem bS(h:G9 vs ns)(h2:2<=vs.length):WP prog w A s vs e8:=by
 refine⟨oneType',λQ E q=>?_,λx y hx hy Q E q=>?_⟩
 ·match vs,h2,h with
  | v :: u :: r,_,h=>rw[keyKind_ints h];exact AO q
 ·obtain⟨n,t,e1⟩:=h.all _ (Hx hx).1
  obtain⟨m,u,e2⟩:=h.all _ (Hx hy).1;rw[keyLt'_oneType,e1,e2];refine oneLt_int ?_
  have:ltK e8 x y=decide (n < m):=by
   unfold ltK e8;rw[e1,e2];show(if n=m then false else decide (n < m))=_;split
   ·rename_i e;simp[e]
   ·rfl
  rw[<-this];exact q
end
def UC(h:DT)(d:Ab)(es:Array Qd)(ep:Nat):Prop:=∃o,h.get? d=some o/\o.ExactDict/\o.data=.dict es ep
theorem UC.at'(x:UC h d es ep)(e:∀o,h.get? d=some o->h'.get? d=some o):UC h' d es ep:=let ⟨o,ho,r⟩:=x;⟨o,e _ ho,r⟩
theorem UC.ty{s:AS}{d:Ab}{es:Array Qd}{ep:Nat}(x:UC s.heap d es ep):s.TypeIs (.ref d) "dict":=let ⟨o,ho,hc,_⟩:=x;⟨o,ho,hc.1⟩
section
theorem XR{Q:AJ->AS->Prop}(hd:(d==EG)=false)(hm:UC s.heap d es ep)
  (kq:Q (.ref s.heap.objs.size) { s with heap:=s.heap.push { cls:=.type "dict_keyiterator",data:=.fields #[.ref d,.int 0 0,.int es.size 0,.int ep 0] } }):Aq (Ad prog w) A (mO (.ref d)) Q E s:=by
 have hT:=hm.ty;obtain⟨o,ho,hc,yR⟩:=hm;refine wpAny_pyIter_slot hT Uy (Du Uy hT PySem.F.entry_dict_iter ?_ (PySem.F.args_dict_iter_1 _));unfold Builtin.«dict.__iter__»;refine AC ?_;unfold uC;refine AC (wpAny_notOrdered_dict hT (show Aq _ _ (pure (Bb d)) _ _ s from AO ?_));refine(show Aq _ _ (Rr d >>= _) _ _ s from ?_);unfold Rr;rw[qY (by simp[hd])];refine AC (AO (AC (TR ho yR (AC (Wb ho yR (AC (DG (AO ⟨_,rfl, "dict_keyiterator",_,⟨_,Ao _ rfl,rfl⟩,DD.lookup,?_⟩))))))));simpa[Pl]using kq
theorem XQ(ki:s.heap.IsKeyIter it d i es.size ep)(hm:UC s.heap d es ep)(hi:i < es.size)
  (kq:∀h',h'.IsKeyIter it d (i+1) es.size ep->FI it s.heap h'->Q (some es[i].key) { s with heap:=h' }):Aq (Ad prog w) A (Uu (.ref it)) Q E s:=by
 obtain⟨o,ho,hc,hd⟩:=id ki;obtain⟨od,yS,vE,yT⟩:=hm;unfold Uu;refine AC (RF (DQ (name:=Hs "__next__") ki.typeIs DD (Du DD ki.typeIs Nu (AC (AO (AC (AC ?_)))) (Nk _))))
 first | refine AC (FW ki.typeIs (AO (AC (Pk ho hd ?_)))) | refine AC (Hh ki.typeIs (AO (AC (Pk ho hd ?_))))
 simp only[show MX "dict_keyiterator" = false by decide,EY,if_false];refine(show Aq _ _ (if (Bb d==EV)=true then _ else _) _ _ s from ?_);rw[qY (λz:(Bb d==EV)=true=>AK z)];refine AC (AO (AC (TR yS yT ?_)));rw[qY (by simp)];refine AC (AO (AC (Wb yS yT ?_)));rw[qY (by simp)];refine AO ?_;simp only[show ¬((i:Int) < 0) by lia,if_false,As,UL hi];refine AC ?_
 first | refine AC (FW ki.typeIs (AO (AC (Of ki.typeIs ?_)))) | refine AC (Hh ki.typeIs (AO (AC (Of ki.typeIs ?_))))
 refine(show Aq _ _ (setField (.ref it) 1 (Pl ((i:Int)+1)) >>= _) _ _ s from ?_);have zL:(s.heap.update it (qZ (·.setIfInBounds 1 (Pl ((i:Int)+1))))).IsKeyIter it d (i+1) es.size ep:=⟨_,NU _ ho (Zb (KG hd _)),(iB ..).trans hc,by rw[KG hd];simp[Pl]⟩;refine AC (Pj ho hd (by simp) (AC (MY (AC (Of (s:={ s with heap:=s.heap.update it (qZ (·.setIfInBounds 1 (Pl ((i:Int)+1)))) }) zL.typeIs ?_)))));exact(show Aq _ _ (pure es[i].key) _ _ _ from AO (AO ⟨_,rfl,AO (kq _ zL (Hu ..))⟩))
theorem Zx(h0:A.handled=none)(ki:s.heap.IsKeyIter it d i es.size ep)(hm:UC s.heap d es ep)(hi:es.size<=i)
  (kq:∀h',Ze it s.heap h'->Q none { s with heap:=h' }):Aq (Ad prog w) A (Uu (.ref it)) Q E s:=by
 obtain⟨o,ho,hc,hd⟩:=id ki;obtain⟨od,yS,vE,yT⟩:=hm;unfold Uu;refine AC (RF (DQ (name:=Hs "__next__") ki.typeIs DD (Du DD ki.typeIs Nu (AC (AO (AC (AC ?_)))) (Nk _))))
 first | refine AC (FW ki.typeIs (AO (AC (Pk ho hd ?_)))) | refine AC (Hh ki.typeIs (AO (AC (Pk ho hd ?_))))
 simp only[show MX "dict_keyiterator" = false by decide,EY,if_false];refine(show Aq _ _ (if (Bb d==EV)=true then _ else _) _ _ s from ?_);rw[qY (λz:(Bb d==EV)=true=>AK z)];refine AC (AO (AC (TR yS yT ?_)));rw[qY (by simp)];refine AC (AO (AC (Wb yS yT ?_)));rw[qY (by simp)];refine AO ?_;simp only[show ¬((i:Int) < 0) by lia,if_false,As,Array.getElem?_eq_none hi];refine AC ?_
 first | refine AC (FW ki.typeIs (AO (show Aq _ _ (setField (.ref it) 0 .none >>= _) _ _ s from ?_))) | refine AC (Hh ki.typeIs (AO (show Aq _ _ (setField (.ref it) 0 .none >>= _) _ _ s from ?_)))
 refine AC (Pj ho hd (by simp) (show Aq _ _ (newExc (.type "StopIteration") [] >>= _) _ _ _ from AC ?_));simp only[newExc,newTuple];refine AC (DG (AC (m:=Pn _ _) (wpAny_of_eq (a:=EV) (by first | rfl | (simp only[Pn];rfl)) (DG ?_ (by size_fits)))) (by size_fits));simp only[raiseNew];refine AC (wpAny_handled ?_);rw[show A.in1.handled=none from h0];refine AC (AO (wpAny_throw ?_));refine AC (qf (T:="StopIteration") (b:=true) ⟨_,Ao _ rfl,rfl⟩ isSubtype_stop (AO ?_));exact kq _ (((Hu ..).extBut.push _).push _)
theorem bi(h0:A.handled=none)(I:Ab)(um:d≠I):Walks prog w A I [I,d] [I] es.size (λi v=>∃h:i < es.size,v=es[i].key) (λi h=>h.IsKeyIter I d i es.size ep/\UC h d es ep) where
 sub:=λx hx=>by simp at hx;simp[hx]
 frame:=λ_ _ _ st keep=>⟨st.1.at λo e=>keep I (by simp) o e,st.2.at' λo e=>keep d (by simp) o e⟩
 item:=λi s Q E hi st kq=>XQ st.1 st.2 hi λh' zL yU=>kq _ h' s.toks ⟨hi,rfl⟩ ⟨zL,st.2.at' λo e=>yU.extBut d o um e⟩ λb o hb e=>yU.extBut b o (λh=>hb (by simp[h])) e
 done:=λs Q E st kq=>Zx h0 st.1 st.2 (AL _) λh' Ο=>kq h' s.toks λb o hb e=>Ο b o (λh=>hb (by simp[h])) e
 self:=λ_ _ _ _ st kq=>iI st.1 kq
theorem Zw(lo:(d==EG)=false):PySem.W.KdlSrc prog w "dict" d d es.size (λi v=>∃h:i < es.size,v=es[i].key) (λh=>UC h d es ep) where
 type:=λ_ hm=>hm.ty
 there:=λ_ hm=>⟨let ⟨_,ho,_⟩:=hm;Am ho,let ⟨_,ho,_⟩:=hm;Am ho⟩
 keep:=λ_ _ hm hk=>hm.at' λo e=>hk d (.inl rfl) o e
 notList:=by decide
 notTuple:=by decide
 hint:=λ_ _ _ _ hm hq=>PySem.W.kdl_hint_dict hm.ty hq
 iter:=λ_ _ h0 hm=>⟨_,_,(λ_ _ hq=>XR lo hm hq),bi h0 _ (BN (let ⟨_,ho,_⟩:=hm;Am ho)),⟨⟨_,Ao _ rfl,rfl,rfl⟩,hm.at' λo e=>AT _ e⟩⟩
end
end Srt
namespace L2
open PySem PySem.Spec PyProof.Rows
open Srt (ltL)
theorem XT{α β:Type}{R:α->β->Prop}{l2 l2':List β}(p:l2.Perm l2'):∀{l1:List α},Gx R l1 l2->∃yI,Gx R yI l2'/\yI.Perm l1:=by
 induction p with
 | nil=>intro l1 h;cases h;exact⟨[],.nil,.refl _⟩
 | cons x _ ih=>
  intro l1 h
  cases h with
  | cons r t=>
   obtain⟨l',h1,h2⟩:=ih t;exact⟨_ :: l',.cons r h1,h2.cons _⟩
 | swap x y l=>
  intro l1 h
  cases h with
  | cons r t=>
   cases t with
   | cons r2 t=>exact⟨_ :: _ :: _,.cons r2 (.cons r t),List.Perm.swap _ _ _⟩
 | trans _ _ ih1 ih2=>
  intro l1 h;obtain⟨a,h1,h2⟩:=ih1 h;obtain⟨b,h3,h4⟩:=ih2 h1;exact⟨b,h3,h4.trans h2⟩
theorem O5{α β γ:Type}{R:α->β->Prop}{f:α->γ}{g:β->γ}:∀{l1:List α} {l2:List β},Gx R l1 l2->(∀a∈l1,∀b,R a b->g b=f a)->l2.map g=l1.map f
 | _,_,.nil,_=>rfl
 | _,_,.cons r t,h=>by rw[BG,BG,h _ Af _ r,O5 t λa ha=>h a (AY _ ha)]
theorem SR{α β:Type}{R:α->β->Prop}:∀{l1:List α} {l2:List β} {b:β},Gx R l1 l2->b∈l2->∃a∈l1,R a b
 | _,_,_,.nil,h=>nomatch h
 | _,_,b,.cons r t,h=>by
  rcases Ap.mp h with h | h
  ·subst h;exact⟨_,Af,r⟩
  ·obtain⟨a,ha,e⟩:=SR t h
   exact⟨a,AY _ ha,e⟩
def Tv:V->Int
 | .int n=>n
 | _=>0
def bd(H:Hp):AJ->ZLi
 | .int n _=>[n]
 | .ref b=>match H b with
  | some (.tup xs)=>xs.map Tv
  | _=>[]
 | _=>[]
theorem QE(r:ZLi):(r.map V.int).map Tv=r:=by
 rw[BP];exact(E2 λa _=>rfl).trans (qd r)
def tV(K:AG)(H:Hp)(p:Ab)(G:List V->Prop):Prop:=
 (∃vs,(SqL K H p vs∨SqT K H p vs)/\G vs)∨(∃f',H p=some (.dK f')/\G (f'.map λx=>kV x.1)) ∨
  ∃f',H p=some (.dT f')/\∀bs:List Ab,Gx (λ(k:List Key×V) b=>H b=some (.tup (k.1.map kV))) f' bs->G (bs.map V.ref)
def Us(H:Hp)(f:V->ZLi)(vs:List V):Prop:=(∀v∈vs,∃n,v=.int n/\f v=[n])∨∀v∈vs,∃b,v=.ref b/\H b=some (.tup ((f v).map V.int))/\f v≠[]
def rh(K:AG):List V->Hp->VK->Prop:=λxs H Q=>∃p,xs=[.ref p]/\tV K H p λvs=>∃f:V->ZLi,Us H f vs /\
 ∀out,out.Perm vs->out.Pairwise (λx y=>ltL (f y) (f x)=false)->∀l,H l=none->Q (.ref l) (upd H l (.lst out))
theorem Us.rel(h:Us H f vs):∀v∈vs,∀u,RelV v u->bd H u=f v:=λv hv u r=>by
 rcases h with h | h
 ·obtain⟨n,rfl,e⟩:=h v hv
  obtain⟨t,rfl⟩:=r;exact e.symm
 ·obtain⟨b,rfl,e,_⟩:=h v hv
  cases r;show(match H b with | some (.tup xs)=>xs.map Tv | _=>[])=_;rw[e];exact QE _
theorem W9(hc:X.calm=true)(I:Inv X ζ σ H s)(h:tV X.K H p G) :
  ∃vs i',G vs/\B0 vs i'/\i'.length<=sizeLine/\∀(R:List AJ->AS->Prop) (E:AJ->AS->Prop),(∀(g:DT) (tk:Nat),(∀b o,s.heap.get? b=some o->g.get? b=some o)->R i' { s with heap:=g,toks:=tk })->Aq (Ad X.prog X.w) X.A.in1 (collect (.ref p)) R E s:=by
 have hh:X.A.handled=none:=I.ok.hd hc
 rcases h with⟨vs,sq,g⟩ | ⟨f',e,g⟩ | ⟨f',e,g⟩
 ·rcases sq with sq | sq
  ·obtain⟨i',rv,pl,hz⟩:=I.list sq
   refine⟨vs,i',g,rv,by rw[<-rv.length];exact hz,λR E k=>collect_list pl.isList (k _ s.toks λb o e=>?_) (by rw[<-rv.length];exact hz)⟩;rw[bC _ _ _ _ (BN (Am e))];exact AT _ e
  ·obtain⟨i',rv,⟨o,ho,xc,n,hd⟩,hz⟩:=I.tuple sq
   have hz':i'.length<=sizeLine:=by rw[<-rv.length];exact hz
   exact⟨vs,i',g,rv,hz',λR E k=>wpAny_collect_seq p (.inr rfl) ho xc hd (λh' kp=>by simpa using k h' s.toks kp) (by simpa using hz')⟩
 ·obtain⟨hz,sm,us,kv,o,es,ep,g1,g2,g3,g5,g6,_⟩:=(show Df X.prog X.w H s.heap p (.dK f')from I.hok p _ e)
  have hlen:es.size=f'.length:=by
   have a1:=g6.length;have a2:f'.length=us.length:=FK kv;rw[Bq]at a1
   lia
  have hv:B0 (f'.map λx=>kV x.1) (es.toList.map (·.key)):=by
   have key:∀{l:List Qd} {us:List (Key×AJ)} {f':List (Key×V)},Pairs (Ev X.prog X.w) l us->KV f' us->B0 (f'.map λx=>kV x.1) (l.map (·.key)):=by
    intro l us f' hp
    induction hp generalizing f' with
    | nil=>intro h;cases h;exact .nil
    | cons q1 q2 _ ih=>
     intro h
     cases h with
     | cons r t=>
      refine .cons ?_ (ih t);dsimp only;rw[r.1]
      rcases Do q1 with⟨i,t,e1,e2⟩ | ⟨x,t,e1,e2⟩
      ·rw[e1,e2];exact⟨t,rfl⟩
      ·rw[e1,e2];exact⟨t,rfl⟩
   exact key g6 kv
  refine⟨_,es.toList.map (·.key),g,hv,by rw[AF,Bq,hlen];exact hz,λR E k=>?_⟩
  refine X6 (Srt.Zw (es:=es) (ep:=ep) sm) hh ⟨o,g1,g2,g3⟩ (by rw[hlen];exact hz) λg' tk acc kp ac=>?_
  have:acc.toList=es.toList.map (·.key):=by
   apply Hl
   intro j
   by_cases hj:j < es.size
   ·have vZ:j < acc.size:=by rw[ac.1];exact hj
    obtain⟨_,e2⟩:=ac.2 j acc[j] (by simp[vZ]);simp[hj,vZ,e2]
   ·have vZ:¬j < acc.size:=by rw[ac.1];exact hj
    simp[hj,vZ]
  rw[this];exact k g' tk kp
 ·obtain⟨hz,sm,xs,rr,o,es,ep,g1,g2,g3,g4,_⟩:=(show Df X.prog X.w H s.heap p (.dT f')from I.hok p _ e)
  have hlen:es.size=f'.length:=by
   have a1:=congrArg Il g4;have a2:f'.length=xs.length:=FK rr;rw[Bq,AF]at a1
   lia
  have hb:Gx (λ(k:List Key×V) b=>H b=some (.tup (k.1.map kV))) f' (xs.map (·.2.1)):=by
   have key:∀{f':List (List Key×V)} {xs:List (List Key×Ab×AJ)},Gx (λ(p:List Key×V) (q:List Key×Ab×AJ)=>p.1=q.1/\H q.2.1=some (.tup (p.1.map kV))/\RelV p.2 q.2.2) f' xs->Gx (λ(k:List Key×V) b=>H b=some (.tup (k.1.map kV))) f' (xs.map (·.2.1)):=by
    intro f' xs h
    induction h with
    | nil=>exact .nil
    | cons r _ ih=>exact .cons r.2.1 ih
   exact key rr
  have hk:es.toList.map (·.key)=(xs.map (·.2.1)).map Bb:=by
   rw[g4,BP,BP];rfl
  have hv:∀l:List Ab,B0 (l.map V.ref) (l.map Bb):=λl=>by
   induction l with
   | nil=>exact .nil
   | cons a l ih=>exact .cons rfl ih
  refine⟨_,(xs.map (·.2.1)).map Bb,g _ hb,hv _,by rw[AF,AF,<-FK rr];exact hz,λR E k=>?_⟩
  refine X6 (Srt.Zw (es:=es) (ep:=ep) sm) hh ⟨o,g1,g2,g3⟩ (by rw[hlen];exact hz) λg' tk acc kp ac=>?_
  have:acc.toList=(xs.map (·.2.1)).map Bb:=by
   rw[<-hk]
   apply Hl
   intro j
   by_cases hj:j < es.size
   ·have vZ:j < acc.size:=by rw[ac.1];exact hj
    obtain⟨_,e2⟩:=ac.2 j acc[j] (by simp[vZ]);simp[hj,vZ,e2]
   ·have vZ:¬j < acc.size:=by rw[ac.1];exact hj
    simp[hj,vZ]
  rw[this];exact k g' tk kp
theorem XI{X:Cx}{s:AS}{H:Hp}{f:V->ZLi}{vs:List V}{i':List AJ}(I:∀b xs,H b=some (.tup xs)->∃is:List AJ,B0 xs is/\iZ s.heap b is.toArray)(h:Us H f vs)(rv:B0 vs i')(h2:2<=i'.length){A:Cj}:Srt.WP X.prog X.w A s i' (bd H):=by
 rcases id h with hi | ht
 ·have:∃ns,G9 i' ns:=by
   have key:∀{vs:List V} {i':List AJ},B0 vs i'->(∀v∈vs,∃n,v=.int n/\f v=[n])->∃ns,G9 i' ns:=by
    intro vs i' r
    induction r with
    | nil=>exact λ_=>⟨[],.nil⟩
    | cons r _ ih=>
     intro hv
     obtain⟨ns,vF⟩:=ih λv yt=>hv v (AY _ yt)
     obtain⟨n,rfl,_⟩:=hv _ Af;obtain⟨t,rfl⟩:=r;exact⟨n :: ns,.cons n t vF⟩
   exact key rv hi
  obtain⟨ns,vF⟩:=this;obtain⟨κ,k1,k2⟩:=Srt.bS (prog:=X.prog) (w:=X.w) (A:=A) (s:=s) vF h2;refine⟨κ,k1,λx y hx hy Q E q=>k2 x y hx hy Q E ?_⟩;obtain⟨n,t,e1⟩:=vF.all _ (Srt.Hx hx).1;obtain⟨m,u,e2⟩:=vF.all _ (Srt.Hx hy).1
  have e:Srt.ltK Srt.e8 x y=Srt.ltK (bd H) x y:=by
   unfold Srt.ltK Srt.e8;rw[e1,e2];rfl
  rw[e];exact q
 ·refine Srt.bR (λu hu=>?_) (by intro e;subst e;simp at h2)
  obtain⟨v,hv,r⟩:=SR rv hu;rw[h.rel v hv u r];obtain⟨b,rfl,e,ne⟩:=ht v hv;cases r;refine⟨⟨b,?_⟩,ne⟩;obtain⟨is,r,o,ho,xc,n,hd⟩:=I b _ e;exact⟨is.toArray,rfl,⟨o,ho,xc,n,hd⟩,by simpa using intsAre_of r⟩
theorem cU{X}(hc:X.calm=true):K5 X (.builtin "sorted") (rh X.K):=by
 intro ζ s σ H xs us Q I r h;obtain⟨p,rfl,src⟩:=h;obtain⟨u,rfl,rx⟩:=vals1 r;cases rx;obtain⟨vs,i',⟨f,rows,q⟩,rv,hz,col⟩:=W9 hc I src;refine Calls.call_function_entry kind_sorted plain_sorted entry_sorted (args_sorted1 _) ?_;unfold Builtin.«sorted»;refine AC (m:=checkCount "sorted" 1 1 _) (AO (AC (col _ _ λg tk kp=>?_)));refine AC (wpAny_newList ?_ hz);have I1:Inv X ζ σ H { s with heap:=g,toks:=tk }:=I.kept kp;have hl:(g.push (KD "list" i'.toArray 0)).get? g.objs.size=some (KD "list" i'.toArray 0):=Ao _ rfl;refine AC (MY (Du slot_list_sort ⟨_,hl,rfl⟩ entry_list_sort (Srt.Tx (f:=bd H) hl hz (λh2 s' keep=>?_) λout po so=>⟨_,rfl,AO ⟨_,rfl,?_⟩⟩) (args_list_sort _)))
 ·refine XI (λb xs e=>?_) rows rv h2
  obtain⟨_,is,r,o,ho,xc,n,hd⟩:=(show Df X.prog X.w H g b (.tup xs)from I1.hok b _ e);exact⟨is,r,o,keep b o (BN (Am ho)) (AT _ ho),xc,n,hd⟩
 ·obtain⟨vo,ro,pv⟩:=XT po.symm rv
  have so':vo.Pairwise (λx y=>ltL (f y) (f x)=false):=by
   have e:out.toList.map (bd H)=vo.map f:=O5 ro λa ha b rb=>rows.rel a (pv.mem_iff.mp ha) b rb
   have:=(Cf (f:=bd H) (R:=λx y=>ltL y x=false)).mpr so;rw[e]at this;exact Cf.mp this
  obtain⟨k,hk⟩:=sortedHeap_at (out:=out) hl
  have hlen:vo.length<=sizeLine:=by rw[pv.length_eq,rv.length];exact hz
  have I2:=I1.laid (a:=g.objs.size) (o:=.lst vo) (t':=tk) (h':=mM (g.push (KD "list" i'.toArray 0)) g.objs.size i' out)
   (λb u z=>by
    have lt:b < g.objs.size:=Am z;rw[sortedHeap_old (BN lt) (by rw[size_push'];exact Qt lt)]
    exact AT _ z) (AL _) ⟨hlen,out.toList,k,ro,hk⟩
  exact⟨.ref g.objs.size,_,I2,rfl,q vo pv so' _ (I1.hok.fresh (AL _))⟩
def B2(ns:ZLi):ZLi:=ns.mergeSort (λa b=>decide (a<=b))
@[simp] def bT:B2 []=[]:=by unfold B2;simp
theorem Eo(ns:ZLi):(B2 ns).Perm ns:=ay ns _
theorem SC(ns:ZLi):(B2 ns).Pairwise (·<=·):=by
 have:=Wh (le:=λa b:Int=>decide (a<=b)) (by intro a b c h1 h2;simp at h1 h2 ⊢;lia) (by intro a b;simp;lia) ns
 exact this.imp λh=>by simpa using h
def J1(rs:List ZLi):List ZLi:=rs.mergeSort (λa b=>!ltL b a)
theorem FA(rs:List ZLi):(J1 rs).Perm rs:=ay rs _
theorem SD(rs:List ZLi):(J1 rs).Pairwise (λa b=>ltL b a=false):=by
 have:=Wh (le:=λa b:ZLi=>!ltL b a) (by intro a b c h1 h2;simp at h1 h2 ⊢;exact Srt.V0 _ _ _ h1 h2) (by
  intro a b
  cases e:ltL b a with
  | false=>simp
  | true=>simp[Srt.Sf _ _ e]) rs
 exact this.imp λh=>by simpa using h
theorem UP{l l':List ZLi}(p:l.Perm l')(h:l.Pairwise (λa b=>ltL b a=false))(h':l'.Pairwise (λa b=>ltL b a=false)):l=l':=
 p.eq_of_pairwise (λa b _ _ h1 h2=>Srt.Z9 a b h2 h1) h h'
def Y9:Key->D
 | .inl i=>.int i
 | .inr x=>.str x
def KP(d:D)(S:Sto):Option (List D):=match d with
 | .fro ds=>some ds
 | .tup ds=>some ds
 | .ref n=>match S[n]? with
  | some (.lst ds)=>some ds
  | some (.dK f')=>some (f'.map λx=>Y9 x.1)
  | some (.dT f')=>some (f'.map λx=>.tup (x.1.map Y9))
  | _=>none
 | _=>none
def Nl(r:ZLi):D:=.tup (r.map D.int)
def N1:List D->Option (List ZLi)
 | []=>some []
 | .tup ds :: r=>match Je ds,N1 r with
  | some (n :: ns),some rs=>some ((n :: ns) :: rs)
  | _,_=>none
 | _ :: _=>none
def Kr(ds:List D):Option (List D):=match Je ds with
 | some ns=>some ((B2 ns).map D.int)
 | none=>match N1 ds with
  | some rs=>some ((J1 rs).map Nl)
  | none=>none
def Ds(m:ME):ME:=λe S=>(m e S).bind λd S1=>match KP d S1 with
 | some ds=>match Kr ds with
  | some es=>.ok (.ref S1.length) (S1++[.lst es])
  | none=>.bad
 | none=>.bad
section
theorem kO(x y:Int):ltL [y] [x]=decide (y < x):=by
 show(if y=x then false else decide (y < x))=_;split
 ·rename_i e;simp[e]
 ·rfl
def Tr(H:Hp):V->ZLi
 | .int n=>[n]
 | .ref b=>match H b with
  | some (.tup xs)=>xs.map Tv
  | _=>[]
 | _=>[]
theorem XJ{K}{ρ}{H}:∀{ds:List D} {rs:List ZLi} {vs:List V},N1 ds=some rs->A0 K ρ H ds vs->vs.map (Tr H)=rs/\∀v∈vs,∃b,v=.ref b/\H b=some (.tup ((Tr H v).map V.int))/\Tr H v≠[]
 | [],_,_,h,.nil=>by cases h;exact⟨rfl,λv hv=>nomatch hv⟩
 | .tup ts :: ds,rs,_,h,.cons r t=>by
  unfold N1 at h;split at h
  ·rename_i n ns rs' h1 h2
   cases h;obtain⟨i1,i2⟩:=XJ h2 t
   cases r with
   | @tup _ b ws hb rr=>
    have:=PP h1;subst this;have:=rr.ints;subst this
    have e:Tr H (.ref b)=n :: ns:=by
     show(match H b with | some (.tup xs)=>xs.map Tv | _=>[])=_;rw[hb];exact QE _
    refine⟨by rw[BG,e,i1],λv hv=>?_⟩
    rcases Ap.mp hv with hv | hv
    ·subst hv
     refine⟨b,rfl,?_,?_⟩
     ·rw[e];exact hb
     ·rw[e];exact List.cons_ne_nil _ _
    ·exact i2 v hv
  ·cases h
 | .non :: _,_,_,h,_=>by cases h
 | .bl _ :: _,_,_,h,_=>by cases h
 | .int _ :: _,_,_,h,_=>by cases h
 | .str _ :: _,_,_,h,_=>by cases h
 | .fro _ :: _,_,_,h,_=>by cases h
 | .ref _ :: _,_,_,h,_=>by cases h
 | .exc _ :: _,_,_,h,_=>by cases h
theorem XO{K}{ρ}{H}:∀{vs:List V},(∀v∈vs,∃b,v=.ref b/\H b=some (.tup ((Tr H v).map V.int))/\Tr H v≠[])->A0 K ρ H ((vs.map (Tr H)).map Nl) vs
 | [],_=>.nil
 | v :: vs,h=>by
  obtain⟨b,e,hb,_⟩:=h v Af;refine .cons ?_ (XO λu hu=>h u (AY _ hu));subst e;exact .tup hb (A0.of_ints _)
theorem du{K:AG}{ρ:List Ab}{H:Hp}{ds es:List D}{vs:List V}(h:Kr ds=some es)(r:A0 K ρ H ds vs) :
  ∃f:V->ZLi,Us H f vs/\∀out,out.Perm vs->out.Pairwise (λx y=>ltL (f y) (f x)=false)->A0 K ρ H es out:=by
 unfold Kr at h;split at h
 ·rename_i ns hz
  cases h;have:=PP hz;subst this;have:=r.ints;subst this;refine⟨λv=>[Tv v],.inl λv hv=>?_,λout po so=>?_⟩
  ·obtain⟨n,_,rfl⟩:=BO.mp hv
   exact⟨n,rfl,rfl⟩
  ·have e1:out=(out.map Tv).map V.int:=by
    rw[BP]
    conv=>lhs;rw[<-Rp out]
    refine E2 λv hv=>?_
    obtain⟨n,_,rfl⟩:=BO.mp (po.mem_iff.mp hv);rfl
   have e2:out.map Tv=B2 ns:=by
    have p1:(out.map Tv).Perm (B2 ns):=by
     have:=po.map Tv;rw[QE]at this;exact this.trans (Eo ns).symm
    refine p1.eq_of_pairwise (λa b _ _ h1 h2=>Int.le_antisymm h1 h2) ?_ (SC ns);rw[Cf]
    refine so.imp λ{x y} yP=>?_
    rw[kO]at yP;simp at yP;exact yP
   rw[e1,e2];exact A0.of_ints _
 ·split at h
  ·rename_i rs hr
   cases h;obtain⟨i1,i2⟩:=XJ hr r;refine⟨Tr H,.inr i2,λout po so=>?_⟩
   have e2:out.map (Tr H)=J1 rs:=by
    refine UP ?_ (Cf.mpr so) (SD rs);have:=po.map (Tr H);rw[i1]at this;exact this.trans (FA rs).symm
   rw[<-e2]
   exact XO λv hv=>i2 v (po.mem_iff.mp hv)
  ·cases h
theorem Sj{K}{ρ}{H}:∀ks:List Key,A0 K ρ H (ks.map Y9) (ks.map kV)
 | []=>.nil
 | .inl i :: ks=>.cons (.int i) (Sj ks)
 | .inr x :: ks=>.cons (.str x) (Sj ks)
theorem PK{K}{ρ}{H}:∀{f':List (Key×D)} {tx:List (Key×V)},KVR K ρ H f' tx->A0 K ρ H (f'.map λx=>Y9 x.1) (tx.map λx=>kV x.1)
 | _,_,.nil=>.nil
 | (k,_) :: _,(k',_) :: _,.cons r t=>by
  have e:k=k':=r.1;subst e
  cases k with
  | inl i=>exact .cons (.int i) (PK t)
  | inr x=>exact .cons (.str x) (PK t)
theorem Si{K}{ρ}{H}:∀{f':List (List Key×D)} {tx:List (List Key×V)} {bs:List Ab},KVR K ρ H f' tx->Gx (λ(k:List Key×V) b=>H b=some (.tup (k.1.map kV))) tx bs->A0 K ρ H (f'.map λx=>.tup (x.1.map Y9)) (bs.map V.ref)
 | _,_,_,.nil,.nil=>.nil
 | (k,_) :: _,(k',_) :: _,_,.cons r t,.cons r2 t2=>by
  have e:k=k':=r.1;subst e;exact .cons (.tup r2 (Sj k)) (Si t t2)
theorem E1(hc:X.calm=true)(hg:Gl X "sorted") (hm:X.mg "sorted" = none) (h:GE X E e m) (he:Ag [e] X.env=(false,Co e X.env) :: Ag [] X.env:=by rfl):GE X E (.Call (.Name "sorted" p) [e] [] pos) (Ds m):=
 (O4 (cU hc) hg hm tw (HK h JY he) (by decide) (by decide) he rfl).imp<|by
 rintro σ H Q ⟨ρ,l,S,hl,hs,hm⟩
 refine⟨ρ,l,S,hl,hs,hm.seq λd S1 hm ρ1 H1 x l1 s1 r1=>?_⟩
 cases hq:KP d S1 with
 | none=>rw[hq]at hm;exact hm.elim
 | some ds=>
  rw[hq]at hm;dsimp only at hm
  cases hi:Kr ds with
  | none=>rw[hi]at hm;exact hm.elim
  | some es=>
   rw[hi]at hm
   have fin:∀vs:List V,A0 X.K ρ1 H1 es vs->∀q,H1 q=none->Q (.ref q) (upd H1 q (.lst vs)):=λvs rr q hq=>by
    have le:Le X.K ρ1 H1 (ρ1++[q]) (upd H1 q (.lst vs)):=Le.alloc hq;obtain⟨s4,l4,at4⟩:=s1.alloc (ho:=.lst vs) (o:=.lst es) hq ⟨_,CJ,rr.mono le⟩;exact hm _ _ _ (l1.trans l4) s4 (.ref at4)
   have out:∀vs,A0 X.K ρ1 H1 ds vs->∃f:V->ZLi,Us H1 f vs/\∀out,out.Perm vs->out.Pairwise (λx y=>ltL (f y) (f x)=false)->∀l,H1 l=none->Q (.ref l) (upd H1 l (.lst out)):=λvs rr=>by
    obtain⟨f,k1,k2⟩:=du hi rr;exact⟨f,k1,λout po so=>fin out (k2 out po so)⟩
   cases r1 with
   | fro h1 h2=>cases hq;exact⟨_,rfl,.inl ⟨_,.inl h1.sq,out _ h2⟩⟩
   | tup h1 h2=>cases hq;exact⟨_,rfl,.inl ⟨_,.inr (.inl (.inl h1)),out _ h2⟩⟩
   | @ref n a hn=>
    obtain⟨o,ho,ro⟩:=s1.there hn;unfold KP at hq;simp only[ho]at hq
    cases o with
    | lst ys=>cases hq;obtain⟨vs,e,rr⟩:=ro;exact⟨_,rfl,.inl ⟨vs,.inl (.inl (.inl e)),out _ rr⟩⟩
    | dK f'=>cases hq;obtain⟨vs,e,rr⟩:=ro;exact⟨_,rfl,.inr (.inl ⟨vs,e,out _ (PK rr)⟩)⟩
    | dT f'=>cases hq;obtain⟨vs,e,rr⟩:=ro;exact⟨_,rfl,.inr (.inr ⟨vs,e,λbs hb=>out _ (Si rr hb)⟩)⟩
    | ins C fs=>cases hq
    | fK _=>cases hq
    | fT _=>cases hq
    | mem _=>cases hq
   | _=>cases hq
end
open PySem PySem.Spec PyProof.Rows
def dr(K:AG):Sp:=λvs H Q _=>∃(a:Ab) (ns:ZLi),vs=[.ref a]/\UD K H a (ns.map V.int)/\ns.length<=63/\∀H',Q (.bl true) H'
theorem fY{P}{w}{K}{mg}{base}{k}{fa}{fd}{f}(F:DC P w K mg base (CXG P w) k fa fd ["script"] (spM K 1 f))
  (h:∀ns:ZLi,ns.length<=63->∃S',f [.fro (ns.map D.int)] []=.ok (.bl true) S'):DC P w K mg base (CXG P w) k fa fd ["script"] (dr K):=F.imp<|by
 rintro vs H Q E ⟨a,ns,e,hS,hl,q⟩
 subst e;obtain⟨S',e⟩:=h ns hl;refine⟨[],[.fro (ns.map D.int)],[],rfl,.cons (.fro hS (A0.of_ints ns)) .nil,⟨rfl,λi j a hi=>by simp at hi,λn o a hn=>by simp at hn⟩,?_⟩;rw[e]
 exact λρ' H' x _ _ r=>by cases r;exact q H'
theorem pY{K:AG}{H:Hp}{a:Ab}{ns:ZLi}(hO:lR H)(hS:SqL K H a (ns.map V.int)):UD K H a (ns.map V.int):=by
 rcases hS with(h | h) | h
 ·rcases hO a with z | ⟨o,xs,z⟩ <;> rw[z]at h <;> cases h
 ·exact .inl h
 ·exact .inr h
theorem qA(h:CXG P w [] H s (λ_ _ _=>False) e s'):False:=by
 obtain⟨_,_,_,_,_,_,_,_,_,z⟩:=h;exact z
open PySem
def mJ(I:Lo->Sto->Prop)(R:Fl->Sto->Prop)(f:Fl)(S:Sto):Prop:=match f with
 | .nx e=>I e S
 | .ct e=>I e S
 | .bk e=>R (.nx e) S
 | .rt d=>R (.rt d) S
 | .ex c e=>R (.ex c e) S
theorem kr(I:Nat->Lo->Sto->Prop)(R:Fl->Sto->Prop)(hv:∀i e S,I i e S->v S=some xs)
  (step:∀i d e S,xs[i]?=some d->I i e S->∃e1 S1,g d e S=.ok e1 S1/\∃f S2,b e1 S1=.ok f S2/\mJ (I (i+1)) R f S2)
  (fin:∀e S,I xs.length e S->R (.nx e) S):∀(k i:Nat) (e:Lo) (S:Sto),I i e S->i<=xs.length->xs.length<=i+k->∃f S',MN v g b k i e S=.ok f S'/\R f S':=by
 intro k
 induction k with
 | zero=>
  intro i e S h h1 h2
  have:i=xs.length:=by lia
  subst this;refine⟨.nx e,S,?_,fin e S h⟩;unfold MN;rw[hv _ e S h];simp
 | succ k ih=>
  intro i e S h h1 h2;unfold MN;rw[hv _ e S h];dsimp only
  by_cases hi:i < xs.length
  ·have hd:xs[i]?=some xs[i]:=by simp[hi]
   rw[hd];dsimp only;obtain⟨e1,S1,q1,f,S2,q2,t⟩:=step i _ e S hd h;rw[q1];dsimp only[Res.bind];rw[q2];dsimp only[Res.bind]
   cases f with
   | nx e2=>exact ih (i+1) e2 S2 t (by lia) (by lia)
   | ct e2=>exact ih (i+1) e2 S2 t (by lia) (by lia)
   | bk e2=>exact⟨_,_,rfl,t⟩
   | rt d=>exact⟨_,_,rfl,t⟩
   | ex c e2=>exact⟨_,_,rfl,t⟩
  ·have:i=xs.length:=by lia
   subst this;rw[show xs[xs.length]?=none by simp];exact⟨.nx e,S,rfl,fin e S h⟩
theorem M9(I:Nat->Lo->Sto->Prop)(R:Fl->Sto->Prop)(h0:I 0 e S)(hv:∀i e S,I i e S->v S=some xs)
  (step:∀i d e S,xs[i]?=some d->I i e S->∃e1 S1,g d e S=.ok e1 S1/\∃f S2,b e1 S1=.ok f S2/\mJ (I (i+1)) R f S2)
  (fin:∀e S,I xs.length e S->R (.nx e) S):∃f S',MN v g b (EQ v S) 0 e S=.ok f S'/\R f S':=by
 have hl:EQ v S=xs.length:=by unfold EQ;rw[hv 0 e S h0]
 rw[hl];exact kr I R hv step fin _ _ _ _ h0 (Dv _) (by lia)
theorem gq(I:Nat->Lo->Sto->List D->Prop)(hv:∀i e S acc,I i e S acc->v S=some xs)
  (step:∀i d e S acc,xs[i]?=some d->I i e S acc->acc.length < sizeLine/\∃e1 S1,g d e S=.ok e1 S1/\∃b S2,c e1 S1=.ok b S2/\((b=true/\∃y S3,m e1 S2=.ok y S3/\I (i+1) e1 S3 (acc++[y]))∨(b=false/\I (i+1) e1 S2 acc))) :
  ∀(k i:Nat) (e:Lo) (S:Sto) (acc:List D),I i e S acc->i<=xs.length->xs.length<=i+k->∃r S',G5 v g c m k i e S acc=.ok r S'/\∃e',I xs.length e' S' r:=by
 intro k
 induction k with
 | zero=>
  intro i e S acc h h1 h2
  have:i=xs.length:=by lia
  subst this;refine⟨acc,S,?_,e,h⟩;unfold G5;rw[hv _ e S acc h];simp
 | succ k ih=>
  intro i e S acc h h1 h2;unfold G5;rw[hv _ e S acc h];dsimp only
  by_cases hi:i < xs.length
  ·have hd:xs[i]?=some xs[i]:=by simp[hi]
   rw[hd];dsimp only;obtain⟨hz,e1,S1,q1,b,S2,q2,t⟩:=step i _ e S acc hd h;rw[qX hz,q1];dsimp only[okR,Res.bind];rw[q2];dsimp only[okR,Res.bind]
   rcases t with⟨rfl,y,S3,q3,t⟩ | ⟨rfl,t⟩
   ·rw[qX rfl,q3]
    exact ih (i+1) e1 S3 _ t (by lia) (by lia)
   ·rw[qY AK]
    exact ih (i+1) e1 S2 acc t (by lia) (by lia)
  ·have:i=xs.length:=by lia
   subst this;rw[show xs[xs.length]?=none by simp];exact⟨acc,S,rfl,e,h⟩
theorem aZ(I:Nat->Lo->Sto->List D->Prop)(h0:I 0 e S [])(hv:∀i e S acc,I i e S acc->v S=some xs)
  (step:∀i d e S acc,xs[i]?=some d->I i e S acc->acc.length < sizeLine/\∃e1 S1,g d e S=.ok e1 S1/\∃b S2,c e1 S1=.ok b S2/\((b=true/\∃y S3,m e1 S2=.ok y S3/\I (i+1) e1 S3 (acc++[y]))∨(b=false/\I (i+1) e1 S2 acc))) :
  ∃r S',G5 v g c m (EQ v S) 0 e S []=.ok r S'/\∃e',I xs.length e' S' r:=by
 have hl:EQ v S=xs.length:=by unfold EQ;rw[hv 0 e S [] h0]
 rw[hl];exact gq I hv step _ _ _ _ _ h0 (Dv _) (by lia)
theorem oz(h:-1000000<=j):-(2 ^ 62)<=j:=Int.le_trans (by decide) h
theorem pL{j:Int}(h:j<=1000000):j < 2 ^ 62:=Int.lt_of_le_of_lt h (by decide)
theorem fx{ml:ML}{e:Lo}{S S1:Sto}{j:Int}(h:ml e S=.ok [.int j] S1)(h0:-1000000<=j)(h1:j<=1000000):iR1 ml e S=.ok (Hm (JX 0 j.toNat)) S1:=by
 unfold iR1;rw[h];dsimp only[Res.bind];rw[qX ⟨oz h0,pL h1⟩]
theorem pK{ml:ML}{e:Lo}{S S1:Sto}{i j:Int}(h:ml e S=.ok [.int i,.int j] S1)(h0:-1000000<=i)(h1:i<=1000000)(h2:-1000000<=j)(h3:j<=1000000):iR2 ml e S=.ok (Hm (JX i (j - i).toNat)) S1:=by
 unfold iR2;rw[h];dsimp only[Res.bind];rw[qX ⟨oz h0,pL h1,oz h2,pL h3⟩]
theorem be(lo:Int)(n:Nat):(JX lo n).length=n:=by simp[JX]
theorem eG{lo:Int}{n i:Nat}{d:D}(h:(JX lo n)[i]?=some d):i < n/\d=.int (lo+i):=by
 rw[UQ]at h;split at h
 ·rename_i hi
  cases h;exact⟨hi,rfl⟩
 ·cases h
theorem ga(h:0 < j)(h1:j<=1000000):PY (.int i) (.int j) S=.ok (.int (i / j)) S:=by
 show(if hZ i j then _ else _)=_;rw[qX ⟨h,by lia⟩]
theorem Z3(h:0 < j):Nn (.int i) (.int j) S=.ok (.int (i % j)) S:=by
 show(if 0 < j then _ else _)=_;rw[qX h]
theorem Em(ha:ma e S=.ok x S1)(hb:mb e S1=.ok y S2)(hf:f x y S2=.ok d S3):m2 f ma mb e S=.ok d S3:=by
 unfold m2;rw[ha];dsimp only[Res.bind];rw[hb];dsimp only[Res.bind];rw[hf];rfl
theorem Mi(h:m e S=.ok d S1):CT i m e S=.ok (.nx (e.set i (some d))) S1:=by
 unfold CT bZ;rw[h];rfl
theorem Mr(h:m e S=.ok d S1):DL m e S=.ok (.rt d) S1:=by
 unfold DL;rw[h];rfl
theorem Pa(h:m e S=.ok d S1):IU m e S=.ok (.nx e) S1:=by
 unfold IU;rw[h];rfl
theorem Hq(h:t e S=.ok c S1):sIf t a b e S=if c=true then a e S1 else b e S1:=by
 unfold sIf;rw[h];rfl
theorem ft(h:t e S=.ok c S1):Xi t a b e S=if c=true then a e S1 else b e S1:=by
 unfold Xi;rw[h];rfl
theorem KR(h:m e S=.ok v S1):FF m g b e S=MN v g b (EQ v S1) 0 e S1:=by
 unfold FF;rw[h];rfl
theorem Lu(h:m e S=.ok ds S1)(hn:ds.length=n):CP n f m e S=f ds S1:=by
 unfold CP;rw[h];dsimp only[Res.bind];rw[qX hn]
theorem CS(h:a e S=.ok (.nx e1) S1):BJ a b e S=b e1 S1:=by unfold BJ;rw[h];rfl
theorem Vf(h:a e S=.ok (.rt d) S1):BJ a b e S=.ok (.rt d) S1:=by unfold BJ;rw[h];rfl
def Keeps(S S':Sto):Prop:=S.length<=S'.length/\∀j,j < S.length->S'[j]?=S[j]?
theorem Keeps.refl(S:Sto):Keeps S S:=⟨AL _,λ_ _=>rfl⟩
theorem Keeps.trans(a:Keeps S S1)(b:Keeps S1 S2):Keeps S S2:=⟨Aw a.1 b.1,λj h=>(b.2 j (AV h a.1)).trans (a.2 j h)⟩
theorem Keeps.app(S:Sto)(G:Sto):Keeps S (S++G):=⟨by simp,λj h=>Av h⟩
theorem Keeps.set(a:Keeps S S1)(h:S.length<=m)(o:Ob):Keeps S (S1.set m o):=⟨by simpa using a.1,λj hj=>by rw[Ah (by lia)];exact a.2 j hj⟩
theorem Keeps.at{S S1:Sto}(a:Keeps S S1){j:Nat}{o:Ob}(h:S[j]?=some o):S1[j]?=some o:=by
 rw[a.2 j (AE.mp h).1];exact h
theorem ZS(h1:mo e S=.ok (.ref n) S1)(h2:S1[n]?=some (.lst xs))(h3:ma e S1=.ok y S2)(h4:S2[n]?=some (.lst xs2))(h5:xs2.length < sizeLine) :
  RA mo ma e S=.ok .non (S2.set n (.lst (xs2++[y]))):=by
 unfold RA;rw[h1];dsimp only[Res.bind];rw[h2];dsimp only;rw[h3];dsimp only[Res.bind];rw[h4];dsimp only;rw[qX h5]
theorem cN(h1:mo e S=.ok (.ref n) S1)(h2:S1[n]?=some (.lst xs))(h3:ma e S1=.ok (.ref k) S2)(h4:S2[n]?=some (.lst xs2))(h5:S2[k]?=some (.lst ys))(hk:k≠n)(h6:xs2.length+ys.length<=sizeLine) :
  Nb mo ma e S=.ok .non (S2.set n (.lst (xs2++ys))):=by
 unfold Nb;rw[h1];dsimp only[Res.bind]
 have a1:atL (.ref n) S1=some (n,xs):=by unfold atL;dsimp only;rw[h2]
 have a2:atL (.ref n) S2=some (n,xs2):=by unfold atL;dsimp only;rw[h4]
 have a3:atL (.ref k) S2=some (k,ys):=by unfold atL;dsimp only;rw[h5]
 rw[a1];dsimp only;rw[h3];dsimp only[Res.bind];rw[a2,a3];dsimp only;rw[qX ⟨hk,h6⟩]
theorem jJ(h:xs.length+ys.length<=sizeLine):GB (.tup xs) (.tup ys) S=.ok (.tup (xs++ys)) S:=by
 unfold GB;dsimp only;rw[qX h]
theorem ED(h:S[n]?=some (.lst xs)):Fm (.ref n) S=some xs:=by
 unfold Fm Qg;dsimp only;rw[h]
theorem Ky(h:m e S=.ok (.ref n) S1)(hx:S1[n]?=some (.lst xs)):D1 m e S=.ok (Fm (.ref n)) S1:=by
 unfold D1;rw[h];dsimp only[Res.bind];rw[ED hx]
theorem Sq(h:m e S=.ok (.tup xs) S1):D1 m e S=.ok (Hm xs) S1:=by
 unfold D1;rw[h];rfl
theorem Yz(h:ml e S=.ok ds S1):Db ml e S=.ok (.ref S1.length) (S1++[.lst ds]):=by
 unfold Db;rw[h];rfl
theorem Ed(S:Sto)(o:Ob):(S++[o])[S.length]?=some o:=by simp
theorem Gk(h:S[n]?=some (.lst ds)):Ga (.ref n) S=some ds:=by
 unfold Ga;dsimp only;rw[h]
theorem OP(h:S[n]?=some (.lst ds)):KP (.ref n) S=some ds:=by
 unfold KP;dsimp only;rw[h]
theorem JK(h:m e S=.ok d S1)(hi:KP d S1=some ds)(hs:Kr ds=some es):Ds m e S=.ok (.ref S1.length) (S1++[.lst es]):=by
 unfold Ds;rw[h];dsimp only[Res.bind];rw[hi];dsimp only;rw[hs]
theorem Ov(h:m e S=.ok d S1)(hq:Ga d S1=some ds):Gz m e S=.ok (.tup ds) S1:=by
 unfold Gz;rw[h];dsimp only[Res.bind];rw[hq]
theorem Y8(h:m e S=.ok d S1)(hq:Ga d S1=some ds):KO m e S=.ok (.int ds.length) S1:=by
 unfold KO;rw[h];dsimp only[Res.bind];rw[hq]
theorem RQ(hv:mv e S=.ok v S1)(ho:mo e S1=.ok (.ref n) S2)(hs:S2[n]?=some (.ins C fs))(hl:fs.length < 1000) :
  J2 C f mo mv e S=.ok (.nx e) (S2.set n (.ins C (Jt f v fs))):=by
 unfold J2;rw[hv];dsimp only[Res.lift];rw[ho];dsimp only[Res.lift];rw[hs];dsimp only;rw[qX ⟨rfl,hl⟩]
theorem KS(h:m e S=.ok (.ref n) S1)(hs:S1[n]?=some (.ins C fs))(hl:fs.lookup f=some v):D0 C f m e S=.ok v S1:=by
 unfold D0;rw[h];dsimp only[Res.bind];rw[hs];dsimp only;rw[qX rfl,hl]
theorem Z5(h:ml e S=.ok ds S1)(hn:ds.length+1=n)(hf:f (.ref S1.length :: ds) (S1++[.ins C []])=.ok .non S2):PH C n f ml e S=.ok (.ref S1.length) S2:=by
 unfold PH;rw[h];dsimp only[Res.bind];rw[qX hn,hf]
theorem C0(h:m e S=.ok d S1)(hr:r e S1=.ok ds S2):AM m r e S=.ok (d :: ds) S2:=by
 unfold AM;rw[h];dsimp only[Res.bind];rw[hr]
theorem WF(h:mi e S=.ok v S1):Dt n mi g c m e S=G5 v g c m (EQ v S1) 0 (Bw n none++e) S1 []:=by
 unfold Dt;rw[h];rfl
theorem WS(h:m e S=.ok (.bl b) S1):mB m e S=.ok b S1:=by
 unfold mB;rw[h];rfl
theorem l8(ha:ma e S=.ok x S1)(hb:mb e S1=.ok y S2)(hf:f x y S2=.ok (.bl true) S3)(hc:mc e S3=.ok w S4)(hg:g y w S4=.ok d S5):m3 f g ma mb mc e S=.ok d S5:=by
 unfold m3;rw[ha];dsimp only[Res.bind];rw[hb];dsimp only[Res.bind];rw[hf];dsimp only[Res.bind,okR];rw[hc];dsimp only[Res.bind];rw[hg]
theorem sd(ha:ma e S=.ok x S1)(hb:mb e S1=.ok y S2)(hf:f x y S2=.ok (.bl false) S3):m3 f g ma mb mc e S=.ok (.bl false) S3:=by
 unfold m3;rw[ha];dsimp only[Res.bind];rw[hb];dsimp only[Res.bind];rw[hf];rfl
theorem fW(h:decide (i<=j)=b):leD (.int i) (.int j) S=.ok (.bl b) S:=by subst h;rfl
theorem ou(h:decide (i < j)=b):ltD (.int i) (.int j) S=.ok (.bl b) S:=by subst h;rfl
theorem pX(h:decide (j<=i)=b):geD (.int i) (.int j) S=.ok (.bl b) S:=by subst h;rfl
theorem pz(h:decide (i=j)=b):eqD false (.int i) (.int j) S=.ok (.bl b) S:=by
 subst h;show Res.ok (D.bl (i==j)) S=_;rfl
theorem OO(h:m e S=.ok b S1):PF m e S=.ok (!b) S1:=by
 unfold PF;rw[h];rfl
theorem Yc(h:ml e S=.ok ds S1)(hl:ds.length<=1000):Hi ml e S=.ok (.tup ds) S1:=by
 unfold Hi;rw[h];dsimp only[Res.bind];rw[qX (Aw hl (by decide))]
theorem oS(h:ta e S=.ok true S1):mOr ta tb e S=.ok true S1:=by
 unfold mOr;rw[h];rfl
theorem eu(h:ta e S=.ok false S1):mOr ta tb e S=tb e S1:=by
 unfold mOr;rw[h];rfl
theorem WO(h:ta e S=.ok true S1):RB ta tb e S=tb e S1:=by
 unfold RB;rw[h];rfl
theorem am(h:ta e S=.ok false S1):RB ta tb e S=.ok false S1:=by
 unfold RB;rw[h];rfl
theorem rZ(h:m e S=.ok d S1)(hq:Ga d S1=some ds):Xh m e S=.ok ds S1:=by
 unfold Xh;rw[h];dsimp only[Res.bind];rw[hq]
theorem jh(h:ml e S=.ok ds S1)(hf:f ds S1=.ok d S2):mQ f ml e S=.ok d S2:=by
 unfold mQ;rw[h];dsimp only[Res.bind];rw[hf];rfl
theorem M3(h:S[n]?=some (.lst ds)):No (.ref n) S=some ds:=by
 unfold No;dsimp only;rw[h]
open PySem PySem.Spec PyProof.Rows
def pickG{α:Type}(xs:List α)(lo hi st:Option Int):List α:=(sliceRange (iK lo hi st xs.length).1 (iK lo hi st xs.length).2.1 (iK lo hi st xs.length).2.2).filterMap (xs[·]?)
theorem bm{α β:Type}(f:α->β)(xs:List α)(lo hi st:Option Int):pickG (xs.map f) lo hi st=(pickG xs lo hi st).map f:=by
 unfold pickG;rw[AF,List.map_filterMap]
 congr 1
 funext i
 rw[Ak]
theorem N0(i':List AJ)(lo hi st:Option Int):slicePick i'.toArray lo hi st=(pickG i' lo hi st).toArray:=by
 unfold slicePick pickG;simp only[Aj,List.getElem?_toArray]
theorem B0.pickIx(r:B0 xs us):∀is:List Nat,B0 (is.filterMap (xs[·]?)) (is.filterMap (us[·]?))
 | []=>.nil
 | i :: is=>by
  have ih:=B0.pickIx r is
  cases hx:xs[i]? with
  | none=>
   have hu:us[i]?=none:=by
    rw[Cz]at hx ⊢;rw[<-r.length];exact hx
   rw[G1 (by simpa using hx),G1 (by simpa using hu)];exact ih
  | some x=>
   obtain⟨u,hu,ru⟩:=r.get hx;rw[G0 (by simpa using hx),G0 (by simpa using hu)];exact .cons ru ih
theorem B0.pickG(r:B0 xs us)(lo hi st:Option Int):B0 (L2.pickG xs lo hi st) (L2.pickG us lo hi st):=by
 unfold L2.pickG;rw[r.length];exact r.pickIx _
theorem A0.pickIx{K}{ρ}{H}{ds}{vs}(r:A0 K ρ H ds vs):∀is:List Nat,A0 K ρ H (is.filterMap (ds[·]?)) (is.filterMap (vs[·]?))
 | []=>.nil
 | i :: is=>by
  have ih:=A0.pickIx r is
  cases hx:ds[i]? with
  | none=>
   have hu:vs[i]?=none:=by
    rw[Cz]at hx ⊢;rw[<-r.length];exact hx
   rw[G1 (by simpa using hx),G1 (by simpa using hu)];exact ih
  | some x=>
   obtain⟨u,hu,ru⟩:=r.get hx;rw[G0 (by simpa using hx),G0 (by simpa using hu)];exact .cons ru ih
theorem A0.pickG{K}{ρ}{H}{ds}{vs}(r:A0 K ρ H ds vs)(lo hi st:Option Int):A0 K ρ H (L2.pickG ds lo hi st) (L2.pickG vs lo hi st):=by
 unfold L2.pickG;rw[r.length];exact r.pickIx _
section
variable{X:Cx}{E:EW}{e st:Expr}{te:TE}{lo hi:Option Expr}{tl th ts:TO}{pos p2:Pos}{m:ME}{ml mh ms:MO}
def tSlS(K:AG)(te:TE)(tl th ts:TO):TE:=λσ H Q=>te σ H λx H1=>tl σ H1 λl H2=>th σ H2 λu H3=>ts σ H3 λc H4=>
 ∃a xs,x=.ref a/\SqL K H4 a xs/\c≠some 0/\∀p,H4 p=none->Q (.ref p) (upd H4 p (.lst (pickG xs l u c)))
theorem bp(he:PE X e te)(hl:PO X lo tl)(hu:PO X hi th)(vp:PO X (some st) ts):PE X (.Subscript e (.Slice lo hi (some st) p2) pos) (tSlS X.K te tl th ts):=by
 intro ζ s σ H Q I h;refine YJ (thn (he ζ s σ H _ I h) λv s1 ⟨x,H1,I1,r1,q1⟩=>?_);refine wpAny_Slice (thn (hl ζ s1 σ H1 _ I1 q1) λvl s2 ⟨l,H2,I2,pl,q2⟩=>thn (hu ζ s2 σ H2 _ I2 q2) λvu s3 ⟨u,H3,I3,pu,q3⟩=>?_)
 refine thn (vp ζ s3 σ H3 _ I3 q3) λvc s3 ⟨c,H3,I3,pc,q3⟩=>?_
 have I4:Inv X ζ σ H3 { s3 with heap:=s3.heap.push { cls:=.type "slice",data:=.fields #[vl,vu,vc] } }:=I3.kept (t':=s3.toks) λb ob q=>AT _ q
 obtain⟨a,xs,rfl,hx,hc,q⟩:=q3;cases r1;obtain⟨i',r,ht,hz⟩:=I4.list hx;show Aq (Ad X.prog X.w) X.A (RG e (.Slice lo hi (some st) p2) (.ref a) (.ref s3.heap.objs.size)) (EP X ζ σ Q) X.xe { s3 with heap:=s3.heap.push { cls:=.type "slice",data:=.fields #[vl,vu,vc] } };refine tail_any (ops:=[.ref a,.ref s3.heap.objs.size]) ht.isList.typeIs qN.lookup ?_ (by with_unfolding_all rfl);have hlen:=r.length;refine wpAny_getItem_list_slice ht.isList (TN ..) pl pu pc hc ?_ (by rw[Aj] <;> lia);rw[N0]
 have hle:(pickG xs l u c).length<=xs.length:=by
  have:=slicePick_size_le i'.toArray l u c;rw[N0,Aj,Aj,<-(r.pickG l u c).length,<-hlen]at this;exact this
 refine⟨.ref _,_,I4.laid (t':=s3.toks) (o:=.lst (pickG xs l u c)) (λb ob q=>AT _ q) (AL _) ?_,rfl,q _ (I4.hok.fresh (AL _))⟩;exact⟨Aw hle hz,_,0,r.pickG l u c,Ao _ rfl⟩
def RX(m:ME)(ml mh ms:MO):ME:=λe S=>(m e S).bind λd S1=>(ml e S1).bind λlo S2=>(mh e S2).bind λhi S3=>(ms e S3).bind λst S4=>match No d S4 with
 | some ds=>if st=some 0 then .bad else .ok (.ref S4.length) (S4++[.lst (pickG ds lo hi st)])
 | none=>.bad
theorem cG(he:GE X E e m)(hl:GO X E lo ml)(hu:GO X E hi mh)(vp:GO X E (some st) ms):GE X E (.Subscript e (.Slice lo hi (some st) p2) pos) (RX m ml mh ms):=(bp he hl hu vp).imp<|by
 rintro σ H Q ⟨ρ,l,S,hl,hs,hm⟩
 refine⟨ρ,l,S,hl,hs,hm.seq λd S1 hm ρ1 H1 x l1 s1 r1=>⟨ρ1,l,S1,hl.mono l1,s1,(hm.later l1).seq λlo S2 hm ρ2 H2 l2 s2=>⟨ρ2,l,S2,hl.mono (l1.trans l2),s2,(hm.later l2).seq λhi S3 hm ρ3 H3 l3 s3=>⟨ρ3,l,S3,hl.mono (l1.trans (l2.trans l3)),s3,(hm.later l3).seq λst S4 hm ρ4 H4 l4 s4=>?_⟩⟩⟩⟩;have r4:=r1.mono (l2.trans (l3.trans l4))
 cases hq:No d S4 with
 | none=>rw[hq]at hm;exact hm.elim
 | some ds=>
  rw[hq]at hm;dsimp only at hm;split at hm
  ·exact hm.elim
  ·rename_i hc
   obtain⟨p,xs,rfl,rr,sq⟩:=J9 s4 r4 hq;refine⟨p,xs,rfl,sq,hc,λq hq=>?_⟩;have le:Le X.K ρ4 H4 (ρ4++[q]) (upd H4 q (.lst (pickG xs lo hi st))):=Le.alloc hq;obtain⟨s5,l5,at5⟩:=s4.alloc (ho:=.lst (pickG xs lo hi st)) (o:=.lst (pickG ds lo hi st)) hq ⟨_,CJ,(rr.pickG lo hi st).mono le⟩;exact hm _ _ _ (l1.trans (l2.trans (l3.trans (l4.trans l5)))) s5 (.ref at5)
end
section
variable{X:Cx}{E:EW}{e:Expr}{p pos:Pos}{m:ME}
def fR(m:ME):ME:=λe S=>(m e S).bind λd S1=>match d with
 | .int i=>.ok (.int i) S1
 | .bl k=>.ok (.int (if k then 1 else 0)) S1
 | _=>.bad
theorem aN(hg:Gl X "int") (hm:X.mg "int" = none) (h:GE X E e m) (he:Ag [e] X.env=(false,Co e X.env) :: Ag [] X.env:=by rfl):GE X E (.Call (.Name "int" p) [e] [] pos) (fR m):=
 (QA cX hg hm t6 (HK h JY he) (by decide) (by decide) he rfl).imp<|by
 rintro σ H Q ⟨ρ,l,S,hl,hs,hm⟩
 refine⟨ρ,l,S,hl,hs,hm.seq λd S1 hm ρ1 H1 x l1 s1 r1=>?_⟩
 cases d <;> first | exact hm.elim | skip
 ·cases r1
  exact .inr ⟨_,rfl,hm ρ1 H1 _ l1 s1 (.int _)⟩
 ·cases r1
  exact .inl ⟨_,rfl,hm ρ1 H1 _ l1 s1 (.int _)⟩
end
end L2
namespace PySem
open Sem (wp)
open AutoSeq1 (wpAny_loadPart')
theorem M0(l:Ab)(items:Array AJ)(n:Nat)(Ρ:Option Ab)(sl:Array (Option AJ)) :
  Meets (Builtin.«enumerate.__new__» ⟨[.type "enumerate",.ref l],[]⟩) (λ_ R s=>s.heap.get? l=some { cls:=.type "tuple",dict:=Ρ,data:=.seq items n,slots:=sl } /\
   R (.ok (.ret (.ref (s.heap.push { cls:=.type "tuple_iterator",data:=.fields #[.ref l,.int 0 0] }).objs.size)))
    { s with heap:=(s.heap.push { cls:=.type "tuple_iterator",data:=.fields #[.ref l,.int 0 0] }).push { cls:=.type "enumerate",data:=.fields #[.none,.bool false,.ref s.heap.objs.size,Pl 0,.none,.none] } }):=
 .of_wp λprog w A R s h=>by
  obtain⟨hp,g,d,tk,os⟩:=s;obtain⟨hl,h⟩:=h;have xC:=sub_enumerate;have hL:DT.IsTuple (AS.heap ⟨hp,g,d,tk,os⟩) l items:=⟨_,hl,rfl,n,rfl⟩
  wp_walk using OZ hl
  refine wpAny_stack_any λst=>AO ?_
  split
  ·rename_i c _ _ _ _ _
   cases(c==G8 "enumerate")
   ·wp_walk using OZ hl,K9 hL
    exact⟨_,rfl,h⟩
   ·wp_walk using OZ hl,K9 hL
    exact⟨_,rfl,h⟩
  ·wp_walk using OZ hl,K9 hL
   exact⟨_,rfl,h⟩
section
variable{w:CV}{A:Cj}{E:AJ->AS->Prop}{s:AS}
theorem NH(hL:s.heap.IsTuple l items)
  (h:∀h',U9 h' (s.heap.objs.size+1) s.heap.objs.size 0 .none->h'.IsTupleIter s.heap.objs.size l 0->h'.objs.size=s.heap.objs.size+2 ->
   (∀b o,s.heap.get? b=some o->h'.get? b=some o)->Q (.ref (s.heap.objs.size+1)) { s with heap:=h' }) :
  Aq (Ad prog w) A (call (.type "enumerate") [.ref l]) Q E s:=by
 obtain⟨⟨c,Ρ,dt,sl⟩,hl,hc,n,hd⟩:=hL
 replace hc:c=.type "tuple":=hc
 replace hd:dt=.seq items n:=hd
 subst hc hd
 refine callType_new F.called_enumerate (by decide) (F.typeCall_enumerate_1 _) (F.newCall_enumerate_1 _) (λobj=>F.args_object_init_2 obj _) F.entry_enumerate_new
  (M0 l items n Ρ sl) ⟨hl,?_⟩
 have hz:(s.heap.push { cls:=.type "tuple_iterator",data:=.fields #[.ref l,.int 0 0] }).objs.size=s.heap.objs.size+1:=E4 ..;show _/\_;rw[hz]
 have he:U9 ((s.heap.push { cls:=.type "tuple_iterator",data:=.fields #[.ref l,.int 0 0] }).push
   { cls:=.type "enumerate",data:=.fields #[.none,.bool false,.ref s.heap.objs.size,Pl 0,.none,.none] }) (s.heap.objs.size+1) s.heap.objs.size 0 .none:=by
  have:=Ao (s.heap.push { cls:=.type "tuple_iterator",data:=.fields #[.ref l,.int 0 0] })
   (o:={ cls:=.type "enumerate",data:=.fields #[.none,.bool false,.ref s.heap.objs.size,Pl 0,.none,.none] }) rfl
  rw[hz]at this;exact this
 refine⟨⟨_,he,rfl⟩,h _ he ⟨_,AT _ (Ao _ rfl),rfl,rfl⟩ (by rw[E4,hz]) λb o x=>AT _ (AT _ x)⟩
theorem PB{it t}{i}{items}{x}{Q}(hit:s.heap.IsTupleIter it t i)
  (ht:s.heap.IsTuple t items) (hx:items[i]?=some x)
  (hQ:∀h',h'.IsTupleIter it t (i+1)->FI it s.heap h'->Q x { s with heap:=h' }) :
  Aq (Ad prog w) A (E7 (.ref it)) Q E s:=by
 obtain⟨o,ho,hc,hd⟩:=id hit;obtain⟨ol,Τ,_,nl,Υ⟩:=ht;unfold E7
 refine AC (DQ (name:=Hs "__next__") hit.typeIs Gh
  (Du Gh hit.typeIs WY ?_ (VD _)))
 show Aq _ _ (field (.ref it) 0 >>= _) _ _ s;refine AC (IE ho hd (x:=.ref t) rfl ?_);show Aq _ _ (if (Bb t==EV)=true then _ else _) _ _ s;rw[qY (show ¬((Bb t==EV)=true)from AK)];show Aq _ _ (field (.ref it) 1 >>= _) _ _ s;refine AC (IE ho hd (x:=.int i 0) rfl ?_);show Aq _ _ (seqItems? (.ref t) >>= _) _ _ s;refine AC (wpAny_seqItems Τ Υ ?_);simp only[As,hx];refine AC (Pj ho hd (by simp) (AO ⟨x,rfl,AO (hQ _ ?_ (Hu ..))⟩))
 exact⟨_,NU _ ho (Zb (KG hd _)),(iB ..).trans hc,by
  rw[KG hd];simp[Pl]⟩
theorem Kw{it t}{i}{items}{Q}(hh:A.handled=none)
  (hit:s.heap.IsTupleIter it t i) (ht:s.heap.IsTuple t items) (hx:items[i]?=none)
  (hE:∀h' e,Ze it s.heap h'->(∃o,h'.get? e=some o/\o.cls=.type "StopIteration")->E (.ref e) { s with heap:=h' }) :
  Aq (Ad prog w) A (E7 (.ref it)) Q E s:=by
 obtain⟨o,ho,hc,hd⟩:=id hit;obtain⟨ol,Τ,_,nl,Υ⟩:=ht;unfold E7
 refine AC (DQ (name:=Hs "__next__") hit.typeIs Gh
  (Du Gh hit.typeIs WY ?_ (VD _)))
 show Aq _ _ (field (.ref it) 0 >>= _) _ _ s;refine AC (IE ho hd (x:=.ref t) rfl ?_);show Aq _ _ (if (Bb t==EV)=true then _ else _) _ _ s;rw[qY (show ¬((Bb t==EV)=true)from AK)];show Aq _ _ (field (.ref it) 1 >>= _) _ _ s;refine AC (IE ho hd (x:=.int i 0) rfl ?_);show Aq _ _ (seqItems? (.ref t) >>= _) _ _ s;refine AC (wpAny_seqItems Τ Υ ?_);simp only[As,hx];refine AC (YD (AC (Pj ho hd (by simp) ?_)));show Aq _ _ (newExc (.type "StopIteration") [] >>= _) _ _ _;refine AC ?_;simp only[newExc,newTuple];refine AC (DG ?_ (by size_fits));refine AC (m:=Pn _ _) (wpAny_of_eq (a:=EV) (by first | rfl | (simp only[Pn];rfl)) ?_);refine DG ?_ (by size_fits);simp only[raiseNew];refine AC (wpAny_handled ?_)
 first | rw[show A.in1.handled=none from hh] | rw[hh]
 refine AC (AO (wpAny_throw ?_));exact hE _ _ (((Hu ..).extBut.push _).push _) ⟨_,Ao _ rfl,rfl⟩
theorem X2(hh:A.handled=none)(it l:Ab)(um:l≠it)(items:Array AJ) :
  Draws prog w A it [it,l] items.size (λi v=>items[i]?=some v) (λi h=>h.IsTupleIter it l i/\h.IsTuple l items) where
 live:=λ_ _ st=>let ⟨o,ho,_⟩:=st.1;⟨o,ho⟩
 frame:=λ_ _ _ st hk=>⟨st.1.at λo e=>hk it (by simp) o e,let ⟨o,ho,r⟩:=st.2;⟨o,hk l (by simp) o ho,r⟩⟩
 item:=λi s Q E hi st hQ=>by
  refine PB st.1 st.2 (x:=items[i]) (by simp[hi]) λh' xJ yU=>?_
  exact hQ _ h' s.toks (by simp[hi]) ⟨xJ,st.2.extBut yU.extBut um⟩ yU
 done:=λs Q E st hE=>Kw hh st.1 st.2 (by simp) hE
theorem Nm{e it l:Ab}{i:Nat}{items:Array AJ}{old:AJ}{Q:Option AJ->AS->Prop}(hh:A.handled=none)
  (he:U9 s.heap e it i old) (hit:s.heap.IsTupleIter it l i) (hl:s.heap.IsTuple l items) (hx:items[i]?=none)
  (hQ:∀h',Ze it s.heap h'->Q none { s with heap:=h' }):Aq (Ad prog w) A (Uu (.ref e)) Q E s:=by
 have hT:s.TypeIs (.ref e) "enumerate":=⟨_,he,rfl⟩;unfold Uu
 refine AC (RF (DQ (name:=Hs "__next__") hT cn
  (Du cn hT F.entry_enumerate_next ?_ (F.args_enumerate_next_1 _))))
 show Aq _ _ (field (.ref e) 2 >>= _) _ _ _;refine AC (IE he rfl (x:=.ref it) rfl ?_);refine AC (Kw hh hit hl hx λh' x Ο xK=>?_);obtain⟨o,ho,hc⟩:=xK;refine AC (qf (T:="StopIteration") (b:=true) ⟨o,ho,hc⟩ isSubtype_stop ?_);exact AO (hQ _ Ο)
end
end PySem
namespace L2
open PySem PySem.Spec PyProof.Rows
theorem Inv.turned2(I:Inv X ζ σ H s)(k:∀b u,b≠e->b≠it->s.heap.get? b=some u->h'.get? b=some u)
  (fe:OX X ζ H e) (fi:OX X ζ H it) (ha:s.heap.objs.size<=a) (new:Df X.prog X.w (upd H a o) h' a o):Inv X ζ σ (upd H a o) { s with heap:=h',toks:=t' }:=by
 have hn:=I.hok.fresh ha
 have yr:∀b u,H b=some u->b≠e/\b≠it:=λb u q=>⟨λz=>(by rw[z,fe.1]at q;cases q),λz=>(by rw[z,fi.1]at q;cases q)⟩
 have out:∀b:Ab,b∉[e,it]->b≠e/\b≠it:=λb hb=>⟨λz=>hb (by simp[z]),λz=>hb (by simp[z])⟩
 refine I.step (g':=s.gens) (d':=s.drawn) (ch:=[e,it]) (λb hb=>?_) (λb o _ _ hc q _=>k b o (out b hc).1 (out b hc).2 q) (λb o _ _ hc q _=>⟨o.slots,k b o (out b hc).1 (out b hc).2 q⟩) (λb o _ q n=>?_)
  (λb o hc q=>⟨o,k b o (out b hc).1 (out b hc).2 q⟩) (λb xs q=>by rw[Bo (Cw q hn)];exact q) (λb o u q=>by rw[Bo (Cw q hn)];exact q) (λb ps q=>⟨#[],by rw[Bo (Cw q hn),q];simp⟩) (λm hm=>?_) (λb u q=>?_) I.bare
 ·have uf:b=e∨b=it:=by simpa using hb
  rcases uf with z | z
  ·subst z;exact⟨fe.2.2.2.1,fe.2.1,fe.2.2.2.2.1,fe.2.2.2.2.2⟩
  ·subst z;exact⟨fi.2.2.2.1,fi.2.1,fi.2.2.2.2.1,fi.2.2.2.2.2⟩
 ·rw[Bo (BN (AV (Am q) ha))];exact n
 ·obtain⟨o,es,ep,ho,r⟩:=hm
  exact⟨o,es,ep,k _ o (Ci fe.2.1) (Ci fi.2.1) ho,r⟩
 ·by_cases hb:b=a
  ·subst hb;rw[CJ]at q;cases q;exact new
  ·rw[Bo hb]at q
   refine(I.hok b u q).stay (λc v hc r=>?_) (λc r=>by rw[Bo (Cw r hn)];exact r) λc xs r=>by rw[Bo (Cw r hn)];exact r
   have:c≠e/\c≠it:=by
    rcases hc with z | z
    ·rw[z];exact yr b u q
    ·exact yr c _ z
   exact k c v this.1 this.2 r
def Ite(sq:Hp->List V->Prop):It:=
 ⟨λi H=>∃xs x,sq H xs/\xs[i]?=some x,λi H y H'=>∃p x,H p=none/\y=.ref p/\H'=upd H p (.tup [.int i,x])/\∀xs,sq H xs->xs[i]?=some x,λi H=>∃xs,sq H xs/\xs.length<=i⟩
section
variable{P:Bs}{w:CV}{K:AG}{elts:List Expr}{x1:Nat}{pos:Pos}
theorem Uj{X:Cx}{ζ:List (Ab×Obj)}{σ:St}{H:Hp}{s:AS}{E:AJ->AS->Prop}{sq:Hp->List V->Prop}{e it:Ab}{i:Nat}{x:V}{u:AJ}{tk:Nat}{h':DT}{tn:Nat->DT->Prop}
  (I:Inv X ζ σ H s) (um:e≠it) (hf:∀b∈[e,it],OX X ζ H b) (le:e < s.heap.objs.size) (li:it < s.heap.objs.size) (ru:RelV x u) (hx:∀xs,sq H xs->xs[i]?=some x)
  (ho:IsEnumOut h' e it ((i:Int)+1) u s.heap.objs.size) (hT:h'.get? s.heap.objs.size=some { cls:=.type "tuple",data:=.seq #[.int i tk,u] }) (hk:∀b o,b≠e->b≠it->s.heap.get? b=some o->h'.get? b=some o)
  (ht:∀h2,FI e h' h2->(∃old,U9 h2 e it ((i+1:Nat):Int) old)->tn (i+1) h2) :
  Aq (Ad X.prog X.w) X.A (Oc (.Tuple elts x1 pos) (.ref e) (.ref s.heap.objs.size)) (λ_ s2=>∃y H',Inv X ζ σ H' s2/\RelV y (.ref s.heap.objs.size)/\(Ite sq).yld i H y H'/\tn (i+1) s2.heap/\∀b∈[e,it],H' b=none) E { s with heap:=h',toks:=tk+1 }:=by
 have fe:=hf e (by simp);have fi:=hf it (by simp);have ne:e≠s.heap.objs.size:=BN le;have ni:it≠s.heap.objs.size:=BN li
 have new:Df X.prog X.w (upd H s.heap.objs.size (.tup [.int i,x])) h' s.heap.objs.size (.tup [.int i,x]):=
  ⟨⟨Aw (show 2<=1000 by decide) (by decide),_,hT,rfl⟩,[.int i tk,u],.cons ⟨tk,rfl⟩ (.cons ru .nil),_,hT,rfl,_,rfl⟩
 have I1:=I.turned2 (t':=tk+1) hk fe fi (AL _) new
 refine wpAny_letOwnedTupleGo_enum (s:={ s with heap:=h',toks:=tk+1 }) ho λh2 yV uS=>?_
 have yW:FI e h' h2:=uS;have I2:=I1.turned (t':=tk+1) (h':=h2) (it:=e) (λb o hb q=>(yW.2 b hb).trans q) (by rw[Bo ne];exact fe.1) fe.2.1 fe.2.2.2.1 fe.2.2.2.2.1 fe.2.2.2.2.2;refine⟨.ref s.heap.objs.size,_,I2,rfl,⟨s.heap.objs.size,x,I.hok.fresh (AL _),rfl,rfl,hx⟩,ht h2 yW ⟨u,by rw[Int.natCast_add,Int.natCast_one];exact yV⟩,λb hb=>?_⟩
 have uf:b=e∨b=it:=by simpa using hb
 rcases uf with z | z
 ·rw[z,Bo ne];exact fe.1
 ·rw[z,Bo ni];exact fi.1
theorem Yb(a e it:Ab)(um:e≠it):UB P w K (.Tuple elts x1 pos) (Ite λH xs=>SqL K H a xs) [e,it] e (λi h=>(∃old,U9 h e it i old)/\h.IsListIter it a i) where
 mem:=by simp
 obj:=λi h st b hb=>by
  have uf:b=e∨b=it:=by simpa using hb
  rcases uf with z | z
  ·subst z
   obtain⟨⟨old,he⟩,_⟩:=st
   exact⟨_,he,λv z=>by
    have z':Zf _=iF v:=z
    cases z'⟩
  ·subst z
   obtain⟨_,o,e,c,d⟩:=st;exact⟨o,e,λv z=>by rw[d]at z;cases z⟩
 keep:=λi h h' st k=>⟨st.1.imp λold he=>k e (by simp) _ he,st.2.at λo q=>k it (by simp) o q⟩
 item:=by
  intro X hP hw hK hc i ζ s σ H E I hf st hg;subst hP hw hK;obtain⟨xs,x,hq,hx⟩:=hg;obtain⟨i',rv,p,hz⟩:=I.list hq;obtain⟨u,hu,ru⟩:=rv.get hx;obtain⟨⟨old,he⟩,hit⟩:=st
  have li:it < s.heap.objs.size:=by obtain⟨o,q,_⟩:=hit;exact Am q
  refine wpAny_pyNext_enum_item he hit p.isList (x:=u) (by simpa using hu) um λh' ho xJ hT hsz hk=>?_
  exact⟨_,rfl,Uj (sq:=λH xs=>SqL X.K H a xs) (tn:=λi h=>(∃old,U9 h e it i old)/\h.IsListIter it a i) I um hf (Am he) li ru (λys hy=>by rw[I.list_inj hy hq];exact hx) ho hT hk λh2 uS yV=>⟨yV,xJ.at λo q=>(uS.2 it (Ci um)).trans q⟩⟩
 done:=by
  intro X hP hw hK hc i ζ s σ H E I hf st hg;subst hP hw hK;obtain⟨xs,hq,hx⟩:=hg;obtain⟨i',rv,p,hz⟩:=I.list hq;obtain⟨⟨old,he⟩,hit⟩:=st;obtain⟨f0,f1,f2,f3,f4,f5⟩:=hf it (by simp);have hl:=rv.length
  exact wpAny_pyNext_enum_end (I.ok.hd hc) he hit p.isList (by simp;lia) λh' eb=>⟨rfl,I.turned (t':=s.toks) (λb o hb e=>eb b o hb e) f0 f1 f3 f4 f5⟩
 self:=λ_ _ _ _ _ st h=>by
  obtain⟨⟨old,he⟩,_⟩:=st;exact MR he h
theorem Ya(a e it:Ab)(um:e≠it)(hae:a≠it)(hef:e≠a):UB P w K (.Tuple elts x1 pos) (Ite λH xs=>SqT K H a xs) [e,it] e (λi h=>(∃old,U9 h e it i old)/\h.IsTupleIter it a i) where
 mem:=by simp
 obj:=λi h st b hb=>by
  have uf:b=e∨b=it:=by simpa using hb
  rcases uf with z | z
  ·subst z
   obtain⟨⟨old,he⟩,_⟩:=st
   exact⟨_,he,λv z=>by
    have z':Zf _=iF v:=z
    cases z'⟩
  ·subst z
   obtain⟨_,o,e,c,d⟩:=st;exact⟨o,e,λv z=>by rw[d]at z;cases z⟩
 keep:=λi h h' st k=>⟨st.1.imp λold he=>k e (by simp) _ he,st.2.at λo q=>k it (by simp) o q⟩
 item:=by
  intro X hP hw hK hc i ζ s σ H E I hf st hg;subst hP hw hK;obtain⟨xs,x,hq,hx⟩:=hg;obtain⟨i',rv,p,hz⟩:=I.tuple hq;have p':s.heap.IsTuple a i'.toArray:=p;obtain⟨u,hu,ru⟩:=rv.get hx
  have uw:i < i'.toArray.size:=by
   have:=(AE.mp hu).1;simpa using this
  obtain⟨⟨old,he⟩,hit⟩:=st
  have li:it < s.heap.objs.size:=by obtain⟨o,q,_⟩:=hit;exact Am q
  refine wpAny_pyNext_enum_itemD (X2 (A:=X.A.in1) (I.ok.hd hc) it a hae i'.toArray) he ⟨hit,p'⟩ uw um (by simp[um,hef]) λu' h' tk hu' ho Φ hT hsz hk=>?_
  have:u'=u:=by
   have hu2:i'[i]?=some u':=by simpa using hu'
   rw[hu]at hu2;cases hu2;rfl
  subst this;exact⟨_,rfl,Uj (sq:=λH xs=>SqT X.K H a xs) (tn:=λi h=>(∃old,U9 h e it i old)/\h.IsTupleIter it a i) I um hf (Am he) li ru (λys hy=>by rw[I.tuple_inj hy hq];exact hx) ho hT hk λh2 uS yV=>⟨yV,Φ.1.at λo q=>(uS.2 it (Ci um)).trans q⟩⟩
 done:=by
  intro X hP hw hK hc i ζ s σ H E I hf st hg;subst hP hw hK;obtain⟨xs,hq,hx⟩:=hg;obtain⟨i',rv,p,hz⟩:=I.tuple hq;obtain⟨⟨old,he⟩,hit⟩:=st;obtain⟨f0,f1,f2,f3,f4,f5⟩:=hf it (by simp);have hl:=rv.length
  exact Nm (I.ok.hd hc) he hit (show s.heap.IsTuple a i'.toArray from p) (by simp;lia) λh' eb=>⟨rfl,I.turned (t':=s.toks) (λb o hb e=>eb b o hb e) f0 f1 f3 f4 f5⟩
 self:=λ_ _ _ _ _ st h=>by
  obtain⟨⟨old,he⟩,_⟩:=st;exact MR he h
end
section
variable{X:Cx}{E:EW}{e:Expr}{elts:List Expr}{x1:Nat}{p pos ptg:Pos}{ta:TA}
def tF(K:AG)(ta:TA):TI:=λσ H R=>ta σ H λvs H1=>∃a,vs=[.ref a]/\(((∃xs,SqL K H1 a xs)/\R (Ite λH xs=>SqL K H a xs) H1)∨((∃xs,SqT K H1 a xs)/\R (Ite λH xs=>SqT K H a xs) H1))
theorem ju(hg:Gl X "enumerate") (hm:X.mg "enumerate" = none) (ha:PA X [e] ta) (hs:Ag [e] X.env=[(false,Co e X.env)]:=by rfl):PI X (.Tuple elts x1 ptg) (.Call (.Name "enumerate" p) [e] [] pos) (tF X.K ta):=by
 intro ζ s σ H R I h;refine Call_ (QI I hg hm boot_enumerate (Dq (thn (ha pos ζ s σ H _ I h) λus s1 ⟨vs,H1,I1,r1,q1⟩=>?_) hs rfl));obtain⟨a,rfl,q1⟩:=q1;obtain⟨u,rfl,ru⟩:=vals1 r1;cases ru
 have fp:∀{h':DT} (b:Ab),b∈[s1.heap.objs.size+1,s1.heap.objs.size]->OX X ζ H1 b:=λb hb=>by
  have uf:b=s1.heap.objs.size+1∨b=s1.heap.objs.size:=by simpa using hb
  rcases uf with z | z
  ·rw[z];exact I1.fpOk (OC _) (I1.hok.fresh (OC _))
  ·rw[z];exact I1.fpOk (AL _) (I1.hok.fresh (AL _))
 rcases q1 with⟨⟨xs,sq⟩,q⟩ | ⟨⟨xs,sq⟩,q⟩
 ·obtain⟨i',rv,pl,hz⟩:=I1.list sq
  refine call_enumerate_list pl.isList λh' he hit hsz hk=>MR he ?_
  exact⟨_,[s1.heap.objs.size+1,s1.heap.objs.size],_,_,H1,rfl,I1.kept (t':=s1.toks) hk,Yb a _ _ (iR _),⟨⟨_,he⟩,hit⟩,fp (h':=h'),q⟩
 ·obtain⟨i',rv,pl,hz⟩:=I1.tuple sq
  have pl':s1.heap.IsTuple a i'.toArray:=pl
  have la:a < s1.heap.objs.size:=by obtain⟨o,q,_⟩:=pl';exact Am q
  refine NH pl' λh' he hit hsz hk=>MR he ?_
  exact⟨_,[s1.heap.objs.size+1,s1.heap.objs.size],_,_,H1,rfl,I1.kept (t':=s1.toks) hk,Ya a _ _ (iR _) (BN la) (FL (Qt la)),⟨⟨_,he⟩,hit⟩,fp (h':=h'),q⟩
def S6(ds:List D):List D:=ds.zipIdx.map λx=>.tup [.int x.2,x.1]
def Qh(v:QX):QX:=λS=>(v S).map S6
def M5(m:ME):MI:=λe S=>(m e S).bind λd S1=>match Fm d S1 with
 | some _=>.ok (Qh (Fm d)) S1
 | none=>.bad
theorem Sz(ds:List D)(i:Nat):(S6 ds)[i]?=(ds[i]?).map λd=>.tup [.int i,d]:=by
 unfold S6;rw[Ak,Im]
 cases ds[i]? <;> simp
theorem Qe{K}{ρ}{H}{J}{v}{sq}(hJ:NP K ρ H J v)(h1:∀i H,J.go i H->∃xs x,sq H xs/\xs[i]?=some x)(h2:∀i H,J.stop i H->∃xs,sq H xs/\xs.length<=i)
  (h3:∀i H x,(∀xs,sq H xs->xs[i]?=some x)->J.yld i H x H):NP K ρ H (Ite sq) (Qh v):=by
 intro ρ2 H2 S ds i l s hv;unfold Qh at hv
 cases hd:v S with
 | none=>rw[hd]at hv;cases hv
 | some ds0=>
  rw[hd]at hv;cases hv;obtain⟨a1,a2⟩:=hJ ρ2 H2 S ds0 i l s hd;refine⟨λhn=>?_,λd vT=>?_⟩
  ·rw[Sz]at hn
   refine h2 i H2 (a1 ?_)
   cases hq:ds0[i]? with
   | none=>rfl
   | some d=>rw[hq]at hn;cases hn
  ·rw[Sz]at vT
   cases hq:ds0[i]? with
   | none=>rw[hq]at vT;cases vT
   | some d0=>
    rw[hq]at vT;cases vT;obtain⟨b1,b2⟩:=a2 d0 hq;refine⟨h1 i H2 b1,λy H' hy=>?_⟩;obtain⟨p,x,hp,rfl,rfl,hx⟩:=hy;obtain⟨ρ3,l3,s3,r3⟩:=b2 x H2 (h3 i H2 x hx);obtain⟨s4,l4⟩:=Iu (ho:=.tup [.int i,x]) s3 hp;exact⟨ρ3,l3.trans l4,s4,.tup CJ (.cons (.int _) (.cons (r3.mono l4) .nil))⟩
theorem aL(hg:Gl X "enumerate") (hm:X.mg "enumerate" = none) (h:GE X E e m) (he:Ag [e] X.env=[(false,Co e X.env)]:=by rfl):GI X E (.Tuple elts x1 ptg) (.Call (.Name "enumerate" p) [e] [] pos) (M5 m):=
 (ju hg hm (HK h JY he) he).imp<|by
 rintro σ H R ⟨ρ,l,S,hl,hs,hm⟩
 refine⟨ρ,l,S,hl,hs,hm.seq λd S1 hm ρ1 H1 x l1 s1 r1=>?_⟩
 cases d with
 | tup ds=>
  have Χ:=hm
  cases r1 with
  | @tup _ a vs q1 q2=>
   exact⟨a,rfl,.inr ⟨⟨vs,.inl (.inl q1)⟩,Χ ρ1 H1 _ l1 s1 (Qe (Rt q1 q2) (λi H z=>z) (λi H z=>z) λi H x z=>⟨rfl,z⟩)⟩⟩
 | _=>
  cases hv:Fm _ S1 with
  | none=>rw[hv]at hm;exact hm.elim
  | some ds=>
   rw[hv]at hm
   have:∃a,x=.ref a:=by
    cases r1 <;> first | exact⟨_,rfl⟩ | (cases hv;done)
   obtain⟨a,rfl⟩:=this;obtain⟨xs,sq,_⟩:=Ry s1 r1 hv;exact⟨a,rfl,.inl ⟨⟨xs,sq⟩,hm ρ1 H1 _ l1 s1 (Qe (Rv r1) (λi H z=>z) (λi H z=>z) λi H x z=>⟨rfl,z⟩)⟩⟩
end
open PySem
theorem IC{α:Type}{xs:List α}{j:Int}{x:α}(h0:0<=j)(h:xs[j.toNat]?=some x):atI xs j=some x:=by
 have uw:=(AE.mp h).1;unfold atI ixN;rw[qX (by omega),qX (by lia)];simpa using h
theorem aH(hd:Ga d S=some ds)(h0:0<=j)(h:ds[j.toNat]?=some z):ixA d (.int j) S=.ok z S:=by
 show JZ (ixD d (.int j) S) _=_
 have:ixD d (.int j) S=.ok z S:=by
  unfold ixD;rw[hd];dsimp only;rw[IC h0 h]
 rw[this];rfl
theorem qB{α:Type}(xs:List α){k:Nat}(h:k<=xs.length):Nr xs none (some (k:Int))=xs.take k:=by
 unfold Nr;rw[HT.Zt,HT.XG,lZ h];simp
theorem gn{α:Type}(xs:List α){k:Nat}(h:k<=xs.length):Nr xs (some (k:Int)) none=xs.drop k:=by
 unfold Nr;rw[HT.Zt,HT.XG,lZ h];exact Cr (by simp)
theorem pA{α:Type}:∀{l:List α},l.length=1->∃x1,l=[x1]
 | [a],_=>⟨a,rfl⟩
theorem sk{α:Type}:∀{l:List α},l.length=2->∃x1 x2,l=[x1,x2]
 | y :: _,q=>by
  obtain⟨x2,rfl⟩:=pA (K6 q);exact⟨y,x2,rfl⟩
theorem sj{α:Type}:∀{l:List α},l.length=3->∃x1 x2 x3,l=[x1,x2,x3]
 | y :: _,q=>by
  obtain⟨x2,x3,rfl⟩:=sk (K6 q);exact⟨y,x2,x3,rfl⟩
theorem si{α:Type}:∀{l:List α},l.length=4->∃x1 x2 x3 x4,l=[x1,x2,x3,x4]
 | y :: _,q=>by
  obtain⟨x2,x3,x4,rfl⟩:=sj (K6 q);exact⟨y,x2,x3,x4,rfl⟩
theorem sh{α:Type}:∀{l:List α},l.length=5->∃x1 x2 x3 x4 x5,l=[x1,x2,x3,x4,x5]
 | y :: _,q=>by
  obtain⟨x2,x3,x4,x5,rfl⟩:=si (K6 q);exact⟨y,x2,x3,x4,x5,rfl⟩
theorem len6{α:Type}:∀{l:List α},l.length=6->∃x1 x2 x3 x4 x5 x6,l=[x1,x2,x3,x4,x5,x6]
 | y :: _,q=>by
  obtain⟨x2,x3,x4,x5,x6,rfl⟩:=sh (K6 q);exact⟨y,x2,x3,x4,x5,x6,rfl⟩
open PySem PySem.Spec PyProof.Rows
section
def SM(i:Nat)(g:Int->Int->Int)(m:ME):MS:=λe S=>match e[i]? with
 | some (some (.int x))=>(m e S).lift e λd S1=>match d with
  | .int y=>.ok (.nx (e.set i (some (.int (g x y))))) S1
  | _=>.bad
 | _=>.bad
theorem pP(hN:X.N.Nodup)(hi:X.N[i]?=some x)(hx:Loc X.env.scope x)(hp:PIp X op (ipI g))(he:GE X E e m)
  (hf:X.fn x=true∨X.env.scope.names.lookup x=some .local:=by first | exact .inl rfl | exact .inr rfl | assumption):GS X E (.AugAssign (.Name x pos') op e pos) (SM i g m):=(n9 hN hi hx he hp hf).imp<|by
 rintro D σ H ⟨ρ,l,S,hl,hs,hm⟩
 unfold SM at hm;split at hm
 ·rename_i n hn
  obtain⟨v,h1,h2⟩:=hl.at' i _ hn;cases h2;refine⟨_,h1,ρ,l,S,hl,hs,hm.lift hl .refl λd S1 hm ρ1 H1 y l1 s1 r1=>?_⟩
  cases d with
  | int y=>cases r1;exact⟨n,y,rfl,rfl,hm ρ1 H1 _ l1 s1 ((hl.mono l1).set (.int _) i)⟩
  | _=>exact hm.elim
 ·exact hm.elim
end
def Itv(K:AG)(a:Ab)(n:Nat):It:=
 ⟨λi H=>∃xs x,SqL K H a xs/\xs.length=n/\xs.reverse[i]?=some x,λi H x H'=>H'=H/\∀xs,SqL K H a xs->xs.reverse[i]?=some x,λi H=>∃xs,SqL K H a xs/\xs.length=n/\n<=i⟩
theorem de{P}{w}{K}{tg}(a it:Ab)(n:Nat):UB P w K tg (Itv K a n) [it] it (λi h=>i<=n/\h.IsRevIter it a ((n:Int) - 1 - i)) where
 mem:=by simp
 obj:=λi h st b hb=>by
  have e:b=it:=by simpa using hb
  subst e;obtain⟨_,o,e,c,d⟩:=st;exact⟨o,e,λv z=>by rw[d]at z;cases z⟩
 keep:=λi h h' st k=>⟨st.1,st.2.at λo e=>k it (by simp) o e⟩
 item:=by
  intro X hP hw hK hc i ζ s σ H E I hf st hg;subst hP hw hK;obtain⟨hin,st⟩:=st;obtain⟨xs,x,hq,hn,hx⟩:=hg
  have hi:i < n:=by have:=(AE.mp hx).1;simpa[hn]using this
  have xK:=hx;rw[List.getElem?_reverse (by lia)]at xK;obtain⟨i',rv,p,hz⟩:=I.list hq;obtain⟨u,hu,ru⟩:=rv.get xK;obtain⟨f0,f1,f2,f3,f4,f5⟩:=hf it (by simp)
  have e0:(n:Int) - 1 - (i:Int)=((xs.length - 1 - i:Nat):Int):=by lia
  rw[e0]at st
  refine wpAny_pyNext_rev_item st p.isList (x:=u) (by simpa using hu) λh' st' sb=>?_
  have I1:Inv X ζ σ H { s with heap:=h' }:=I.turned (t':=s.toks) (λb o hb e=>(sb.2 b hb).trans e) f0 f1 f3 f4 f5;obtain⟨o,e,c,d⟩:=id st';refine⟨u,rfl,Xq (s:={ s with heap:=h' }) e c d (by decide) ⟨x,H,I1,ru,⟨rfl,λys hy=>by rw[I.list_inj hy hq];exact hx⟩,⟨hi,?_⟩,λb hb=>(hf b hb).1⟩⟩
  have e1:(n:Int) - 1 - ((i+1:Nat):Int)=((xs.length - 1 - i:Nat):Int) - 1:=by lia
  rw[e1];exact st'
 done:=by
  intro X hP hw hK hc i ζ s σ H E I hf st hg;subst hP hw hK;obtain⟨hin,st⟩:=st;obtain⟨xs,hq,hn,hx⟩:=hg;obtain⟨f0,f1,f2,f3,f4,f5⟩:=hf it (by simp)
  have e0:(n:Int) - 1 - (i:Int) = -1:=by lia
  rw[e0]at st
  exact wpAny_pyNext_rev_end (I.ok.hd hc) st λh' eb=>⟨rfl,I.turned (t':=s.toks) (λb o hb e=>eb b o hb e) f0 f1 f3 f4 f5⟩
 self:=λ_ _ _ _ _ st h=>iH st.2 h
section
def sy(K:AG)(ta:TA):TI:=λσ H R=>ta σ H λvs H1=>∃a xs,vs=[.ref a]/\SqL K H1 a xs/\R (Itv K a xs.length) H1
theorem oC(hg:Gl X "reversed") (hm:X.mg "reversed" = none) (ha:PA X [e] ta) (hs:Ag [e] X.env=[(false,Co e X.env)]:=by rfl):PI X tg (.Call (.Name "reversed" p) [e] [] pos) (sy X.K ta):=by
 intro ζ s σ H R I h;refine Call_ (QI I hg hm boot_reversed (Dq (thn (ha pos ζ s σ H _ I h) λus s1 ⟨vs,H1,I1,r1,q1⟩=>?_) hs rfl));obtain⟨a,xs,rfl,sq,q⟩:=q1;obtain⟨u,rfl,ru⟩:=vals1 r1;cases ru;obtain⟨i',rv,pl,hz⟩:=I1.list sq;have hl:=rv.length;refine call_reversed_list pl.isList ?_;have hit:(s1.heap.push (revObj a ((i'.toArray.size:Int) - 1))).IsRevIter s1.heap.objs.size a ((xs.length:Int) - 1 - ((0:Nat):Int)):=⟨_,Ao _ rfl,rfl,by simp[revObj,hl]⟩;refine iH hit ⟨s1.heap.objs.size,[s1.heap.objs.size],_,_,H1,rfl,I1.kept (t':=s1.toks) λb o e=>AT _ e,de a _ xs.length,⟨Dv _,hit⟩,λb hb=>?_,q⟩
 have e:b=s1.heap.objs.size:=by simpa using hb
 subst e;exact I1.fpOk (AL _) (I1.hok.fresh (AL _))
def Wt(d:D)(n:Nat):QX:=λS=>match No d S with
 | some ds=>if ds.length=n then some ds.reverse else none
 | none=>none
def aJ(m:ME):MI:=λe S=>(m e S).bind λd S1=>match No d S1 with
 | some ds=>.ok (Wt d ds.length) S1
 | none=>.bad
theorem YR{K}{ρ}{H}{a}{d}{n}(r:CH K ρ H d (.ref a)):NP K ρ H (Itv K a n) (Wt d n):=by
 intro ρ2 H2 S ds i l s hv;unfold Wt at hv;split at hv
 ·rename_i es hes
  split at hv
  ·rename_i hlen
   cases hv;obtain⟨a',xs,e,rr,sq⟩:=J9 s (r.mono l) hes;cases e;have hl:=rr.length;refine⟨λhn=>⟨xs,sq,by lia,?_⟩,λd hd=>?_⟩
   ·have:=Cz.mp hn
    rw[bA]at this
    lia
   ·obtain⟨x,hx,rx⟩:=rr.reverse.get hd
    refine⟨⟨xs,x,sq,by lia,hx⟩,λy H' ⟨e,hy⟩=>?_⟩;subst e;have:=hy xs sq;rw[hx]at this;cases this;exact⟨ρ2,.refl,s,rx⟩
  ·cases hv
 ·cases hv
theorem pS(hg:Gl X "reversed") (hm:X.mg "reversed" = none) (h:GE X E e m) (he:Ag [e] X.env=[(false,Co e X.env)]:=by rfl):GI X E tg (.Call (.Name "reversed" p) [e] [] pos) (aJ m):=
 (oC hg hm (HK h JY he) he).imp<|by
 rintro σ H R ⟨ρ,l,S,hl,hs,hm⟩
 refine⟨ρ,l,S,hl,hs,hm.seq λd S1 hm ρ1 H1 x l1 s1 r1=>?_⟩
 cases hq:No d S1 with
 | none=>rw[hq]at hm;exact hm.elim
 | some ds=>
  rw[hq]at hm;obtain⟨a,xs,rfl,rr,sq⟩:=J9 s1 r1 hq;refine⟨a,xs,rfl,sq,hm ρ1 H1 _ l1 s1 ?_⟩;rw[<-rr.length];exact YR r1
end
open PySem PySem.Spec PyProof.Rows
theorem pZ{P}{w}{K}{mg}{base}{CX}{k n}{f}{fd}{ps}:DC P w K mg base CX k f fd ps (spM K n λ_ _=>.bad):=
 ⟨λ_ _ _ _ ⟨_,_,_,_,_,_,h⟩=>h.elim,λ_ _ _ _ _ _ _ _ _ _ _ _ _ ⟨_,_,_,_,_,_,h⟩=>h.elim⟩
end L2
namespace HT
open PySem PySem.Spec PyProof.Rows
section
variable{E:AJ->AS->Prop}
theorem PR{t sl}{items}{vl vu}{lo hi}{Q}(ht:iZ s.heap t items)(hs:s.heap.IsSliceOf sl vl vu .none)(pl:Pr vl lo)(pu:Pr vu hi)
  (hw:sIx items.size 0 lo=0/\sIx items.size items.size hi=items.size) (h:Q (.ref t) s):Aq (Ad prog w) A (Ki (.ref t) (.ref sl)) Q E s:=by
 obtain⟨os,wB,zA,yy⟩:=id hs;have V':s.TypeIs (.ref sl) "slice":=⟨os,wB,zA⟩;unfold Ki
 try with_reducible refine MY ?_
 first | refine AC (AO ?_) | skip
 refine AC (qJ ht.typeIs (by decide) (AC (DQ (name:=Hs "__getitem__") ht.typeIs Cd
  (Du Cd ht.typeIs lV ?_ (mS _ _)))))
 show Aq (Ad prog w) _ (Oj (.ref t) >>= _) _ _ s;refine AC (tupleItemsOf_ ht (AC (TQ V' ?_)));rw[qX (by decide)];refine AC (Ks hs pl pu ?_);show Aq (Ad prog w) _ (if (((sIx items.size 0 lo:Nat):Int)==0&&(1:Int)==1&&(sIx items.size items.size hi - sIx items.size 0 lo)==items.size)=true then _ else _) _ _ s;rw[hw.1,hw.2,qX (by simp)];unfold qt;refine AC (AC (TQ ht.typeIs (AO ?_)));rw[qX (by decide)];exact AC (YD (AC (AO (AO ⟨_,rfl,AO h⟩))))
end
end HT
namespace L2
open PySem PySem.Spec PyProof.Rows
section
variable{X:Cx}
def rSlW(K:AG):V->Option Int->Option Int->Hp->VK->Prop:=λx lo hi H Q=>∃a xs,x=.ref a/\SqT K H a xs/\(HT.sIx xs.length 0 lo=0/\HT.sIx xs.length xs.length hi=xs.length)/\Q (.ref a) H
theorem nX:SlR X (rSlW X.K):=by
 intro ζ s σ H x v vl vu lo hi sl Q I rx hs pl pu h;obtain⟨a,xs,rfl,hx,hw,q⟩:=h;cases rx;obtain⟨i',r,ht,_⟩:=I.tuple hx
 have hlen:i'.toArray.size=xs.length:=by rw[Aj];exact r.length.symm
 exact⟨"tuple",_,Cd.lookup,ht.typeIs,HT.PR ht hs pl pu (by rw[hlen];exact hw) ⟨.ref a,H,I,rfl,q⟩⟩
def nV(d:D)(lo hi:Option Int)(S:Sto):Res D:=match d with
 | .tup ds=>.ok (.tup (Nr ds lo hi)) S
 | _=>.bad
def PD(m:ME)(ml mh:MO):ME:=λe S=>(m e S).bind λd S1=>(ml e S1).bind λlo S2=>(mh e S2).bind λhi S3=>okR (nV d lo hi S3)
variable{E:EW}{e:Expr}{lo hi:Option Expr}{pos p2:Pos}{m:ME}{ml mh:MO}
theorem lF{α:Type}(xs:List α)(lo hi:Option Int)(h:HT.sIx xs.length 0 lo=0/\HT.sIx xs.length xs.length hi=xs.length):Nr xs lo hi=xs:=by
 unfold Nr;rw[h.1,h.2];simp
theorem Ud(he:GE X E e m)(hl:GO X E lo ml)(hu:GO X E hi mh):GE X E (.Subscript e (.Slice lo hi none p2) pos) (PD m ml mh):=(eX (nX.or nW) he hl hu).imp<|by
 rintro σ H Q ⟨ρ,l,S,hl,hs,hm⟩
 refine⟨ρ,l,S,hl,hs,hm.seq λd S1 hm ρ1 H1 x l1 s1 r1=>⟨ρ1,l,S1,hl.mono l1,s1,(hm.later l1).seq λlo S2 hm ρ2 H2 l2 s2=>⟨ρ2,l,S2,hl.mono (l1.trans l2),s2,(hm.later l2).seq λhi S3 hm ρ3 H3 l3 s3=>?_⟩⟩⟩;obtain⟨d',S',e,k⟩:=hm.okR;have r3:=r1.mono (l2.trans l3)
 cases d with
 | tup ds=>
  cases e
  cases r3 with
  | @tup _ a vs h1 h2=>
   by_cases hw:HT.sIx vs.length 0 lo=0/\HT.sIx vs.length vs.length hi=vs.length
   ·refine .inl ⟨a,vs,rfl,.inl (.inl h1),hw,k _ _ _ (l1.trans (l2.trans l3)) s3 ?_⟩
    rw[lF ds lo hi (by rw[h2.length];exact hw)];exact .tup h1 h2
   ·refine .inr ⟨a,vs,rfl,.inl (.inl h1),hw,λq hq=>?_⟩
    obtain⟨s4,l4⟩:=Iu (ho:=.tup (ZM vs lo hi)) s3 hq;exact k _ _ _ (l1.trans (l2.trans (l3.trans l4))) s4 (.tup CJ ((gp h2 lo hi).mono l4))
 | _=>cases e
end
section
instance(i j:Int):Decidable ((λ_ j:Int=>0<=j) i j):=inferInstanceAs (Decidable (0<=j))
abbrev Qv:=intOp hX λi j=>.int (i * 2 ^ j.toNat)
abbrev XA:=intOp (λ_ j=>0<=j) λi j=>.int (i / 2 ^ j.toNat)
abbrev TK:=intOp (λ_ _=>True) λi j=>.int (Bh i j)
theorem ON:OpR X (DR .LShift) (rD X.K Qv):=QC (λ_ _ _ _=>.int _) oW
theorem Yx:OpR X (DR .RShift) (rD X.K XA):=QC (λ_ _ _ _=>.int _) oV
theorem QD:OpR X (DR .BitAnd) (rD X.K TK):=Na (λ_ _ _ _=>.int _) og
theorem aI:PIp X .BitOr (ipI λi j=>Cn i j):=by
 intro ζ s σ H x y v u Q I r1 r2 h;obtain⟨i,j,e1,e2,q⟩:=h;subst e1;subst e2;obtain⟨a,rfl⟩:=r1;obtain⟨b,rfl⟩:=r2;exact ior_int ⟨.int _,H,I.tok _,⟨_,rfl⟩,q⟩
theorem pI:PIp X .BitAnd (ipI λi j=>Bh i j):=by
 intro ζ s σ H x y v u Q I r1 r2 h;obtain⟨i,j,e1,e2,q⟩:=h;subst e1;subst e2;obtain⟨a,rfl⟩:=r1;obtain⟨b,rfl⟩:=r2;exact iand_int ⟨.int _,H,I.tok _,⟨_,rfl⟩,q⟩
theorem pH:PIp X .BitXor (ipI λi j=>Ew i j):=by
 intro ζ s σ H x y v u Q I r1 r2 h;obtain⟨i,j,e1,e2,q⟩:=h;subst e1;subst e2;obtain⟨a,rfl⟩:=r1;obtain⟨b,rfl⟩:=r2;exact ixor_int ⟨.int _,H,I.tok _,⟨_,rfl⟩,q⟩
end
def M1(C:Ab)(m:Str)(n:Nat)(f:List D->Sto->Res D)(mo:ME)(ml:ML):ME:=λe S=>(mo e S).bind λd S1=>match d with
 | .ref k=>match S1[k]? with
  | some (.ins C' fs)=>if C'=C/\fs.lookup m=none then(ml e S1).bind λds S2=>if ds.length+1=n then f (.ref k :: ds) S2 else .bad else .bad
  | _=>.bad
 | _=>.bad
theorem KVR.none{K}{ρ}{H}(f:Str):∀{x:List (Str×D)} {y:List (Str×V)},KVR K ρ H x y->x.lookup f=none->y.lookup f=none
 | _,_,.nil,_=>rfl
 | (g,a) :: x,(g',b) :: y,.cons r t,h=>by
  obtain⟨r1,r2⟩:=r;dsimp only at r1 r2;subst r1;rw[Bf]at h ⊢
  cases hq:(f==g)with
  | true=>rw[hq]at h;cases h
  | false=>rw[hq]at h;exact KVR.none f t h
section
variable{X:Cx}{E:EW}{k n:Nat}{f C:Ab}{m:Str}{mo:ME}{ml:ML}{g:List D->Sto->Res D}
theorem dj{t:TA}{σ:St}{H:Hp}{Q:VK}(h:gE X.K E (M1 C m n g mo ml) σ H Q):lq C m (spM X.K n g) [] (VH E) (gE X.K E mo) (gA X.K E ml) σ H Q:=by
 obtain⟨ρ,l,S,hl,hs,hm⟩:=h;refine⟨ρ,l,S,hl,hs,hm.seq λd S1 hm ρ1 H1 x l1 s1 r1=>?_⟩
 cases d <;> first | exact hm.elim | skip
 rename_i q;dsimp only at hm
 cases ho:S1[q]? with
 | none=>rw[ho]at hm;exact hm.elim
 | some ob=>
  rw[ho]at hm
  cases ob <;> first | exact hm.elim | skip
  rename_i C' fs;dsimp only at hm;split at hm
  ·rename_i hC
   obtain⟨hC,W'⟩:=hC;rw[hC]at ho
   cases r1 with
   | ref vk=>
    obtain⟨dx,wj,e1,e2⟩:=s1.ob q _ _ ho vk;refine⟨_,dx,wj,rfl,e1,KVR.none m e2 W',ρ1,l,S1,hl.mono l1,s1,(hm.later l1).seq λds S2 hm ρ2 H2 xs l2 s2 r2=>?_⟩;split at hm
    ·rename_i hlen
     rw[CB];exact⟨ρ2,.ref q :: ds,S2,by simpa using hlen,.cons (.ref (l2.pre _ _ vk)) r2,s2,hm.xk l2 λ_ _ k ρ' H' z l' s' r'=>k ρ' H' z (l1.trans (l2.trans l')) s' r'⟩
    ·exact hm.elim
  ·exact hm.elim
theorem PU{pl:Sem Bool}(ho:GE X E o mo)(c:Cls X.K C)(hm:WR X.K C m f)(F:DC X.prog X.w X.K X.mg X.base CX k f fd ps (spM X.K n g))(hx:L6 CX X (VH E))(hr:Hj k X.A)(hb:Binds X.K fd ps [])(ha:GA X E (e :: es) ml)
  (vp:Ag (e :: es) X.env=(false,Co e X.env) :: Ag es X.env:=by rfl) (uz:(E6 pos (Ag es X.env)).any (·.1)=false:=by rfl)
  (ht:Co (.Call (.Attribute o m apos) (e :: es) [] pos) X.env=(do
   let ov <-Co o X.env
   qM apos.atName
   let (f,fts) <-X5 [ov] (cc ov m pl)
   callWith pos f fts (E6 pos (Ag (e :: es) X.env)) (YH pos (Pm [] X.env))):=by rfl) :
  GE X E (.Call (.Attribute o m apos) (e :: es) [] pos) (M1 C m n g mo ml):=
 (jz (E:=VH E) ho c hm F hr hb .nil hx ha vp uz ht).imp λσ H Q h=>dj (t:=gA X.K E ml) h
end
section
def rp:V->List V->Hp->VK->Prop:=λx vs H Q=>∃i,x=.int i/\vs=[]/\Q (.int (Dp i)) H
theorem kK:MtR X "int.bit_length" rp:=by
 intro ζ s σ H x vs v us Q I rx rv h;obtain⟨i,rfl,rfl,q⟩:=h;obtain⟨t,rfl⟩:=rx;cases rv;exact call_int_bit_length ⟨.int _,H,I.tok _,⟨_,rfl⟩,q⟩
def Z7(m:ME):ME:=λe S=>(m e S).bind λd S1=>match d with
 | .int i=>.ok (.int (Dp i)) S1
 | _=>.bad
theorem kn(ho:GE X E o mo)(uE:GU o "bit_length" X.env (Co o X.env)=Co o X.env:=by rfl) (uF:(apos.endLine==ui.line)=true:=by rfl) :
  GE X E (.Call (.Attribute o "bit_length" apos) [] [] ui) (Z7 mo):=(oQ PySem.F.plainAttrs_int PySem.F.slot_int_bit_length PySem.F.type_int_bit_length kK ho uE uF).imp<|by
 rintro σ H Q ⟨ρ,l,S,hl,hs,hm⟩
 refine⟨ρ,l,S,hl,hs,hm.seq λd S1 hm ρ1 H1 v l1 s1 r1=>?_⟩
 cases d <;> first | exact hm.elim | skip
 cases r1;exact⟨rfl,_,rfl,rfl,hm ρ1 H1 _ l1 s1 (.int _)⟩
end
section
def rl(K:AG):V->V->Hp->VK->Prop:=λo i H Q=>∃p xs k z,o=.ref p/\i=.int k/\0<=k/\H p=some (.lst xs)/\xs[k.toNat]?=some z/\Q z H
theorem gM:tf X (rl X.K):=by
 intro ζ s σ H o i ov iv Q I ro ri h;obtain⟨p,xs,k,z,rfl,rfl,h0,hp,hz,q⟩:=h;cases ro;obtain⟨t,rfl⟩:=ri;obtain⟨i',n,r,ho,hsz⟩:=I.lst hp
 obtain⟨u,hu,ru⟩:∃u,i'[k.toNat]?=some u/\RelV z u:=r.get hz
 have uw:k.toNat < xs.length:=(AE.mp hz).1;have hn:=QH;exact getItem_listL (l:=i') ⟨_,ho,rfl,n,rfl⟩ h0 (by omega) hu ⟨z,H,I,ru,q⟩
def XH(g:Int->Int->Int)(mo mi mv:ME):MS:=λe S=>(mo e S).lift e λd S1=>(mi e S1).lift e λk S2=>match atL d S2,k with
 | some (_,xs),.int i=>if 0<=i then(match xs[i.toNat]? with
  | some (.int x)=>(mv e S2).lift e λy S3=>match y,atL d S3 with
   | .int y,some (n,zs)=>if i.toNat < zs.length then .ok (.nx e) (S3.set n (.lst (zs.set i.toNat (.int (g x y)))))else .bad
   | _,_=>.bad
  | _=>.bad)else .bad
 | _,_=>.bad
theorem kZ(ho:GE X E o mo)(hi:GE X E i mi)(he:GE X E e mv)(hp:PIp X op (ipI g))
  (ha:∀ov iv new,augStore i ov iv new=(do X5 [new,ov,iv] (qO ov iv new);release [new,ov,iv] [];pure .next):=by intros;rfl):GS X E (.AugAssign (.Subscript o i tpos) op e pos) (XH g mo mi mv):=
 (jp ho hi gM he hp dw ha).imp<|by
 rintro D σ H ⟨ρ,l,S,hl,hs,hm⟩
 refine⟨ρ,l,S,hl,hs,hm.lift hl .refl λd S1 hm ρ1 H1 x l1 s1 r1=>⟨ρ1,l,S1,hl.mono l1,s1,(hm.later l1).lift (hl.mono l1) l1 λk S2 hm ρ2 H2 y l2 s2 r2=>?_⟩⟩;have r12:=r1.mono l2;split at hm
 ·rename_i n xs i hq
  split at hm
  ·rename_i h0
   obtain⟨rfl,h5,a,vs,rfl,hn,e1,rr⟩:=TH s2 r12 hq;cases r2;split at hm
   ·rename_i x hx
    obtain⟨z,hz,rz⟩:=rr.get hx;cases rz;refine⟨a,vs,i,.int x,rfl,rfl,h0,e1,hz,ρ2,l,S2,hl.mono (l1.trans l2),s2,(hm.later l2).lift (hl.mono (l1.trans l2)) (l1.trans l2) λy S3 hm ρ3 H3 w l3 s3 r3=>?_⟩;split at hm
    ·rename_i y n3 zs xM
     split at hm
     ·rename_i uw
      cases r3;obtain⟨_,h6,a3,vs3,e4,Κ,e3,rr3⟩:=TH s3 (r12.mono l3) xM;cases e4;obtain⟨s4,l4⟩:=Zz s3 Κ e3 (rr3.set (.int (g x y)) i.toNat)
      have hix:ixN vs3.length i=some i.toNat:=by
       unfold ixN;rw[qX h0,qX (by rw[<-rr3.length];omega)]
      exact⟨x,y,rfl,rfl,a,vs3,i,i.toNat,rfl,rfl,e3,hix,hm ρ3 _ _ ((l1.trans l2).trans (l3.trans l4)) s4 (hl.mono ((l1.trans l2).trans (l3.trans l4)))⟩
     ·exact hm.elim
    ·exact hm.elim
   ·exact hm.elim
  ·exact hm.elim
 ·exact hm.elim
end
open PySem PySem.Spec PyProof.Rows PySem.SeqAt
section
theorem FH(h1:N.Nodup:=by decide +kernel)(h2:∀x∈ps,sc.names.lookup x=some .local∨sc.names.lookup x=some .cell:=by decide +kernel)(h3:∀y∈sc.names,y.2≠.free:=by decide +kernel)(h4:sc.kind=.function:=by rfl)(h5:sc.isCoroutine=false:=by rfl)(h6:sc.isGenerator=false:=by rfl)(h7:N.take ps.length=ps:=by rfl):Bg N ps sc:=⟨h4,h5,h6,h1,h7,h2,h3⟩
end
section
variable{X:Cx}{E:EW}{e:Expr}
theorem Br(i:Nat)(hN:X.N.Nodup)(hi:X.N[i]?=some x:=by rfl)(hx:Loc X.env.scope x:=by first | exact NQ rfl | exact L8 rfl)(hf:X.fn x=true∨X.env.scope.names.lookup x=some .local:=by first | exact .inl rfl | exact .inr rfl | assumption):GG X (.Name x pos) (tgN i):=kc (jx hN hi hx hf)
theorem CC(i:Nat)(hN:X.N.Nodup)(he:GE X E e m)(hi:X.N[i]?=some x:=by rfl)(hx:Loc X.env.scope x:=by first | exact NQ rfl | exact L8 rfl)(hs:G6 e (some (.Name x pos')) pos.line X.env=pure false:=by rfl)
  (hf:X.fn x=true∨X.env.scope.names.lookup x=some .local:=by first | exact .inl rfl | exact .inr rfl | assumption):GS X E (.Assign [.Name x pos'] e pos) (CT i m):=pO hN hi hx he hs hf
theorem Uc(i:Nat)(hN:X.N.Nodup)(hp:PIp X op (ipI g))(he:GE X E e m)(hi:X.N[i]?=some x:=by rfl)(hx:Loc X.env.scope x:=by first | exact NQ rfl | exact L8 rfl)
  (hf:X.fn x=true∨X.env.scope.names.lookup x=some .local:=by first | exact .inl rfl | exact .inr rfl | assumption):GS X E (.AugAssign (.Name x pos') op e pos) (SM i g m):=pP hN hi hx hp he hf
end
open PySem PySem.Spec PyProof.Rows
section
variable{X:Cx}{E:EW}{tg e:Expr}{K:AG}{ζ:List (Ab×Obj)}{σ:St}{H:Hp}{s:AS}
def Itk(a:Ab)(ob:Obj)(u:HO)(xs:List V):It:=
 ⟨λi H=>H a=some (.frz ob u)/\i < xs.length,λi H x H'=>H'=H/\xs[i]?=some x,λi H=>H a=some (.frz ob u)/\xs.length<=i⟩
theorem bL(hx:ob.ExactDict)(hd:ob.data=.dict es ep)(hv:B0 xs (es.toList.map (·.key))):UB P w K tg (Itk a ob u xs) [it] it (λi h=>h.IsKeyIter it a i es.size ep) where
 mem:=by simp
 obj:=λi h st b hb=>by
  have e:b=it:=by simpa using hb
  subst e;obtain⟨o,e,c,d⟩:=st;exact⟨o,e,λv z=>by rw[d]at z;cases z⟩
 keep:=λi h h' st k=>st.at λo e=>k it (by simp) o e
 item:=by
  intro X hP hw hK hc i ζ s σ H E I hf st hg;subst hP hw hK;obtain⟨ha,hi⟩:=hg;obtain⟨g,_⟩:=(show Df X.prog X.w H s.heap a (.frz ob u)from I.hok a _ ha)
  have hs:xs.length=es.size:=by have:=hv.length;rw[AF,Bq]at this;exact this
  have zJ:i < es.size:=by rw[<-hs];exact hi
  obtain⟨v,h1,h2⟩:=hv.get (AU hi);rw[Ak,YC,UL zJ]at h1;cases h1;obtain⟨f0,f1,f2,f3,f4,f5⟩:=hf it (by simp)
  refine Srt.XQ st ⟨ob,g,hx,hd⟩ zJ λh' st' sb=>?_
  have I1:Inv X ζ σ H { s with heap:=h' }:=I.turned (t':=s.toks) (λb o hb e=>(sb.2 b hb).trans e) f0 f1 f3 f4 f5;obtain⟨o,e,c,d⟩:=id st';exact⟨_,rfl,Xq (s:={ s with heap:=h' }) e c d (by decide) ⟨_,H,I1,h2,⟨rfl,AU hi⟩,st',λb hb=>(hf b hb).1⟩⟩
 done:=by
  intro X hP hw hK hc i ζ s σ H E I hf st hg;subst hP hw hK;obtain⟨ha,hi⟩:=hg;obtain⟨g,_⟩:=(show Df X.prog X.w H s.heap a (.frz ob u)from I.hok a _ ha)
  have hs:xs.length=es.size:=by have:=hv.length;rw[AF,Bq]at this;exact this
  obtain⟨f0,f1,f2,f3,f4,f5⟩:=hf it (by simp)
  exact Srt.Zx (I.ok.hd hc) st ⟨ob,g,hx,hd⟩ (by rw[<-hs];exact hi) λh' eb=>⟨rfl,I.turned (t':=s.toks) (λb o hb e=>eb b o hb e) f0 f1 f3 f4 f5⟩
 self:=λ_ _ _ _ _ st h=>iI st h
theorem lD:∀{l:List Qd} {us:List (Key×AJ)} {f':List (Key×V)},Pairs (Ev P w) l us->KV f' us->B0 (f'.map λx=>kV x.1) (l.map (·.key)):=by
 intro l us f' hp
 induction hp generalizing f' with
 | nil=>intro h;cases h;exact .nil
 | cons q1 q2 _ ih=>
  intro h
  cases h with
  | cons r t=>
   refine .cons ?_ (ih t);dsimp only;rw[r.1]
   rcases Do q1 with⟨i,t,e1,e2⟩ | ⟨x,t,e1,e2⟩
   ·rw[e1,e2];exact⟨t,rfl⟩
   ·rw[e1,e2];exact⟨t,rfl⟩
theorem gf:∀{f':List (List Key×V)} {xs:List (List Key×Ab×AJ)},Gx (λ(p:List Key×V) (q:List Key×Ab×AJ)=>p.1=q.1/\H q.2.1=some (.tup (p.1.map kV))/\RelV p.2 q.2.2) f' xs->Gx (λ(k:List Key×V) b=>H b=some (.tup (k.1.map kV))) f' (xs.map (·.2.1)):=by
 intro f' xs h
 induction h with
 | nil=>exact .nil
 | cons r _ ih=>exact .cons r.2.1 ih
theorem bg(l:List Ab):B0 (l.map V.ref) (l.map Bb):=by
 induction l with
 | nil=>exact .nil
 | cons a l ih=>exact .cons rfl ih
def iDct(tl:TE):TI:=λσ H R=>tl σ H λx H1=>∃a ob,x=.ref a/\((∃f',H1 a=some (.frz ob (.dK f'))/\R (Itk a ob (.dK f') (f'.map λx=>kV x.1)) H1) ∨
 ∃f',H1 a=some (.frz ob (.dT f'))/\∀bs,Gx (λ(k:List Key×V) b=>H1 b=some (.tup (k.1.map kV))) f' bs->R (Itk a ob (.dT f') (bs.map V.ref)) H1)
theorem jv(hl:PE X l tl):PI X tg l (iDct tl):=by
 intro ζ s σ H R I h
 refine thn (hl ζ s σ H _ I h) λv s1 ⟨x,H1,I1,r1,q1⟩=>?_
 obtain⟨a,ob,e,q⟩:=q1;subst e;cases r1
 have fin:∀{u:HO} {xs:List V} {es:Array Qd} {ep:Nat},(a==EG)=false->s1.heap.get? a=some ob->ob.ExactDict->ob.data=.dict es ep->B0 xs (es.toList.map (·.key))->R (Itk a ob u xs) H1 ->
   Aq (Ad X.prog X.w) X.A (mO (.ref a)) (PIE X ζ σ tg R) X.xe s1:=λsm g g2 g3 hv q=>by
  refine Srt.XR sm ⟨ob,g,g2,g3⟩ ?_;refine⟨s1.heap.objs.size,[s1.heap.objs.size],_,_,H1,rfl,I1.kept (t':=s1.toks) λb o e=>AT _ e,bL g2 g3 hv,⟨_,Ao _ rfl,rfl,rfl⟩,λb hb=>?_,q⟩
  have e:b=s1.heap.objs.size:=by simpa using hb
  subst e;exact I1.fpOk (AL _) (I1.hok.fresh (AL _))
 rcases q with⟨f',ha,q⟩ | ⟨f',ha,q⟩
 ·obtain⟨g,hz,sm,us,kv,o,es,ep,g1,g2,g3,g5,g6,_⟩:=(show Df X.prog X.w H1 s1.heap a (.frz ob (.dK f'))from I1.hok a _ ha)
  rw[g]at g1;cases g1;exact fin sm g g2 g3 (lD g6 kv) q
 ·obtain⟨g,hz,sm,xs,rr,o,es,ep,g1,g2,g3,g4,_⟩:=(show Df X.prog X.w H1 s1.heap a (.frz ob (.dT f'))from I1.hok a _ ha)
  rw[g]at g1;cases g1
  have hk:es.toList.map (·.key)=(xs.map (·.2.1)).map Bb:=by
   rw[g4,BP,BP];rfl
  exact fin sm g g2 g3 (by rw[hk];exact bg _) (q _ (gf rr))
def Xm(d:D)(S:Sto):Option (List D):=match d with
 | .ref n=>match S[n]? with
  | some (.fK f')=>some (f'.map λx=>Y9 x.1)
  | some (.fT f')=>some (f'.map λx=>.tup (x.1.map Y9))
  | _=>none
 | _=>none
def aK(m:ME):MI:=λe S=>(m e S).bind λd S1=>match Xm d S1 with
 | some ds=>.ok (Hm ds) S1
 | none=>.bad
theorem Rx(ha:H a=some (.frz ob u))(h2:A0 K ρ H ds xs):NP K ρ H (Itk a ob u xs) (Hm ds):=by
 intro ρ2 H2 S uX i l s hv;cases hv;have rr:=h2.mono l;have zD:=l.frz _ _ _ ha;refine⟨λhn=>⟨zD,by rw[<-rr.length];exact Cz.mp hn⟩,λd hd=>?_⟩;obtain⟨x,hx,rx⟩:=rr.get hd;refine⟨⟨zD,(AE.mp hx).1⟩,λy H' ⟨e,hy⟩=>?_⟩;subst e;rw[hx]at hy;cases hy;exact⟨ρ2,.refl,s,rx⟩
theorem kb(h:GE X E e m):GI X E tg e (aK m):=(jv h).imp<|by
 rintro σ H R ⟨ρ,l,S,hl,hs,hm⟩
 refine⟨ρ,l,S,hl,hs,hm.seq λd S1 hm ρ1 H1 x l1 s1 r1=>?_⟩
 cases hq:Xm d S1 with
 | none=>rw[hq]at hm;exact hm.elim
 | some ds=>
  rw[hq]at hm
  cases r1 with
  | @ref n a hn=>
   obtain⟨o,ho,ro⟩:=s1.there hn;unfold Xm at hq;simp only[ho]at hq
   cases o with
   | fK f'=>
    cases hq;obtain⟨ob,vs,e,rr⟩:=ro;exact⟨a,ob,rfl,.inl ⟨vs,e,hm ρ1 H1 _ l1 s1 (Rx e (PK rr))⟩⟩
   | fT f'=>
    cases hq;obtain⟨ob,vs,e,rr⟩:=ro;exact⟨a,ob,rfl,.inr ⟨vs,e,λbs hb=>hm ρ1 H1 _ l1 s1 (Rx e (Si rr hb))⟩⟩
   | _=>cases hq
  | _=>cases hq
theorem Inv.fz(I:Inv X ζ σ H s)(hg:s.heap.get? a=some ob)(ha:H a=some u)(mu:Mut (some u)):Inv X ζ σ (upd H a (.frz ob u)) s:=by
 have nn:∀b,H b=none->b≠a:=λb h z=>by subst z;rw[ha]at h;cases h
 have nm:∀b o,H b=some o->¬Mut (some o)->b≠a:=λb o h n z=>by subst z;rw[ha]at h;cases h;exact n mu
 have st:∀b o,Df X.prog X.w H s.heap b o->Df X.prog X.w (upd H a (.frz ob u)) s.heap b o:=λb o x=>
  x.stay (λ_ _ _ q=>q) (λc r=>by rw[Bo (nm c _ r λz=>z)];exact r) λc xs r=>by rw[Bo (nm c _ r λz=>z)];exact r
 refine⟨I.ok,I.os,I.bare,⟨I.base.keep,I.base.slot,λb o q n hx=>?_,I.base.there,λb xs q=>?_,λb o xs q=>?_,λb ps q=>?_⟩,I.loc,I.cell,?_,λx c q=>?_,λp hp=>?_,λb o q=>?_,I.len⟩
 ·have:=I.base.free b o q n hx
  rw[Bo (nn b this)];exact this
 ·have:=I.base.tups b xs q
  rw[Bo (nm b _ this λz=>z)];exact this
 ·have:=I.base.frzs b o xs q
  rw[Bo (nm b _ this λz=>z)];exact this
 ·obtain⟨more,this⟩:=I.base.tbls b ps q
  exact⟨more,by rw[Bo (nm b _ this λz=>z)];exact this⟩
 ·rw[Bo (nn _ I.free)];exact I.free
 ·rw[Bo (nn _ (I.freeC x c q))];exact I.freeC x c q
 ·obtain⟨h1,h2,h3⟩:=I.pin p hp
  exact⟨h1,by rw[Bo (nn _ h2)];exact h2,h3⟩
 ·by_cases hb:b=a
  ·subst hb
   rw[CJ]at q;cases q;exact⟨hg,st b u (I.hok b u ha)⟩
  ·rw[Bo hb]at q
   exact st b o (I.hok b o q)
def fzO:Ob->Option Ob
 | .dK f'=>some (.fK f')
 | .dT f'=>some (.fT f')
 | .fK f'=>some (.fK f')
 | .fT f'=>some (.fT f')
 | _=>none
def sFz(i:Nat):MS:=λe S=>match e[i]? with
 | some (some (.ref n))=>match S[n]? with
  | some o=>match fzO o with
   | some o'=>.ok (.nx e) (S.set n o')
   | none=>.bad
  | none=>.bad
 | _=>.bad
theorem XC{S:Sto}{n:Nat}{o:Ob}(h:S[n]?=some o):S.set n o=S:=by
 apply Hl
 intro j;rw[DU];split
 ·rename_i c
  subst c;split
  ·exact h.symm
  ·rename_i c;rw[CI (Ib.mp c)]at h;cases h
 ·rfl
theorem tH{i:Nat}{st:DS}{ms:MS}(h:GS X E st ms):GS X E st (BJ (sFz i) ms):=by
 rintro ζ s σ H D I ⟨ρ,l,S,hl,hs,hm⟩
 cases hx:l[i]? with
 | none=>unfold BJ sFz at hm;rw[hx]at hm;exact hm.elim
 | some x=>
  cases x with
  | none=>unfold BJ sFz at hm;rw[hx]at hm;exact hm.elim
  | some d=>
   cases d with
   | ref n=>
    cases ho:S[n]? with
    | none=>unfold BJ sFz at hm;rw[hx]at hm;dsimp only at hm;rw[ho]at hm;exact hm.elim
    | some o=>
     cases hf:fzO o with
     | none=>unfold BJ sFz at hm;rw[hx]at hm;dsimp only at hm;rw[ho]at hm;dsimp only at hm;rw[hf]at hm;exact hm.elim
     | some o'=>
      have u7:Cg X.K noH ρ H (ms l (S.set n o')) λfl S'=>RD X.K E ρ H S' D fl:=by
       unfold BJ sFz at hm;rw[hx]at hm;dsimp only at hm;rw[ho]at hm;dsimp only at hm;rw[hf]at hm;exact hm
      obtain⟨a,hn,ro⟩:=hs.at ho
      have fr:∀u,H a=some u->Mut (some u)->(∃ob,s.heap.get? a=some ob)->(∀ob,Ea X.K ρ (upd H a (.frz ob u)) a o')->Aq (Ad X.prog X.w) X.A (exec st X.env) _ _ s:=λu ha mu ⟨ob,hg⟩ ra=>by
       have le:Le X.K ρ H ρ (upd H a (.frz ob u)):=Le.write hn (by rw[ha];exact mu);obtain⟨s5,_⟩:=hs.write hn (ra ob) le;exact h ζ s σ _ D (I.fz hg ha mu) ⟨ρ,l,_,hl.mono le,s5,u7.go le λ_ _ k=>k.later le⟩
      cases o with
      | dK f'=>
       cases hf;obtain⟨vs,e,rr⟩:=ro
       refine fr _ e trivial ?_ λob=>⟨ob,vs,CJ,KVR.mono (Le.write hn (by rw[e];trivial)) rr⟩
       obtain⟨_,_,_,_,o,_,_,e,_⟩:=(show Df X.prog X.w H s.heap a (.dK vs)from I.hok a _ e);exact⟨o,e⟩
      | dT f'=>
       cases hf;obtain⟨vs,e,rr⟩:=ro
       refine fr _ e trivial ?_ λob=>⟨ob,vs,CJ,KVR.mono (Le.write hn (by rw[e];trivial)) rr⟩
       obtain⟨_,_,_,_,o,_,_,e,_⟩:=(show Df X.prog X.w H s.heap a (.dT vs)from I.hok a _ e);exact⟨o,e⟩
      | fK f'=>cases hf;rw[XC ho]at u7;exact h ζ s σ H D I ⟨ρ,l,S,hl,hs,u7⟩
      | fT f'=>cases hf;rw[XC ho]at u7;exact h ζ s σ H D I ⟨ρ,l,S,hl,hs,u7⟩
      | _=>cases hf
   | _=>unfold BJ sFz at hm;rw[hx]at hm;exact hm.elim
end
open PySem PySem.Spec PyProof.Rows
section
variable{K:AG}{ρ ρ':List Ab}{H H':Hp}{S:Sto}{L:Key->Int}{m n:Nat}{a:Ab}
mutual
theorem CH.cut(p:∀(n:Nat) a,ρ[n]?=some a->ρ'[n]?=some a):∀{d:D} {v v':V},CH K ρ H d v->CH K ρ' H' d v'->CH K ρ H' d v'
 | _,_,_,.non,.non=>.non
 | _,_,_,.bl _,.bl b=>.bl b
 | _,_,_,.int _,.int i=>.int i
 | _,_,_,.str _,.str x=>.str x
 | _,_,_,.tup _ r,.tup h r'=>.tup h (A0.cut p r r')
 | _,_,_,.fro _ r,.fro h r'=>.fro h (A0.cut p r r')
 | _,_,_,.ref h,.ref h'=>by
  have e:=(p _ _ h).symm.trans h';cases e;exact .ref h
 | _,_,_,.exc _ _,.exc h e=>.exc h e
theorem A0.cut(p:∀(n:Nat) a,ρ[n]?=some a->ρ'[n]?=some a):∀{d:List D} {v v':List V},A0 K ρ H d v->A0 K ρ' H' d v'->A0 K ρ H' d v'
 | _,_,_,.nil,.nil=>.nil
 | _,_,_,.cons r t,.cons r' t'=>.cons (CH.cut p r r') (A0.cut p t t')
end
theorem KVR.cut(p:∀(n:Nat) a,ρ[n]?=some a->ρ'[n]?=some a):∀{x:List (κ×D)} {y z:List (κ×V)},KVR K ρ H x y->KVR K ρ' H' x z->KVR K ρ H' x z
 | _,_,_,.nil,.nil=>.nil
 | _,_,_,.cons r t,.cons r' t'=>.cons ⟨r'.1,r.2.cut p r'.2⟩ (KVR.cut p t t')
theorem Ea.cut(p:∀(n:Nat) a,ρ[n]?=some a->ρ'[n]?=some a)(h:Ea K ρ H a o)(h':Ea K ρ' H' a o):Ea K ρ H' a o:=by
 cases o with
 | lst ds=>obtain⟨_,_,r⟩:=h;obtain⟨vs,e,r'⟩:=h';exact⟨vs,e,r.cut p r'⟩
 | dK ds=>obtain⟨_,_,r⟩:=h;obtain⟨vs,e,r'⟩:=h';exact⟨vs,e,KVR.cut p r r'⟩
 | dT ds=>obtain⟨_,_,r⟩:=h;obtain⟨vs,e,r'⟩:=h';exact⟨vs,e,KVR.cut p r r'⟩
 | ins C ds=>obtain⟨_,_,_,r⟩:=h;obtain⟨dx,vs,e,r'⟩:=h';exact⟨dx,vs,e,KVR.cut p r r'⟩
 | fK ds=>obtain⟨_,_,_,r⟩:=h;obtain⟨dx,vs,e,r'⟩:=h';exact⟨dx,vs,e,KVR.cut p r r'⟩
 | fT ds=>obtain⟨_,_,_,r⟩:=h;obtain⟨dx,vs,e,r'⟩:=h';exact⟨dx,vs,e,KVR.cut p r r'⟩
 | mem L=>exact h'
def lS(L:Key->Int)(f':List (Key×D)):Prop:=(f'.map (·.1)).Nodup/\∀x∈f',x.1∈Vz/\x.2=D.int (L x.1)
theorem Z4:∀{f':List (Key×V)},(∀x∈f',x.2=V.int (L x.1))->KVR K ρ H (f'.map λx=>(x.1,D.int (L x.1))) f'
 | [],_=>.nil
 | (k,v) :: l,h=>.cons ⟨rfl,by rw[show v=V.int (L k)from h _ (Af ..)];exact .int _⟩ (Z4 λx hx=>h x (AY _ hx))
theorem Xl:∀{f':List (Key×D)} {us:List (Key×V)},KVR K ρ H f' us->(∀x∈f',x.1∈Vz/\x.2=D.int (L x.1))->∀x∈us,x.1∈Vz/\x.2=V.int (L x.1)
 | _,_,.nil,_,x,hx=>by cases hx
 | (k,d) :: l,(k',v) :: us,.cons r t,h,x,hx=>by
  rcases Ap.mp hx with rfl | hx
  ·obtain⟨e,r⟩:=r
   dsimp only at e r ⊢;subst e;obtain⟨h1,h2⟩:=h _ (Af ..);dsimp only at h1 h2;rw[h2]at r;cases r;exact⟨h1,rfl⟩
  ·exact Xl t (λy hy=>h y (AY _ hy)) x hx
theorem aE(r:KVR K ρ H f' us)(h:lS L f'):(us.map (·.1)).Nodup/\∀x∈us,x.1∈Vz/\x.2=V.int (L x.1):=⟨by rw[<-KVR.keys r];exact h.1,Xl r h.2⟩
theorem CW.swap(s:CW K ρ S H)(hm:S[m]?=some o)(h:∀a,ρ[m]?=some a->Ea K ρ H a o->Ea K ρ H a o'):CW K ρ (S.set m o') H:=
 ⟨by rw[D5];exact s.len,s.nd,λj q b hj hb=>by
  rw[DU]at hj;split at hj
  ·rename_i c
   subst c;split at hj
   ·cases hj;exact h b hb (s.ob m o b hm hb)
   ·cases hj
  ·exact s.ob j q b hj hb⟩
end
def lmI:Res D->Int
 | .ok (.int z) _=>z
 | _=>0
def pp(x:Str)(q:Nat)(S:Sto):Option Str:=match S[q]? with
 | some (.ins _ fs)=>match fs.lookup x with
  | some (.str y)=>some y
  | _=>none
 | _=>none
def UZ(x:Str)(ds:List D)(S:Sto):Option Nat:=match ds with
 | .ref q :: _=>match S[q]? with
  | some (.ins _ fs)=>match fs.lookup x with
   | some (.ref m)=>some m
   | _=>none
  | _=>none
 | _=>none
def mK(f:List D->Sto->Res D)(ds:List D)(S:Sto)(m:Nat)(L:Key->Int)(z:Int):Prop:=
 ∀f',lS L f'->∃S' tx,f ds (S.set m (.dK f'))=.ok (.int z) S'/\S'[m]?=some (.dK tx)/\lS L tx/\∀n,n < S.length->n≠m->S'[n]?=S[n]?
open Classical in
def lQ(x:Str)(f:List D->Sto->Res D)(ds:List D)(S:Sto):Res D:=match UZ x ds S with
 | some m=>match S[m]? with
  | some (.mem L)=>match f ds (S.set m (.dK []))with
   | .ok (.int z) _=>if mK f ds S m L z then .ok (.int z) S else .bad
   | _=>.bad
  | _=>.bad
 | none=>.bad
def kL(x:Str)(Lf:List D->Sto->Key->Int)(f:List D->Sto->Res D)(ds:List D)(S:Sto):Res D:=match f ds S with
 | .ok .non S'=>match UZ x ds S' with
  | some m=>match S'[m]? with
   | some (.dK [])=>.ok .non (S'.set m (.mem (Lf ds S')))
   | _=>.bad
  | none=>.bad
 | _=>.bad
section
variable{P:Bs}{w:CV}{K:AG}{mg:Str->Option AJ}{base:DT}{CX:CXT}{k n:Nat}{fa:Ab}{fd:LG}{ps:List Str}{x:Str}{f:List D->Sto->Res D}{Lf:List D->Sto->Key->Int}
theorem pd(F:DC P w K mg base CX k fa fd ps (spM K n f)):DC P w K mg base CX k fa fd ps (spM K n (lQ x f)):=F.imp<|by
 rintro vs H Q E ⟨ρ,ds,S,h1,h2,h3,h4⟩
 unfold lQ at h4;split at h4
 ·rename_i m hm
  split at h4
  ·rename_i L hL
   split at h4
   ·rename_i z S0 hz
    split at h4
    ·rename_i hA
     obtain⟨a,ha,f',e,hn,hc⟩:=h3.at hL
     obtain⟨S',tx,hf,Χ,uN,hk⟩:=hA (f'.map λx=>(x.1,D.int (L x.1))) ⟨by rw[BP];exact hn,λy hy=>by
      obtain⟨u,hu,rfl⟩:=BO.mp hy
      exact⟨(hc u hu).1,rfl⟩⟩
     refine⟨ρ,ds,S.set m (.dK (f'.map λx=>(x.1,D.int (L x.1)))),h1,h2,h3.swap hL (λb hb _=>⟨f',?_,Z4 λx hx=>(hc x hx).2⟩),?_⟩
     ·rw[ha]at hb;cases hb;exact e
     ·rw[hf]
      intro ρ' H' y l s r;cases r;refine h4 ρ H' _ ⟨λ_ _ h=>h,l.tup,l.frz,λa o e n=>⟨(l.oth a o e n).1,n⟩⟩ ⟨h3.len,h3.nd,λj o b hj hb=>?_⟩ (.int z);have uf:=l.pre j b hb
      by_cases c:j=m
      ·subst c
       rw[hL]at hj;cases hj;obtain⟨us,e3,r3⟩:=s.ob j _ b Χ uf;exact⟨us,e3,aE r3 uN⟩
      ·exact(h3.ob j o b hj hb).cut l.pre (s.ob j o b ((hk j (AE.mp hj).1 c).trans hj) uf)
    ·exact h4.elim
   ·exact h4.elim
  ·exact h4.elim
 ·exact h4.elim
theorem ku(F:DC P w K mg base CX k fa fd ps (spM K n f)):DC P w K mg base CX k fa fd ps (spM K n (kL x Lf f)):=F.imp<|by
 rintro vs H Q E ⟨ρ,ds,S,h1,h2,h3,h4⟩
 unfold kL at h4;refine⟨ρ,ds,S,h1,h2,h3,?_⟩;split at h4
 ·rename_i S' hf
  split at h4
  ·rename_i m hm
   split at h4
   ·rename_i hL
    rw[hf];intro ρ' H' y l s r;exact h4 ρ' H' y l (s.swap hL λa ha ⟨us,e,r⟩=>⟨us,e,aE r ⟨EX,λ_ hx=>nomatch hx⟩⟩) r
   ·exact h4.elim
  ·exact h4.elim
 ·exact h4.elim
end
end L2
namespace L2
open PySem PySem.Spec PyProof.Rows PySem.W
section
variable{X:Cx}{k k' n:Nat}{x qual:Str}{st:DS}{ps:List Str}{p pos:Pos}{e:Expr}{es:List Expr}{ml:ML}{g:List D->Sto->Res D}
theorem gcl(D:Dfn X.K X.mg x qual st ps)(F:DC X.prog X.w X.K X.mg X.base (CXG X.prog X.w) k D.f D.fd ps (spM X.K n g))(hr:Hj k' X.A)(ha:GA X noE (e :: es) ml)(hk:k<=k':=by decide)(hx:X.xe=λ_ _=>False:=by rfl)(hg:Gl X x:=by rfl)
  (uW:(x==("__debug__" : Str))=false:=by decide) (he:Ag (e :: es) X.env=(false,Co e X.env) :: Ag es X.env:=by rfl) (uz:(E6 pos (Ag es X.env)).any (·.1)=false:=by rfl) :
  GE X noE (.Call (.Name x p) (e :: es) [] pos) (CP n g ml):=WB F (good_none hx).pass (hr.mono hk) hg D.m D.kp D.b ha uW he uz
end
abbrev FnAt(K:Frag)(x qual:Str)(st:DS)(f:Ab):Prop:=∃(oc:AJ) (od:Option Ab) (kV doc pm:AJ) (an:Option Ab) (uq ct:AJ) (vO:Array (Option AJ)),
 K.lookup f=some ⟨oc,od,.func (fnOf x qual (Ls st) (JD st) (BE st) .none kV doc pm an uq ct),vO⟩/\codeIn K uq qual=true/\keepIn K (.ref f)=true
abbrev EC(K:Frag)(x:Str)(st:DS)(f:Ab):Prop:=TV K Bc x=some (some (.ref f))/\FnAt K x x st f
abbrev N8(K:Frag)(C:Ab)(x qual:Str)(st:DS)(f:Ab):Prop:=findIn K (.ref C) x=some (some (.ref f))/\isFn K (.ref f)=true/\FnAt K x qual st f
abbrev ClsAt(K:Frag)(x:Str)(C:Ab):Prop:=TV K Bc x=some (some (.ref C))/\plainGet K C Str.empty=true/\hasDictIn K C=true/\plainOver K C=true/\findIn K (.ref C) "__setattr__" = some (some (.builtin "object.__setattr__"))/\makesIn K C=true/\keepIn K (.ref C)=true
def X4(st:DS)(ps:List Str):Prop:=∀(x qual:Str) (kV doc pm:AJ) (an:Option Ab) (uq ct:AJ) (us:List AJ),us.length=ps.length->iP (fnOf x qual (Ls st) (JD st) (BE st) .none kV doc pm an uq ct) ⟨us,[]⟩=pure (ps.zip us)
section
variable{K:Frag}{h:DT}{mg:Str->Option AJ}{x qual:Str}{st:DS}{f C:Ab}{ps:List Str}{a b c d e g:Str}
theorem FnAt.fd(z:FnAt K x qual st f):∃fd,Fun K x qual st f fd:=by
 obtain⟨oc,od,kV,doc,pm,an,uq,ct,vO,l,c,k⟩:=z;exact⟨_,gR l c k⟩
def mkD(X:K.In h)(G:h.Ns Bc mg)(z:EC K x st f)(b:X4 st ps):Dfn K mg x x st ps:=⟨f,(FnAt.fd z.2).choose,(FnAt.fd z.2).choose_spec,(FnAt.fd z.2).choose_spec.binds (b x x),qP X G z.1⟩
def mkM(z:N8 K C x qual st f)(b:X4 st ps):Mtd K x qual st ps:=⟨f,(FnAt.fd z.2.2).choose,(FnAt.fd z.2.2).choose_spec,(FnAt.fd z.2.2).choose_spec.binds (b x qual)⟩
theorem FnAt.kp(z:FnAt K x qual st f):keepIn K (.ref f)=true:=by
 obtain⟨oc,od,kV,doc,pm,an,uq,ct,vO,l,c,k⟩:=z;exact k
theorem mkE(z:N8 K C x qual st f):WR K C x f:=⟨z.1,z.2.1,FnAt.kp z.2.2⟩
theorem mkO(X:K.In h)(G:h.Ns Bc mg)(z:ClsAt K y C)(i:N8 K C "__init__" qual st f):Own K mg y C f:=⟨⟨z.2.1,z.2.2.1,z.2.2.2.1,z.2.2.2.2.1⟩,⟨z.2.2.2.2.2.1,i.1,i.2.1,z.2.2.2.2.2.2⟩,qP X G z.1⟩
abbrev bnd(st:DS)(ps:List Str)(us:List AJ):Prop:=∀(x qual:Str) (kV doc pm:AJ) (an:Option Ab) (uq ct:AJ),iP (fnOf x qual (Ls st) (JD st) (BE st) .none kV doc pm an uq ct) ⟨us,[]⟩=pure (ps.zip us)
theorem bd1(z:∀u,bnd st [a] [u]):X4 st [a]:=λx q k d p n c t us hl=>by obtain⟨u,rfl⟩:=pA hl;exact z u x q k d p n c t
theorem bd2(z:∀u v,bnd st [a,b] [u,v]):X4 st [a,b]:=λx q k d p n c t us hl=>by obtain⟨u,v,rfl⟩:=sk hl;exact z u v x q k d p n c t
theorem bd3(z:∀u v w,bnd st [a,b,c] [u,v,w]):X4 st [a,b,c]:=λx q k d p n c t us hl=>by obtain⟨u,v,w,rfl⟩:=sj hl;exact z u v w x q k d p n c t
theorem bd4(z:∀u v w y,bnd st [a,b,c,d] [u,v,w,y]):X4 st [a,b,c,d]:=λx q k d p n c t us hl=>by obtain⟨u,v,w,y,rfl⟩:=si hl;exact z u v w y x q k d p n c t
theorem bd5(z:∀u v w y l,bnd st [a,b,c,d,e] [u,v,w,y,l]):X4 st [a,b,c,d,e]:=λx q k d p n c t us hl=>by obtain⟨u,v,w,y,l,rfl⟩:=sh hl;exact z u v w y l x q k d p n c t
theorem bd6(z:∀u v w y l m,bnd st [a,b,c,d,e,g] [u,v,w,y,l,m]):X4 st [a,b,c,d,e,g]:=λx q k d p n c t us hl=>by obtain⟨u,v,w,y,l,m,rfl⟩:=len6 hl;exact z u v w y l m x q k d p n c t
end
open PySem PySem.Spec PyProof.Rows
abbrev Cx.q(X:Cx):Cx:={ X with xe:=λ_ _=>False }
def EK(n:Nat)(mb:MS)(ds:List D)(S:Sto):Res D:=(okR (mb (Ig n ds) S)).bind λf S1=>match f with
 | .rt d=>.ok d S1
 | .nx _=>.ok .non S1
 | _=>.bad
section
variable{P:Bs}{w:CV}{K:AG}{mg:Str->Option AJ}{base:DT}
theorem kt{x qual}{st}{f}{fd}{N ps}{k n}(F:Fun K x qual st f fd)(Sc:Bg N ps (BE st))(hn:ps.length=n){mb}
  (vf:∀(uq:AJ) (A:Cj) (outer:List Env) (s:AS) (H:Hp) (E:XK),Hj k (A.deeper (N9 qual (BE st) s.heap.objs.size f uq))->GSs (ZL (CXG P w) P w K mg base N qual (BE st) f uq A outer s H E).q noE (JD st) mb) :
  DC P w K mg base (CXG P w) (k+1) f fd ps (spM K n (EK N.length mb)):=by
 obtain⟨oc,od,kV,doc,pm,an,uq,ct,vO,rfl,lk,vE⟩:=F.ex
 refine tM lk vE Sc (λvs H Q E h=>by rw[hn];exact h.len) λA outer s H vs Q E hr h=>?_
 obtain⟨ρ,ds,S,h1,h2,h3,h4⟩:=h;have hb:=vf uq A outer s H E hr;refine⟨gS K noE mb,λζ s' σ H' D I q=>Hr (hb ζ s' σ H' D (I.with _) q) (λfl s1 z=>?_) λe s1 z=>z.elim,ρ,_,S,Yg h2,h3,?_⟩
 ·cases fl with
  | next=>obtain⟨σ',H2,J,z⟩:=z;exact⟨σ',H2,J.without,z⟩
  | brk=>obtain⟨σ',H2,J,z⟩:=z;exact⟨σ',H2,J.without,z⟩
  | cont=>obtain⟨σ',H2,J,z⟩:=z;exact⟨σ',H2,J.without,z⟩
  | ret u=>obtain⟨v,σ',H2,J,r,z⟩:=z;exact⟨v,σ',H2,J.without,r,z⟩
 ·unfold EK at h4
  cases hr:mb (Ig N.length ds) S with
  | bad=>rw[hr]at h4;exact h4.elim
  | err c S'=>rw[hr]at h4;exact h4.elim
  | ok fl S'=>
   rw[hr]at h4
   cases fl with
   | nx e'=>exact λρ' H' σ' l s' r=>h4 ρ' H' .non l s' .non
   | rt d=>exact h4
   | bk e'=>exact h4.elim
   | ct e'=>exact h4.elim
   | ex c e'=>exact h4.elim
end
end L2
namespace M
open PySem L2
abbrev oN(e:L2.Lo)(S:L2.Sto):L2.Res L2.Fl:=.ok (.nx e) S
abbrev sR(n:Nat):Option L2.D:=some (.ref n)
abbrev sI(i:Int):Option L2.D:=some (.int i)
abbrev sF(l:ZLi):Option L2.D:=some (.fro (l.map L2.D.int))
theorem Mp(h:mb (Ig n ds) S=.ok (.rt d) S1):EK n mb ds S=.ok d S1:=by unfold EK;rw[h];rfl
theorem Yr(h:mb (Ig n ds) S=.ok (.nx e) S1):EK n mb ds S=.ok .non S1:=by unfold EK;rw[h];rfl
end M
namespace L4
open PySem L2
inductive Cel where
 | no | fz (o:Ob) | ow (i:Nat)
abbrev Fz:=Nat->Cel
inductive Sl where
 | u | v (d:D) | z (o:Ob) | y (o:Ob) | w (i:Nat) (o:Ob) | q (P:(Nat->Option Ob)->D->Prop)
def Sl.ok(S0:Sto)(F:Fz)(S:Sto):Sl->Option D->Prop
 | .u,_=>True
 | .v d,x=>x=some d
 | .z o,x=>∃n,x=some (.ref n)/\F n=.fz o
 | .y o,x=>∃n,x=some (.ref n)/\F n=.fz o/\S0.length<=n
 | .w i o,x=>∃n,x=some (.ref n)/\F n=.ow i/\S[n]?=some o
 | .q P,x=>∃d,x=some d/\∀L:Nat->Option Ob,(∀n o,F n=.fz o->L n=some o)->P L d
structure Vs(S0:Sto)(A:List Sl)(e:Lo)(F:Fz)(S:Sto):Prop where
 kp:Keeps S0 S
 fz:∀n o,F n=.fz o->S[n]?=some o
 ow:∀n i,F n=.ow i->S0.length<=n/\n < S.length
 hi:∀n,S.length<=n->F n=.no
 sl:∀(i:Nat) (a:Sl),A[i]?=some a->∃x,e[i]?=some x/\a.ok S0 F S x
def Fle(F F':Fz):Prop:=∀n o,F n=.fz o->F' n=.fz o
theorem Fle.refl(F:Fz):Fle F F:=λ_ _ h=>h
theorem Fle.trans(a:Fle F G)(b:Fle G H):Fle F H:=λn o h=>b n o (a n o h)
def QQ(F:Fz)(S S':Sto):Fz:=λn=>if n < S.length then F n else match S'[n]? with
 | some o=>.fz o
 | none=>.no
section
variable{S0 S S':Sto}{A B:List Sl}{e:Lo}{F:Fz}{α β γ ρ σ τ:Type}
theorem Fy(h:n < S.length):QQ F S S' n=F n:=qX h
theorem Sx(h:S.length<=n)(ho:S'[n]?=some o):QQ F S S' n=.fz o:=by
 unfold QQ;rw[qY (Ib.mpr h),ho]
theorem BW(h:S[n]?=some o):n < S.length:=(AE.mp h).1
theorem Sl.mono{S0:Sto}{F F':Fz}{S S':Sto}{a:Sl}{x:Option D}(h:a.ok S0 F S x)(h1:∀n o,F n=.fz o->F' n=.fz o)(h2:∀n i o,F n=.ow i->S[n]?=some o->F' n=.ow i/\S'[n]?=some o):a.ok S0 F' S' x:=by
 cases a with
 | u=>trivial
 | v d=>exact h
 | z o=>obtain⟨n,h3,h4⟩:=h;exact⟨n,h3,h1 _ _ h4⟩
 | y o=>obtain⟨n,h3,h4,h5⟩:=h;exact⟨n,h3,h1 _ _ h4,h5⟩
 | w i o=>obtain⟨n,h3,h4,h5⟩:=h;exact⟨n,h3,h2 _ _ _ h4 h5⟩
 | q P=>obtain⟨d,h3,h4⟩:=h;exact⟨d,h3,λL hL=>h4 L λn o q=>hL n o (h1 n o q)⟩
theorem Vs.fle(h:Vs S0 A e F S)(S':Sto):Fle F (QQ F S S'):=λn o q=>by rw[Fy (BW (h.fz n o q))];exact q
theorem Vs.grow(h:Vs S0 A e F S)(k:Keeps S S'):Vs S0 A e (QQ F S S') S':=by
 refine⟨h.kp.trans k,λn o q=>?_,λn i q=>?_,λn hn=>?_,λi a ha=>?_⟩
 ·unfold QQ at q
  split at q
  ·rename_i hn
   rw[k.2 n hn];exact h.fz n o q
  ·cases hs:S'[n]? with
   | none=>rw[hs]at q;cases q
   | some o'=>rw[hs]at q;cases q;rfl
 ·unfold QQ at q
  split at q
  ·exact⟨(h.ow n i q).1,AV (h.ow n i q).2 k.1⟩
  ·cases hs:S'[n]? with
   | none=>rw[hs]at q;cases q
   | some o'=>rw[hs]at q;cases q
 ·unfold QQ
  rw[qY (Ib.mpr (Aw k.1 hn)),CI hn]
 ·obtain⟨x,h1,h2⟩:=h.sl i a ha
  exact⟨x,h1,Sl.mono h2 (h.fle S') λn i o q1 q2=>⟨by rw[Fy (BW q2)];exact q1,by rw[k.2 n (BW q2)];exact q2⟩⟩
theorem Vs.cons(h:Vs S0 A e F S)(hx:a.ok S0 F S x):Vs S0 (a :: A) (x :: e) F S:=
 ⟨h.kp,h.fz,h.ow,h.hi,λi b hb=>by
  cases i with
  | zero=>cases hb;exact⟨x,rfl,hx⟩
  | succ i=>exact h.sl i b hb⟩
theorem Vs.set(h:Vs S0 A e F S)(i:Nat)(hx:a.ok S0 F S x):Vs S0 (A.set i a) (e.set i x) F S:=
 ⟨h.kp,h.fz,h.ow,h.hi,λj b hb=>by
  by_cases c:i=j
  ·subst c
   rw[DU]at hb;rw[qX rfl]at hb;split at hb
   ·rename_i hl
    cases hb;obtain⟨y,hy,_⟩:=h.sl i (A[i]) (AU hl);exact⟨x,by rw[DU];rw[qX rfl,qX (AE.mp hy).1],hx⟩
   ·cases hb
  ·rw[Ah c]at hb ⊢
   exact h.sl j b hb⟩
inductive Wk:List Sl->List Sl->Prop where
 | nil:Wk [] []
 | same {a:Sl} {A B:List Sl}:Wk A B->Wk (a :: A) (a :: B)
 | drop {a:Sl} {A B:List Sl}:Wk A B->Wk (a :: A) (.u :: B)
 | less {o:Ob} {A B:List Sl}:Wk A B->Wk (.y o :: A) (.z o :: B)
theorem Wk.at:∀{A B:List Sl},Wk A B->∀(i:Nat) (b:Sl),B[i]?=some b->∃a,A[i]?=some a/\(b=.u∨b=a∨∃o,a=.y o/\b=.z o)
 | _,_,.nil,i,b,h=>by simp at h
 | _,_,.same w,0,b,h=>by cases h;exact⟨_,rfl,.inr (.inl rfl)⟩
 | _,_,.less w,0,b,h=>by cases h;exact⟨_,rfl,.inr (.inr ⟨_,rfl,rfl⟩)⟩
 | _,_,.less w,i+1,b,h=>Wk.at w i b h
 | _,_,.drop w,0,b,h=>by cases h;exact⟨_,rfl,.inl rfl⟩
 | _,_,.same w,i+1,b,h=>Wk.at w i b h
 | _,_,.drop w,i+1,b,h=>Wk.at w i b h
theorem Wk.refl:∀A:List Sl,Wk A A
 | []=>.nil
 | _ :: A=>.same (Wk.refl A)
theorem Vs.weak(h:Vs S0 A e F S)(w:Wk A B):Vs S0 B e F S:=⟨h.kp,h.fz,h.ow,h.hi,λi b hb=>by
 obtain⟨a,h1,h2⟩:=w.at i b hb;obtain⟨x,h3,h4⟩:=h.sl i a h1
 rcases h2 with rfl | rfl | ⟨o,rfl,rfl⟩
 ·exact⟨x,h3,trivial⟩
 ·exact⟨x,h3,h4⟩
 ·obtain⟨n,h5,h6,_⟩:=h4
  exact⟨x,h3,n,h5,h6⟩⟩
def Sl.oth(i:Nat):Sl->Bool
 | .w k _=>!(Nat.beq k i)
 | _=>true
theorem eh(h:((A.set i .u).all (Sl.oth i))=true)(hj:j≠i)(ha:A[j]?=some (.w k o)):k≠i:=by
 have h1:(A.set i .u)[j]?=some (.w k o):=by rw[Ah (Ci hj)];exact ha
 have:=MD.mp h _ (BL h1);intro e;subst e;have h2:(!(Nat.beq k k))=true:=this;rw[Nat.beq_refl]at h2;cases h2
theorem Vs.put(h:Vs S0 A e F S)(ht:((A.set i .u).all (Sl.oth i))=true)(ha:A[i]?=some (.w i o))(hx:e[i]?=some (some (.ref n)))(hn:F n=.ow i):Vs S0 (A.set i (.w i o')) e F (S.set n o'):=by
 have hl:=h.ow n i hn;refine⟨h.kp.set hl.1 o',λk q hq=>?_,λk j q=>by rw[D5];exact h.ow k j q,λk hk=>h.hi k (by rw[D5]at hk;exact hk),λj b hb=>?_⟩
 ·have:n≠k:=λc=>by subst c;rw[hn]at hq;cases hq
  rw[Ah this];exact h.fz k q hq
 ·by_cases c:i=j
  ·subst c
   rw[DU]at hb;rw[qX rfl]at hb;split at hb
   ·cases hb
    exact⟨_,hx,n,rfl,hn,by rw[DU];rw[qX rfl,qX hl.2]⟩
   ·cases hb
  ·rw[Ah c]at hb
   obtain⟨x,h1,h2⟩:=h.sl j b hb;refine⟨x,h1,?_⟩
   cases b with
   | u=>trivial
   | v d=>exact h2
   | z q=>exact h2
   | y q=>exact h2
   | q P=>exact h2
   | w k q=>
    obtain⟨m,h3,h4,h5⟩:=h2;refine⟨m,h3,h4,?_⟩
    have:n≠m:=λz=>by
     subst z;rw[hn]at h4;cases h4;exact eh ht (λz=>c z.symm) hb rfl
    rw[Ah this];exact h5
theorem Vs.freeze(h:Vs S0 A e F S)(ht:((A.set i .u).all (Sl.oth i))=true)(ha:A[i]?=some (.w i o)):∃F',Vs S0 (A.set i (.y o)) e F' S/\Fle F F':=by
 obtain⟨x,hx,n,rfl,hn,ho⟩:=h.sl i _ ha
 have g:∀k,k≠n->(if k=n then Cel.fz o else F k)=F k:=λk hk=>qY hk
 have fl:Fle F (λk=>if k=n then Cel.fz o else F k):=λk q hq=>by
  have:k≠n:=λc=>by subst c;rw[hn]at hq;cases hq
  show(if k=n then Cel.fz o else F k)=_;rw[qY this];exact hq
 refine⟨λk=>if k=n then .fz o else F k,⟨h.kp,λk q hq=>?_,λk j q=>?_,λk hk=>?_,λj b hb=>?_⟩,fl⟩
 ·split at hq
  ·rename_i c;cases hq;subst c;exact ho
  ·exact h.fz k q hq
 ·split at q
  ·cases q
  ·exact h.ow k j q
 ·have:k≠n:=λc=>by subst c;exact zX (BW ho) (Ib.mpr hk)
  show(if k=n then Cel.fz o else F k)=_;rw[qY this];exact h.hi k hk
 ·by_cases c:i=j
  ·subst c
   rw[DU]at hb;rw[qX rfl]at hb;split at hb
   ·cases hb
    exact⟨_,hx,n,rfl,qX rfl,(h.ow n i hn).1⟩
   ·cases hb
  ·rw[Ah c]at hb
   obtain⟨x,h1,h2⟩:=h.sl j b hb;refine⟨x,h1,?_⟩
   cases b with
   | u=>trivial
   | v d=>exact h2
   | z q=>obtain⟨m,h3,h4⟩:=h2;exact⟨m,h3,fl _ _ h4⟩
   | y q=>obtain⟨m,h3,h4,h5⟩:=h2;exact⟨m,h3,fl _ _ h4,h5⟩
   | q P=>obtain⟨d,h3,h4⟩:=h2;exact⟨d,h3,λL hL=>h4 L λn o q=>hL n o (fl n o q)⟩
   | w k q=>
    obtain⟨m,h3,h4,h5⟩:=h2;refine⟨m,h3,?_,h5⟩
    have:m≠n:=λz=>by
     subst z;rw[hn]at h4;cases h4;exact eh ht (λz=>c z.symm) hb rfl
    show(if m=n then Cel.fz o else F m)=_;rw[qY this];exact h4
theorem Vs.own(h:Vs S0 A e F S)(k:Keeps S S'){i n:Nat}{o:Ob}(hn:S.length<=n)(ho:S'[n]?=some o):∃F',Vs S0 (A.set i (.w i o)) (e.set i (some (.ref n))) F' S'/\Fle F F':=by
 have g:=h.grow k;have hnl:=BW ho
 have fl:Fle F (λj=>if j=n then Cel.ow i else QQ F S S' j):=λj q hq=>by
  have:j≠n:=λc=>by subst c;exact zX (BW (h.fz _ _ hq)) (Ib.mpr hn)
  show(if j=n then Cel.ow i else _)=_;rw[qY this];exact h.fle S' _ _ hq
 refine⟨λj=>if j=n then .ow i else QQ F S S' j,(Vs.set (a:=.w i o) (x:=some (.ref n)) ⟨g.kp,λj q hq=>?_,λj q hq=>?_,λj hj=>?_,λj b hb=>?_⟩ i ⟨n,rfl,qX rfl,ho⟩),fl⟩
 ·split at hq
  ·cases hq
  ·exact g.fz j q hq
 ·split at hq
  ·rename_i c;subst c;exact⟨Aw h.kp.1 hn,hnl⟩
  ·exact g.ow j q hq
 ·have:j≠n:=λc=>by subst c;exact zX hnl (Ib.mpr hj)
  show(if j=n then Cel.ow i else _)=_;rw[qY this];exact g.hi j hj
 ·obtain⟨x,h1,h2⟩:=h.sl j b hb
  refine⟨x,h1,Sl.mono h2 fl λm j q q1 q2=>?_⟩;have hm:=BW q2
  have:m≠n:=λc=>by subst c;exact zX hm (Ib.mpr hn)
  refine⟨?_,by rw[k.2 m hm];exact q2⟩;show(if m=n then Cel.ow i else _)=_;rw[qY this,Fy hm];exact q1
abbrev Rk(α:Type):=α->Sto->D->Sto->Prop
def rV(enc:α->D):Rk α:=λv _ d _=>d=enc v
def rO(ob:α->Ob):Rk α:=λv _ d S=>∃n,d=.ref n/\S[n]?=some (ob v)
def rN(ob:α->Ob):Rk α:=λv S0 d S=>∃n,d=.ref n/\S0.length<=n/\S[n]?=some (ob v)
def VE(A:List Sl)(m:ME)(R:Rk α)(p:Option α):Prop:=∀v,p=some v->∀S0 e F S,Vs S0 A e F S->∃d S',m e S=.ok d S'/\Keeps S S'/\R v S d S'
def VB(A:List Sl)(t:MT)(p:Option Bool):Prop:=∀v,p=some v->∀S0 e F S,Vs S0 A e F S->∃S',t e S=.ok v S'/\Keeps S S'
def VL(A:List Sl)(ml:ML)(enc:α->D)(p:Option (List α)):Prop:=∀v,p=some v->∀S0 e F S,Vs S0 A e F S->∃S',ml e S=.ok (v.map enc) S'/\Keeps S S'
def VK(A:List Sl)(mi:MI)(enc:α->D)(p:Option (List α)):Prop:=∀v,p=some v->∀S0 e F S,Vs S0 A e F S->∃w S',mi e S=.ok w S'/\Keeps S S'/\∀vD,Keeps S' vD->w vD=some (v.map enc)
def VI(A:List Sl)(mi:MI)(enc:α->D)(p:Option (List α)):Prop:=∀v,p=some v->∀S0 e F S,Vs S0 A e F S->∃w S',mi e S=.ok w S'/\Keeps S S'/\∀yX vD,Fle (QQ F S S') yX->(∀n o,yX n=.fz o->vD[n]?=some o)->w vD=some (v.map enc)
theorem VI.k(h:VI A mi enc p):VK A mi enc p:=λv hv S0 e F S hs=>by
 obtain⟨w,S',h1,h2,h3⟩:=h v hv S0 e F S hs;have g:=hs.grow h2;exact⟨w,S',h1,h2,λvD k=>h3 _ vD (g.fle vD) (g.grow k).fz⟩
def eT(enc:α->D)(l:List α):D:=.tup (l.map enc)
def eP(a:α->D)(b:β->D)(x:α×β):D:=.tup [a x.1,b x.2]
def eP3(a:α->D)(b:β->D)(c:γ->D)(x:α×β×γ):D:=.tup [a x.1,b x.2.1,c x.2.2]
def eU(_:Unit):D:=.non
def eF(l:ZLi):D:=.fro (l.map D.int)
def oL(enc:α->D)(l:List α):Ob:=.lst (l.map enc)
theorem nC(h:VE A m R p)(i:∀v S d S',R v S d S'->R' v S d S'):VE A m R' p:=λv hv S0 e F S hs=>by
 obtain⟨d,S',h1,h2,h3⟩:=h v hv S0 e F S hs;exact⟨d,S',h1,h2,i _ _ _ _ h3⟩
theorem Fn(h:VE A m (rN ob) p):VE A m (rO ob) p:=nC h λv S d S' ⟨n,h1,_,h2⟩=>⟨n,h1,h2⟩
theorem AI(h:A[i]?=some (.v (enc v))):VE A (AD i) (rV enc) (some v):=λ_ hv S0 e F S hs=>by
 cases hv;obtain⟨x,h1,h2⟩:=hs.sl i _ h;cases h2;exact⟨_,S,by unfold AD;rw[h1],Keeps.refl S,rfl⟩
theorem DI(h:A[i]?=some (.z (ob v))):VE A (AD i) (rO ob) (some v):=λ_ hv S0 e F S hs=>by
 cases hv;obtain⟨x,h1,n,rfl,h2⟩:=hs.sl i _ h;exact⟨_,S,by unfold AD;rw[h1],Keeps.refl S,n,rfl,hs.fz _ _ h2⟩
theorem CU(h:A[i]?=some (.y (ob v))):VE A (AD i) (rO ob) (some v):=λ_ hv S0 e F S hs=>by
 cases hv;obtain⟨x,h1,n,rfl,h2,_⟩:=hs.sl i _ h;exact⟨_,S,by unfold AD;rw[h1],Keeps.refl S,n,rfl,hs.fz _ _ h2⟩
theorem HB(h:A[i]?=some (.w k (ob v))):VE A (AD i) (rO ob) (some v):=λ_ hv S0 e F S hs=>by
 cases hv;obtain⟨x,h1,n,rfl,h2,h3⟩:=hs.sl i _ h;exact⟨_,S,by unfold AD;rw[h1],Keeps.refl S,n,rfl,h3⟩
theorem CQ(h:d=enc v):VE A (mC d) (rV enc) (some v):=λ_ hv S0 e F S hs=>by
 cases hv;exact⟨d,S,rfl,Keeps.refl S,h⟩
theorem BC(h:p.bind q=some v):∃x,p=some x/\q x=some v:=Option.bind_eq_some_iff.mp h
theorem HC{f:D->D->Sto->Res D}{a b:ME}{ea:α->D}{eb:β->D}{ec:γ->D}{pa:Option α}{pb:Option β}{g:α->β->Option γ}(ha:VE A a (rV ea) pa)(hb:VE A b (rV eb) pb)
  (hf:∀x y z S,g x y=some z->f (ea x) (eb y) S=.ok (ec z) S):VE A (m2 f a b) (rV ec) (pa.bind λx=>pb.bind λy=>g x y):=λv hv S0 e F S hs=>by
 obtain⟨x,h1,hv⟩:=BC hv;obtain⟨y,h2,h3⟩:=BC hv;obtain⟨d1,S1,q1,k1,rfl⟩:=ha x h1 S0 e F S hs;obtain⟨d2,S2,q2,k2,rfl⟩:=hb y h2 S0 e _ S1 (hs.grow k1);exact⟨_,S2,Em q1 q2 (hf x y v S2 h3),k1.trans k2,rfl⟩
theorem Py{f:D->D->Sto->Res D}{a b:ME}{ea:α->D}{ob:β->Ob}{ec:γ->D}{pa:Option α}{pb:Option β}{g:α->β->Option γ}(ha:VE A a (rV ea) pa)(hb:VE A b (rO ob) pb)
  (hf:∀x y z S (n:Nat),S[n]?=some (ob y)->g x y=some z->f (ea x) (.ref n) S=.ok (ec z) S):VE A (m2 f a b) (rV ec) (pa.bind λx=>pb.bind λy=>g x y):=λv hv S0 e F S hs=>by
 obtain⟨x,h1,hv⟩:=BC hv;obtain⟨y,h2,h3⟩:=BC hv;obtain⟨d1,S1,q1,k1,rfl⟩:=ha x h1 S0 e F S hs;obtain⟨d2,S2,q2,k2,n,rfl,hn⟩:=hb y h2 S0 e _ S1 (hs.grow k1);exact⟨_,S2,Em q1 q2 (hf x y v S2 n hn h3),k1.trans k2,rfl⟩
theorem Rz{f:D->D->Sto->Res D}{a b:ME}{ob:α->Ob}{eb:β->D}{ec:γ->D}{pa:Option α}{pb:Option β}{g:α->β->Option γ}(ha:VE A a (rO ob) pa)(hb:VE A b (rV eb) pb)
  (hf:∀x y z S (n:Nat),S[n]?=some (ob x)->g x y=some z->f (.ref n) (eb y) S=.ok (ec z) S):VE A (m2 f a b) (rV ec) (pa.bind λx=>pb.bind λy=>g x y):=λv hv S0 e F S hs=>by
 obtain⟨x,h1,hv⟩:=BC hv;obtain⟨y,h2,h3⟩:=BC hv;obtain⟨d1,S1,q1,k1,n,rfl,hn⟩:=ha x h1 S0 e F S hs;obtain⟨d2,S2,q2,k2,rfl⟩:=hb y h2 S0 e _ S1 (hs.grow k1);exact⟨_,S2,Em q1 q2 (hf x y v S2 n (k2.at hn) h3),k1.trans k2,rfl⟩
theorem Gi(h:VE A m (rV D.bl) p):VB A (mB m) p:=λv hv S0 e F S hs=>by
 obtain⟨d,S',h1,h2,rfl⟩:=h v hv S0 e F S hs;exact⟨S',WS h1,h2⟩
theorem VY(h:VE A m (rV D.bl) p):VB A (Fx m) p:=λv hv S0 e F S hs=>by
 obtain⟨d,S',h1,h2,rfl⟩:=h v hv S0 e F S hs;refine⟨S',?_,h2⟩;unfold Fx;rw[h1];rfl
theorem GJ:VB A Gr (some true):=λv hv S0 e F S hs=>by cases hv;exact⟨S,rfl,Keeps.refl S⟩
theorem VZ(h:VB A t p):VB A (PF t) (p.bind λb=>some (!b)):=λv hv S0 e F S hs=>by
 obtain⟨x,h1,h2⟩:=BC hv;cases h2;obtain⟨S',h3,h4⟩:=h x h1 S0 e F S hs;exact⟨S',OO h3,h4⟩
theorem dY(h:VB A t p)(hu:VB A u q):VB A (RB t u) (p.bind λb=>if b=true then q else some false):=λv hv S0 e F S hs=>by
 obtain⟨x,h1,h2⟩:=BC hv;obtain⟨S1,h3,h4⟩:=h x h1 S0 e F S hs
 cases x with
 | true=>
  obtain⟨S2,h5,h6⟩:=hu v h2 S0 e _ S1 (hs.grow h4);exact⟨S2,(WO h3).trans h5,h4.trans h6⟩
 | false=>cases h2;exact⟨S1,am h3,h4⟩
theorem rC(h:VB A t p)(hu:VB A u q):VB A (mOr t u) (p.bind λb=>if b=true then some true else q):=λv hv S0 e F S hs=>by
 obtain⟨x,h1,h2⟩:=BC hv;obtain⟨S1,h3,h4⟩:=h x h1 S0 e F S hs
 cases x with
 | false=>
  obtain⟨S2,h5,h6⟩:=hu v h2 S0 e _ S1 (hs.grow h4);exact⟨S2,(eu h3).trans h5,h4.trans h6⟩
 | true=>cases h2;exact⟨S1,oS h3,h4⟩
theorem YT(ht:VB A t pt)(ha:VE A a R pa)(hb:VE A b R pb)(hR:∀v S S1 d S',S.length<=S1.length->R v S1 d S'->R v S d S'):VE A (Xi t a b) R (pt.bind λc=>if c=true then pa else pb):=λv hv S0 e F S hs=>by
 obtain⟨x,h1,h2⟩:=BC hv;obtain⟨S1,h3,h4⟩:=ht x h1 S0 e F S hs
 cases x with
 | true=>
  obtain⟨d,S2,h5,h6,h7⟩:=ha v h2 S0 e _ S1 (hs.grow h4);exact⟨d,S2,(ft h3).trans h5,h4.trans h6,hR _ _ _ _ _ h4.1 h7⟩
 | false=>
  obtain⟨d,S2,h5,h6,h7⟩:=hb v h2 S0 e _ S1 (hs.grow h4);exact⟨d,S2,(ft h3).trans h5,h4.trans h6,hR _ _ _ _ _ h4.1 h7⟩
theorem GX:∀(v:α) (S S1:Sto) (d:D) (S':Sto),S.length<=S1.length->rV enc v S1 d S'->rV enc v S d S':=λ_ _ _ _ _ _ h=>h
theorem Gm:∀(v:α) (S S1:Sto) (d:D) (S':Sto),S.length<=S1.length->rN ob v S1 d S'->rN ob v S d S':=λ_ _ _ _ _ l ⟨n,h1,h2,h3⟩=>⟨n,h1,Aw l h2,h3⟩
inductive Fw(ρ σ:Type) where
 | rt (r:ρ) | nx (s:σ) | bk (s:σ) | ct (s:σ)
def VG(S0:Sto)(F:Fz)(S':Sto)(R:Rk ρ)(B:σ->List Sl)(g:Fl):Fw ρ σ->Prop
 | .nx s=>∃e' F',g=.nx e'/\Vs S0 (B s) e' F' S'/\Fle F F'
 | .ct s=>∃e' F',g=.ct e'/\Vs S0 (B s) e' F' S'/\Fle F F'
 | .bk s=>∃e' F',g=.bk e'/\Vs S0 (B s) e' F' S'/\Fle F F'
 | .rt r=>∃d,g=.rt d/\R r S0 d S'/\Keeps S0 S'
def VS(A:List Sl)(b:MS)(R:Rk ρ)(p:Option (Fw ρ σ))(B:σ->List Sl):Prop:=∀f,p=some f->∀S0 e F S,Vs S0 A e F S->∃g S',b e S=.ok g S'/\VG S0 F S' R B g f
def BF(p:Option (Fw ρ σ))(q:σ->Option (Fw ρ τ)):Option (Fw ρ τ):=match p with
 | some (.nx s)=>q s
 | some (.rt r)=>some (.rt r)
 | _=>none
theorem VG.up{S0:Sto}{F F1:Fz}{S':Sto}{R:Rk ρ}{B:σ->List Sl}{g:Fl}{f:Fw ρ σ}(l:Fle F F1)(h:VG S0 F1 S' R B g f):VG S0 F S' R B g f:=by
 cases f with
 | rt r=>exact h
 | nx s=>obtain⟨e',F',h1,h2,h3⟩:=h;exact⟨e',F',h1,h2,l.trans h3⟩
 | bk s=>obtain⟨e',F',h1,h2,h3⟩:=h;exact⟨e',F',h1,h2,l.trans h3⟩
 | ct s=>obtain⟨e',F',h1,h2,h3⟩:=h;exact⟨e',F',h1,h2,l.trans h3⟩
theorem BA{a b:MS}{R:Rk ρ}{p:Option (Fw ρ σ)}{q:σ->Option (Fw ρ τ)}{B:σ->List Sl}{C:τ->List Sl}(ha:VS A a R p B)(hb:∀s,VS (B s) b R (q s) C):VS A (BJ a b) R (BF p q) C:=λf hf S0 e F S hs=>by
 cases p with
 | none=>cases hf
 | some w=>
  obtain⟨g,S1,h1,h2⟩:=ha _ rfl S0 e F S hs
  cases w with
  | nx s=>
   obtain⟨e1,F1,rfl,h2,h3⟩:=h2;obtain⟨g2,S2,h4,h5⟩:=hb s f hf S0 e1 F1 S1 h2;exact⟨g2,S2,(CS h1).trans h4,h5.up h3⟩
  | rt r=>
   cases hf;obtain⟨d,rfl,h2,h3⟩:=h2;exact⟨_,S1,Vf h1,d,rfl,h2,h3⟩
  | bk s=>cases hf
  | ct s=>cases hf
theorem GV{R:Rk ρ}{B:σ->List Sl}{s:σ}(w:Wk A (B s)):VS A sNx R (some (.nx s)) B:=λf hf S0 e F S hs=>by
 cases hf;exact⟨_,S,rfl,e,F,rfl,hs.weak w,Fle.refl F⟩
def Dx(g:σ->τ)(p:Option (Fw ρ σ)):Option (Fw ρ τ):=match p with
 | some (.nx s)=>some (.nx (g s))
 | some (.rt r)=>some (.rt r)
 | some (.bk s)=>some (.bk (g s))
 | some (.ct s)=>some (.ct (g s))
 | none=>none
theorem Cp{b:MS}{R:Rk ρ}{p:Option (Fw ρ σ)}{g:σ->τ}{B:σ->List Sl}{C:τ->List Sl}(h:VS A b R p B)(w:∀s,Wk (B s) (C (g s))):VS A b R (Dx g p) C:=λf hf S0 e F S hs=>by
 cases p with
 | none=>cases hf
 | some x=>
  obtain⟨g,S1,h1,h2⟩:=h _ rfl S0 e F S hs
  cases x with
  | nx s=>cases hf;obtain⟨e1,F1,rfl,h2,h3⟩:=h2;exact⟨_,S1,h1,e1,F1,rfl,h2.weak (w s),h3⟩
  | rt r=>cases hf;exact⟨_,S1,h1,h2⟩
  | bk s=>cases hf;obtain⟨e1,F1,rfl,h2,h3⟩:=h2;exact⟨_,S1,h1,e1,F1,rfl,h2.weak (w s),h3⟩
  | ct s=>cases hf;obtain⟨e1,F1,rfl,h2,h3⟩:=h2;exact⟨_,S1,h1,e1,F1,rfl,h2.weak (w s),h3⟩
theorem D8(h:VE A m (rV enc) p):VS A (CT i m) R (p.bind λv=>some (.nx v)) (λv=>A.set i (.v (enc v))):=λf hf S0 e F S hs=>by
 obtain⟨v,h1,h2⟩:=BC hf;cases h2;obtain⟨d,S',h3,h4,rfl⟩:=h v h1 S0 e F S hs;exact⟨_,S',Mi h3,_,_,rfl,(hs.grow h4).set i rfl,hs.fle S'⟩
theorem EO(h:VE A m (rN ob) p):VS A (CT i m) R (p.bind λv=>some (.nx v)) (λv=>A.set i (.y (ob v))):=λf hf S0 e F S hs=>by
 obtain⟨v,h1,h2⟩:=BC hf;cases h2;obtain⟨d,S',h3,h4,n,rfl,h5,h6⟩:=h v h1 S0 e F S hs;exact⟨_,S',Mi h3,_,_,rfl,(hs.grow h4).set (a:=.y (ob v)) i ⟨n,rfl,Sx h5 h6,Aw hs.kp.1 h5⟩,hs.fle S'⟩
theorem Gu(h:VE A m (rN ob) p):VS A (CT i m) R (p.bind λv=>some (.nx v)) (λv=>A.set i (.w i (ob v))):=λf hf S0 e F S hs=>by
 obtain⟨v,h1,h2⟩:=BC hf;cases h2;obtain⟨d,S',h3,h4,n,rfl,h5,h6⟩:=h v h1 S0 e F S hs;obtain⟨F',h7,h8⟩:=hs.own h4 (i:=i) h5 h6;exact⟨_,S',Mi h3,_,F',rfl,h7,h8⟩
theorem Pu(h:A[j]?=some (.y o)):VS A (CT i (AD j)) R (some (.nx ())) (λ_:Unit=>A.set i (.y o)):=λf hf S0 e F S hs=>by
 cases hf;obtain⟨x,h1,n,rfl,h2,h3⟩:=hs.sl j _ h;exact⟨_,S,Mi (d:=.ref n) (by unfold AD;rw[h1]),_,F,rfl,hs.set (a:=.y o) i ⟨n,rfl,h2,h3⟩,Fle.refl F⟩
theorem YO{b:MS}{R:Rk ρ}{p:Option (Fw ρ σ)}{B:σ->List Sl}{o:Ob}(i:Nat)(ha:A[i]?=some (.w i o))(ht:((A.set i .u).all (Sl.oth i))=true)(h:VS (A.set i (.y o)) b R p B):VS A b R p B:=λf hf S0 e F S hs=>by
 obtain⟨F',h1,h2⟩:=hs.freeze ht ha;obtain⟨g,S',h3,h4⟩:=h f hf S0 e F' S h1;exact⟨g,S',h3,h4.up h2⟩
theorem E8{m:ME}{enc:ρ->D}{p:Option ρ}{B:σ->List Sl}(h:VE A m (rV enc) p):VS A (DL m) (rV enc) (p.bind λv=>some (.rt v)) B:=λf hf S0 e F S hs=>by
 obtain⟨v,h1,h2⟩:=BC hf;cases h2;obtain⟨d,S',h3,h4,rfl⟩:=h v h1 S0 e F S hs;exact⟨_,S',Mr h3,_,rfl,rfl,hs.kp.trans h4⟩
theorem Ej{m:ME}{ob:ρ->Ob}{p:Option ρ}{B:σ->List Sl}(h:VE A m (rN ob) p):VS A (DL m) (rN ob) (p.bind λv=>some (.rt v)) B:=λf hf S0 e F S hs=>by
 obtain⟨v,h1,h2⟩:=BC hf;cases h2;obtain⟨d,S',h3,h4,n,rfl,h5,h6⟩:=h v h1 S0 e F S hs;exact⟨_,S',Mr h3,_,rfl,⟨n,rfl,Aw hs.kp.1 h5,h6⟩,hs.kp.trans h4⟩
theorem RM{i:Nat}{ob:ρ->Ob}{v:ρ}{B:σ->List Sl}{k:Nat}(h:A[i]?=some (.w k (ob v))):VS A (DL (AD i)) (rN ob) (some (.rt v)) B:=λf hf S0 e F S hs=>by
 cases hf;obtain⟨x,h1,n,rfl,h2,h3⟩:=hs.sl i _ h;exact⟨_,S,Mr (d:=.ref n) (by unfold AD;rw[h1]),_,rfl,⟨n,rfl,(hs.ow _ _ h2).1,h3⟩,hs.kp⟩
theorem Zj{i:Nat}{ob:ρ->Ob}{v:ρ}{B:σ->List Sl}(h:A[i]?=some (.y (ob v))):VS A (DL (AD i)) (rN ob) (some (.rt v)) B:=λf hf S0 e F S hs=>by
 cases hf;obtain⟨x,h1,n,rfl,h2,h3⟩:=hs.sl i _ h;exact⟨_,S,Mr (d:=.ref n) (by unfold AD;rw[h1]),_,rfl,⟨n,rfl,h3,hs.fz _ _ h2⟩,hs.kp⟩
theorem Fj{t:MT}{a b:MS}{R:Rk ρ}{pt:Option Bool}{p q:Option (Fw ρ σ)}{B:σ->List Sl}(ht:VB A t pt)(ha:VS A a R p B)(hb:VS A b R q B):VS A (sIf t a b) R (pt.bind λc=>if c=true then p else q) B:=λf hf S0 e F S hs=>by
 obtain⟨c,h1,h2⟩:=BC hf;obtain⟨S1,h3,h4⟩:=ht c h1 S0 e F S hs
 cases c with
 | true=>
  obtain⟨g,S2,h5,h6⟩:=ha f h2 S0 e _ S1 (hs.grow h4);exact⟨g,S2,(Hq h3).trans h5,h6.up (hs.fle S1)⟩
 | false=>
  obtain⟨g,S2,h5,h6⟩:=hb f h2 S0 e _ S1 (hs.grow h4);exact⟨g,S2,(Hq h3).trans h5,h6.up (hs.fle S1)⟩
def WM(l:List α)(x:α):Option (List α):=if l.length < 1000000 then some (l++[x])else none
def NE(l k:List α):Option (List α):=if l.length+k.length<=1000000 then some (l++k)else none
theorem Y6(h:n < 1000000):n < sizeLine:=AV h (by decide)
theorem fX(h:n<=1000000):n<=sizeLine:=Aw h (by decide)
theorem VP(hi:A[i]?=some (.w i (oL enc l)))(h:VE A m (rV enc) p)(ht:((A.set i .u).all (Sl.oth i))=true) :
  VS A (IU (RA (AD i) m)) R (p.bind λv=>(WM l v).bind λl'=>some (.nx l')) (λl'=>A.set i (.w i (oL enc l'))):=λf hf S0 e F S hs=>by
 obtain⟨v,h1,h2⟩:=BC hf;obtain⟨l',h2,h0⟩:=BC h2;cases h0;unfold WM at h2;split at h2
 ·rename_i hl
  cases h2;obtain⟨x,g1,n,rfl,g2,g3⟩:=hs.sl i _ hi;obtain⟨d,S',h3,h4,rfl⟩:=h v h1 S0 e F S hs;have hg:=hs.grow h4;have hx:=ZS (mo:=AD i) (e:=e) (S:=S) (S1:=S) (n:=n) (by unfold AD;rw[g1]) g3 h3 (h4.at g3) (by rw[AF];exact Y6 hl);rw[show l.map enc++[enc v]=(l++[v]).map enc by simp]at hx;exact⟨_,_,Pa hx,e,_,rfl,hg.put ht hi g1 (by rw[Fy (BW g3)];exact g2),hs.fle S'⟩
 ·cases h2
theorem dB(hi:A[i]?=some (.w i (oL enc l)))(h:VE A m (rN (oL enc)) p)(ht:((A.set i .u).all (Sl.oth i))=true) :
  VS A (IU (Nb (AD i) m)) R (p.bind λv=>(NE l v).bind λl'=>some (.nx l')) (λl'=>A.set i (.w i (oL enc l'))):=λf hf S0 e F S hs=>by
 obtain⟨v,h1,h2⟩:=BC hf;obtain⟨l',h2,h0⟩:=BC h2;cases h0;unfold NE at h2;split at h2
 ·rename_i hl
  cases h2;obtain⟨x,g1,n,rfl,g2,g3⟩:=hs.sl i _ hi;obtain⟨d,S',h3,h4,k,rfl,h5,h6⟩:=h v h1 S0 e F S hs;have hg:=hs.grow h4;have hx:=cN (mo:=AD i) (e:=e) (S:=S) (S1:=S) (n:=n) (by unfold AD;rw[g1]) g3 h3 (h4.at g3) h6 (λc=>by subst c;exact zX (BW g3) (Ib.mpr h5)) (by rw[AF,AF];exact fX hl);rw[<-Ca]at hx;exact⟨_,_,Pa hx,e,_,rfl,hg.put ht hi g1 (by rw[Fy (BW g3)];exact g2),hs.fle S'⟩
 ·cases h2
theorem iu(h:VE A m Rm p):VS A (IU m) R (p.bind λ_=>some (.nx ())) (λ_:Unit=>A):=λf hf S0 e F S hs=>by
 obtain⟨v,h1,h2⟩:=BC hf;cases h2;obtain⟨d,S',h3,h4,_⟩:=h v h1 S0 e F S hs;exact⟨_,S',Pa h3,e,_,rfl,hs.grow h4,hs.fle S'⟩
theorem Pt(hi:A[i]?=some (.v (D.int x)))(h:VE A m (rV D.int) p):VS A (SM i g m) R (p.bind λy=>some (.nx (g x y))) (λz=>A.set i (.v (D.int z))):=λf hf S0 e F S hs=>by
 obtain⟨v,h1,h2⟩:=BC hf;cases h2;obtain⟨d,S',h3,h4,rfl⟩:=h v h1 S0 e F S hs;obtain⟨y,g1,g2⟩:=hs.sl i _ hi;cases g2;refine⟨_,S',?_,_,_,rfl,(hs.grow h4).set (a:=.v (D.int (g x v))) i rfl,hs.fle S'⟩;unfold SM;rw[g1];dsimp only;rw[h3];rfl
def VT(g:MG)(enc:α->D)(t:α->List Sl->List Sl):Prop:=∀x S0 A e F S,Vs S0 A e F S->∃e',g (enc x) e S=.ok e' S/\Vs S0 (t x A) e' F S
theorem Dg:VT (tgN i) enc (λx A=>A.set i (.v (enc x))):=λx S0 A e F S hs=>⟨_,rfl,hs.set (a:=.v (enc x)) i rfl⟩
theorem iq:VT (Io 2 (DE (tgN i) (DE (tgN j) JO))) (eP a b) (λx A=>(A.set i (.v (a x.1))).set j (.v (b x.2))):=λx S0 A e F S hs=>⟨_,rfl,(hs.set (a:=.v (a x.1)) i rfl).set (a:=.v (b x.2)) j rfl⟩
theorem dA:VT (Io 3 (DE (tgN i) (DE (tgN j) (DE (tgN k) JO)))) (eP3 a b c) (λx A=>((A.set i (.v (a x.1))).set j (.v (b x.2.1))).set k (.v (c x.2.2))):=λx S0 A e F S hs=>⟨_,rfl,((hs.set (a:=.v (a x.1)) i rfl).set (a:=.v (b x.2.1)) j rfl).set (a:=.v (c x.2.2)) k rfl⟩
def Er:List α->σ->(σ->α->Option (Fw ρ σ))->Option (Fw ρ σ)
 | [],s,_=>some (.nx s)
 | x :: l,s,q=>match q s x with
  | some (.nx s')=>Er l s' q
  | some (.ct s')=>Er l s' q
  | some (.bk s')=>some (.nx s')
  | some (.rt r)=>some (.rt r)
  | none=>none
theorem ir{enc:α->D}{g:MG}{t:α->List Sl->List Sl}{b:MS}{R:Rk ρ}{q:σ->α->Option (Fw ρ σ)}{B:σ->List Sl}(hg:VT g enc t)(hb:∀s x,VS (t x (B s)) b R (q s x) B){w:QX}{S0:Sto}{F1:Fz}{full:List α}
  (hw:∀yX vD,Fle F1 yX->(∀n o,yX n=.fz o->vD[n]?=some o)->w vD=some (full.map enc)):∀(l:List α) (k:Nat),full.drop k=l->∀(s:σ) (f:Fw ρ σ),Er l s q=some f->∀e F S,Vs S0 (B s) e F S->Fle F1 F->∃h S',MN w g b (l.length) k e S=.ok h S'/\VG S0 F1 S' R B h f:=by
 intro l
 induction l with
 | nil=>
  intro k hk s f hf e F S hs hF;cases hf
  have:full.length<=k:=by
   have:=congrArg Il hk;rw[IY,Me]at this
   lia
  refine⟨_,S,?_,e,F,rfl,hs,hF⟩;unfold MN;rw[hw F S hF hs.fz];dsimp only;rw[CI (by rw[AF];exact this)]
 | cons x l ih=>
  intro k hk s f hf e F S hs hF
  have hx:full[k]?=some x:=by
   have:=congrArg (λz=>z[0]?) hk;rw[Jv]at this;simpa using this
  have uY:full.drop (k+1)=l:=by
   have e1:full.drop (k+1)=(full.drop k).drop 1:=by rw[UI]
   exact e1.trans (congrArg (List.drop 1) hk)
  obtain⟨e1,g1,g2⟩:=hg x S0 _ e F S hs
  have run:∀h S',b e1 S=.ok h S'->MN w g b ((x :: l).length) k e S=(match h with
    | .nx e2=>MN w g b l.length (k+1) e2 S'
    | .ct e2=>MN w g b l.length (k+1) e2 S'
    | .bk e2=>.ok (.nx e2) S'
    | .rt d=>.ok (.rt d) S'
    | .ex c e2=>.ok (.ex c e2) S'):=λh S' uf=>by
   show MN w g b (l.length+1) k e S=_
   conv=>lhs;unfold MN
   rw[hw F S hF hs.fz];dsimp only;rw[Ak,hx];dsimp only[qW];rw[g1];dsimp only[Res.bind];rw[uf]
   all_goals (cases h <;> rfl)
  unfold Er at hf;split at hf
  ·rename_i s' hq
   obtain⟨h,S1,h1,e2,F2,rfl,h2,h3⟩:=hb s x _ hq S0 e1 F S g2;rw[run _ _ h1];exact ih (k+1) uY s' f hf e2 F2 S1 h2 (hF.trans h3)
  ·rename_i s' hq
   obtain⟨h,S1,h1,e2,F2,rfl,h2,h3⟩:=hb s x _ hq S0 e1 F S g2;rw[run _ _ h1];exact ih (k+1) uY s' f hf e2 F2 S1 h2 (hF.trans h3)
  ·rename_i s' hq
   cases hf;obtain⟨h,S1,h1,e2,F2,rfl,h2,h3⟩:=hb s x _ hq S0 e1 F S g2;rw[run _ _ h1];exact⟨_,S1,rfl,e2,F2,rfl,h2,hF.trans h3⟩
  ·rename_i r hq
   cases hf;obtain⟨h,S1,h1,d,rfl,h2,h3⟩:=hb s x _ hq S0 e1 F S g2;rw[run _ _ h1];exact⟨_,S1,rfl,d,rfl,h2,h3⟩
  ·cases hf
theorem EJ{enc:α->D}{mi:MI}{g:MG}{t:α->List Sl->List Sl}{b:MS}{R:Rk ρ}{p:Option (List α)}{q:σ->α->Option (Fw ρ σ)}{B:σ->List Sl}{s0:σ}(hi:VI A mi enc p)(hg:VT g enc t)(w0:Wk A (B s0))(hb:∀s x,VS (t x (B s)) b R (q s x) B) :
  VS A (FF mi g b) R (p.bind λl=>Er l s0 q) B:=λf hf S0 e F S hs=>by
 obtain⟨l,h1,h2⟩:=BC hf;obtain⟨w,S1,h3,h4,h5⟩:=hi l h1 S0 e F S hs;have zM:=hs.grow h4
 have hl:EQ w S1=l.length:=by unfold EQ;rw[h5 _ S1 (Fle.refl _) zM.fz];exact AF _
 obtain⟨h,S2,h6,h7⟩:=ir hg hb h5 l 0 rfl s0 f h2 e _ S1 (zM.weak w0) (Fle.refl _);refine⟨h,S2,?_,h7.up (hs.fle S1)⟩;rw[KR h3,hl];exact h6
def S9(c:α->Option Bool)(m:α->Option β):List α->Option (List β)
 | []=>some []
 | x :: l=>(c x).bind λb=>if b=true then(m x).bind λy=>(S9 c m l).bind λys=>some (y :: ys)else S9 c m l
def D3(l:List α)(c:α->Option Bool)(m:α->Option β):Option (List β):=if l.length<=1000000 then S9 c m l else none
theorem dD{enc:α->D}{eb:β->D}{g:MG}{P:List (Option D)->Prop}{T:α->List Sl}{c:MT}{m:ME}{pc:α->Option Bool}{pm:α->Option β}
  (hg:∀x S0 e F S pre,P pre->Vs S0 A e F S->∃uR,g (enc x) (pre++e) S=.ok (uR++e) S/\P uR/\Vs S0 (T x) (uR++e) F S)
  (hc:∀x,VB (T x) c (pc x)) (hm:∀x,VE (T x) m (rV eb) (pm x)) {w:QX} {S0:Sto} {e:Lo} {full:List α} {S1:Sto} (hf:full.length<=1000000) (hw:∀vD,Keeps S1 vD->w vD=some (full.map enc)) :
  ∀(l:List α) (k:Nat),full.drop k=l->∀(r:List β),S9 pc pm l=some r->∀pre F S acc,P pre->Vs S0 A e F S->Keeps S1 S->acc.length<=k->∃S',G5 w g c m l.length k (pre++e) S acc=.ok (acc++r.map eb) S'/\Keeps S S':=by
 intro l
 induction l with
 | nil=>
  intro k hk r hr pre F S acc hp hs yY ha;cases hr
  have:full.length<=k:=by
   have:=congrArg Il hk;rw[IY,Me]at this
   lia
  refine⟨S,?_,Keeps.refl S⟩;unfold G5;rw[hw S yY];dsimp only;rw[CI (by rw[AF];exact this),QZ,CB]
 | cons x l ih=>
  intro k hk r hr pre F S acc hp hs yY ha
  have hx:full[k]?=some x:=by
   have:=congrArg (λz=>z[0]?) hk;rw[Jv]at this;simpa using this
  have uY:full.drop (k+1)=l:=by
   have e1:full.drop (k+1)=(full.drop k).drop 1:=by rw[UI]
   exact e1.trans (congrArg (List.drop 1) hk)
  have w5:k < full.length:=(AE.mp hx).1;obtain⟨uR,g1,g2,g3⟩:=hg x S0 e F S pre hp hs;unfold S9 at hr;obtain⟨b,h1,h2⟩:=BC hr;obtain⟨S2,h3,h4⟩:=hc x b h1 S0 _ F S g3;have uS:=hs.grow h4
  show ∃S',G5 w g c m (l.length+1) k (pre++e) S acc=_/\_
  conv=>arg 1;ext S';arg 1;lhs;unfold G5
  rw[hw S yY];dsimp only;rw[Ak,hx];dsimp only[qW];rw[qX (Ax ha (Y6 (AV w5 hf))),g1];dsimp only[okR,Res.bind];rw[h3];dsimp only[okR,Res.bind]
  cases b with
  | true=>
   rw[qX rfl]at h2 ⊢;obtain⟨y,h5,h6⟩:=BC h2;obtain⟨ys,h6',h7⟩:=BC h6;cases h7;obtain⟨d,S3,h8,h9,rfl⟩:=hm x y h5 S0 _ _ S2 (g3.grow h4);rw[h8];obtain⟨S4,q1,q2⟩:=ih (k+1) uY ys h6' uR _ S3 (acc++[eb y]) g2 (uS.grow h9) (yY.trans (h4.trans h9)) (by rw[AX,Au];lia);refine⟨S4,?_,(h4.trans h9).trans q2⟩;show G5 w g c m l.length (k+1) (uR++e) S3 (acc++[eb y])=_;rw[q1,Bu];rfl
  | false=>
   rw[qY AK]at h2 ⊢;obtain⟨S4,q1,q2⟩:=ih (k+1) uY r h2 uR _ S2 acc g2 uS (yY.trans h4) (by lia);exact⟨S4,q1,h4.trans q2⟩
theorem i0{enc:α->D}{eb:β->D}{n:Nat}{mi:MI}{g:MG}{P:List (Option D)->Prop}{T:α->List Sl}{c:MT}{m:ME}{p:Option (List α)}{pc:α->Option Bool}{pm:α->Option β}(hi:VK A mi enc p)(h0:P (Bw n none))
  (hg:∀x S0 e F S pre,P pre->Vs S0 A e F S->∃uR,g (enc x) (pre++e) S=.ok (uR++e) S/\P uR/\Vs S0 (T x) (uR++e) F S)
  (hc:∀x,VB (T x) c (pc x)) (hm:∀x,VE (T x) m (rV eb) (pm x)):VL A (Dt n mi g c m) eb (p.bind λl=>D3 l pc pm):=λr hr S0 e F S hs=>by
 obtain⟨l,h1,h2⟩:=BC hr;obtain⟨w,S1,h3,h4,h5⟩:=hi l h1 S0 e F S hs;unfold D3 at h2;split at h2
 ·rename_i hl
  have wk:=hs.grow h4;obtain⟨S2,h6,h7⟩:=dD hg hc hm hl h5 l 0 rfl r h2 _ _ S1 [] h0 wk (Keeps.refl _) (AL _);refine⟨S2,?_,h4.trans h7⟩;rw[WF h3,show EQ w S1=l.length by unfold EQ;rw[h5 S1 (Keeps.refl _)];exact AF _];exact h6
 ·cases h2
theorem Ck{enc:α->D}{eb:β->D}{mi:MI}{c:MT}{m:ME}{p:Option (List α)}{pc:α->Option Bool}{pm:α->Option β}(hi:VK A mi enc p)(hc:∀x,VB (.v (enc x) :: A) c (pc x))(hm:∀x,VE (.v (enc x) :: A) m (rV eb) (pm x)) :
  VL A (Dt 1 mi (tgN 0) c m) eb (p.bind λl=>D3 l pc pm):=
 i0 (P:=λpre=>∃z,pre=[z]) hi ⟨none,rfl⟩ (λx S0 e F S pre hp hs=>by
  obtain⟨z,rfl⟩:=hp
  exact⟨[some (enc x)],rfl,⟨_,rfl⟩,hs.cons (a:=.v (enc x)) rfl⟩) hc hm
theorem CD(h:VL A ml enc p):VE A (Db ml) (rN (oL enc)) p:=λv hv S0 e F S hs=>by
 obtain⟨S',h1,h2⟩:=h v hv S0 e F S hs;exact⟨_,_,Yz h1,h2.trans (Keeps.app _ _),_,rfl,h2.1,Ed _ _⟩
inductive Ar where
 | v (d:D) | z (o:Ob) | q (P:(Nat->Option Ob)->D->Prop)
def Ar.ok(S:Sto):Ar->D->Prop
 | .v d,x=>x=d
 | .z o,x=>∃n,x=.ref n/\S[n]?=some o
 | .q P,x=>∀L:Nat->Option Ob,(∀n o,S[n]?=some o->L n=some o)->P L x
def Ar.sl:Ar->Sl
 | .v d=>.v d
 | .z o=>.z o
 | .q P=>.q P
def MJ(S:Sto):List Ar->List D->Prop
 | [],[]=>True
 | a :: as,d :: ds=>a.ok S d/\MJ S as ds
 | _,_=>False
theorem MJ.len:∀{as:List Ar} {ds:List D},MJ S as ds->ds.length=as.length
 | [],[],_=>rfl
 | _ :: as,_ :: ds,h=>by rw[BB,BB,MJ.len h.2]
 | [],_ :: _,h=>h.elim
 | _ :: _,[],h=>h.elim
theorem MJ.at:∀{as:List Ar} {ds:List D},MJ S as ds->∀(i:Nat) (a:Ar),as[i]?=some a->∃d,ds[i]?=some d/\a.ok S d
 | [],[],_,i,a,h=>by simp at h
 | b :: as,d :: ds,h,0,a,q=>by cases q;exact⟨d,rfl,h.1⟩
 | b :: as,d :: ds,h,i+1,a,q=>MJ.at h.2 i a q
 | [],_ :: _,h,_,_,_=>h.elim
 | _ :: _,[],h,_,_,_=>h.elim
def VF(f:List D->Sto->Res D)(as:List Ar)(R:Rk α)(p:Option α):Prop:=∀v,p=some v->∀S ds,MJ S as ds->∃d S',f ds S=.ok d S'/\Keeps S S'/\R v S d S'
def VA(A:List Sl)(ml:ML)(p:Option γ)(ar:γ->List Ar):Prop:=∀v,p=some v->∀S0 e F S,Vs S0 A e F S->∃ds S',ml e S=.ok ds S'/\Keeps S S'/\MJ S' (ar v) ds
theorem CF:VA A BI (some ()) (λ_=>[]):=λv hv S0 e F S hs=>⟨[],S,rfl,Keeps.refl S,trivial⟩
theorem Cu(h:VE A m (rV enc) p)(hl:VA A ml q ar):VA A (AM m ml) (p.bind λx=>q.bind λy=>some (x,y)) (λz=>.v (enc z.1) :: ar z.2):=λv hv S0 e F S hs=>by
 obtain⟨x,h1,h2⟩:=BC hv;obtain⟨y,xO,h3⟩:=BC h2;cases h3;obtain⟨d,S1,h4,h5,rfl⟩:=h x h1 S0 e F S hs;obtain⟨ds,S2,h6,h7,h8⟩:=hl y xO S0 e _ S1 (hs.grow h5);exact⟨_,S2,C0 h4 h6,h5.trans h7,rfl,h8⟩
theorem Kq(h:VE A m (rO ob) p)(hl:VA A ml q ar):VA A (AM m ml) (p.bind λx=>q.bind λy=>some (x,y)) (λz=>.z (ob z.1) :: ar z.2):=λv hv S0 e F S hs=>by
 obtain⟨x,h1,h2⟩:=BC hv;obtain⟨y,xO,h3⟩:=BC h2;cases h3;obtain⟨d,S1,h4,h5,n,rfl,h0⟩:=h x h1 S0 e F S hs;obtain⟨ds,S2,h6,h7,h8⟩:=hl y xO S0 e _ S1 (hs.grow h5);exact⟨_,S2,C0 h4 h6,h5.trans h7,⟨n,rfl,h7.at h0⟩,h8⟩
theorem B9(ha:VA A ml p ar)(hf:∀z,VF f (ar z) R (q z))(hn:∀z,(ar z).length=n)(hR:∀v S S1 d S',S.length<=S1.length->R v S1 d S'->R v S d S'):VE A (CP n f ml) R (p.bind q):=λv hv S0 e F S hs=>by
 obtain⟨z,h1,h2⟩:=BC hv;obtain⟨ds,S1,h3,h4,h5⟩:=ha z h1 S0 e F S hs;obtain⟨d,S2,h6,h7,h8⟩:=hf z v h2 S1 ds h5;exact⟨d,S2,(Lu h3 (h5.len.trans (hn z))).trans h6,h4.trans h7,hR _ _ _ _ _ h4.1 h8⟩
def K0(S:Sto):Fz:=λn=>match S[n]? with
 | some o=>.fz o
 | none=>.no
theorem Vs.start(h:MJ S as ds):Vs S (as.map Ar.sl++Bw (n - as.length) .u) (Ig n ds) (K0 S) S:=by
 refine⟨Keeps.refl S,λn o q=>?_,λn i q=>?_,λn hn=>by unfold K0;rw[CI hn],λi a ha=>?_⟩
 ·unfold K0 at q
  split at q
  ·rename_i o' ho;cases q;exact ho
  ·cases q
 ·unfold K0 at q
  split at q <;> cases q
 ·unfold Ig
  by_cases c:i < as.length
  ·rw[Av (by rw[AF];exact c),Ak]at ha
   rw[Av (by rw[AF,h.len];exact c),Ak]
   cases hq:as[i]? with
   | none=>rw[hq]at ha;cases ha
   | some b=>
    rw[hq]at ha;cases ha;obtain⟨d,h1,h2⟩:=h.at i b hq;refine⟨some d,by rw[h1];rfl,?_⟩
    cases b with
    | v x=>exact congrArg some h2
    | z o=>obtain⟨m,h3,h4⟩:=h2;exact⟨m,congrArg some h3,by unfold K0;rw[h4]⟩
    | q P=>exact⟨d,rfl,λL hL=>h2 L λn o q=>hL n o (by unfold K0;rw[q])⟩
  ·rw[Bn (by rw[AF];lia)]at ha
   rw[AF,Dz]at ha;split at ha
   ·rename_i uw
    cases ha;refine⟨none,?_,trivial⟩;rw[Bn (by rw[AF,h.len];lia),AF,h.len,Dz,qX uw]
   ·cases ha
def GM(p:Option (Fw ρ σ)):Option ρ:=match p with
 | some (.rt r)=>some r
 | _=>none
def j9(p:Option (Fw Unit σ)):Option Unit:=match p with
 | some (.rt r)=>some ()
 | some (.nx _)=>some ()
 | _=>none
end
section
variable{S0 S S':Sto}{A:List Sl}{α β γ δ:Type}
section
variable{a b c:ME}{pa pb pc:Option Int}
theorem GZ(ha:VE A a (rV D.int) pa)(hb:VE A b (rV D.int) pb):VE A (m2 GB a b) (rV D.int) (pa.bind λx=>pb.bind λy=>some (x+y)):=HC ha hb λx y z S h=>by cases h;rfl
theorem JN(ha:VE A a (rV D.int) pa)(hb:VE A b (rV D.int) pb):VE A (m2 P2 a b) (rV D.int) (pa.bind λx=>pb.bind λy=>some (x - y)):=HC ha hb λx y z S h=>by cases h;rfl
def fM(x y:Int):Option Int:=if cb x y then some (x * y)else none
def gZ(x y:Int):Option Int:=if hZ x y then some (x / y)else none
def QG(x y:Int):Option Int:=if 0 < y then some (x % y)else none
theorem dJ(ha:VE A a (rV D.int) pa)(hb:VE A b (rV D.int) pb):VE A (m2 kJ a b) (rV D.int) (pa.bind λx=>pb.bind λy=>fM x y):=HC ha hb λx y z S h=>by
 unfold fM at h;split at h
 ·rename_i hc;cases h;exact qX hc
 ·cases h
theorem jB(ha:VE A a (rV D.int) pa)(hb:VE A b (rV D.int) pb):VE A (m2 PY a b) (rV D.int) (pa.bind λx=>pb.bind λy=>gZ x y):=HC ha hb λx y z S h=>by
 unfold gZ at h;split at h
 ·rename_i hc;cases h;exact qX hc
 ·cases h
theorem OD(ha:VE A a (rV D.int) pa)(hb:VE A b (rV D.int) pb):VE A (m2 Nn a b) (rV D.int) (pa.bind λx=>pb.bind λy=>QG x y):=HC ha hb λx y z S h=>by
 unfold QG at h;split at h
 ·rename_i hc;cases h;exact Z3 hc
 ·cases h
theorem Oo(hk:(decide (0 < k)&&decide (k<=1000000))=true)(ha:VE A a (rV D.int) pa):VE A (m2 PY a (mC (.int k))) (rV D.int) (pa.bind λx=>some (x / k)):=λv hv S0 e F S hs=>by
 obtain⟨x,h1,h2⟩:=BC hv;cases h2;obtain⟨d,S',h3,h4,rfl⟩:=ha x h1 S0 e F S hs;have uY:=DJ _ _▸hk;exact⟨_,S',Em h3 rfl (ga (of_decide_eq_true uY.1) (of_decide_eq_true uY.2)),h4,rfl⟩
theorem Om(hk:decide (0 < k)=true)(ha:VE A a (rV D.int) pa):VE A (m2 Nn a (mC (.int k))) (rV D.int) (pa.bind λx=>some (x % k)):=λv hv S0 e F S hs=>by
 obtain⟨x,h1,h2⟩:=BC hv;cases h2;obtain⟨d,S',h3,h4,rfl⟩:=ha x h1 S0 e F S hs;exact⟨_,S',Em h3 rfl (Z3 (of_decide_eq_true hk)),h4,rfl⟩
theorem VR(ha:VE A a (rV D.int) pa):VE A (Y4 a) (rV D.int) (pa.bind λx=>some (-x)):=λv hv S0 e F S hs=>by
 obtain⟨x,h1,h2⟩:=BC hv;cases h2;obtain⟨d,S',h3,h4,rfl⟩:=ha x h1 S0 e F S hs;exact⟨_,S',by unfold Y4;rw[h3];rfl,h4,rfl⟩
theorem lg(ha:VE A a (rV D.int) pa)(hb:VE A b (rV D.int) pb):VE A (m2 ltD a b) (rV D.bl) (pa.bind λx=>pb.bind λy=>some (decide (x < y))):=HC ha hb λx y z S h=>by cases h;rfl
theorem rA(ha:VE A a (rV D.int) pa)(hb:VE A b (rV D.int) pb):VE A (m2 gtD a b) (rV D.bl) (pa.bind λx=>pb.bind λy=>some (decide (y < x))):=HC ha hb λx y z S h=>by cases h;rfl
theorem rB(ha:VE A a (rV D.int) pa)(hb:VE A b (rV D.int) pb):VE A (m2 geD a b) (rV D.bl) (pa.bind λx=>pb.bind λy=>some (decide (y<=x))):=HC ha hb λx y z S h=>by cases h;rfl
theorem Wy{f g:D->D->Sto->Res D}{P Q:Int->Int->Bool}(hf:∀x y S,f (.int x) (.int y) S=.ok (.bl (P x y)) S)(hg:∀x y S,g (.int x) (.int y) S=.ok (.bl (Q x y)) S)(ha:VE A a (rV D.int) pa)(hb:VE A b (rV D.int) pb)(hc:VE A c (rV D.int) pc) :
  VE A (m3 f g a b c) (rV D.bl) (pa.bind λx=>pb.bind λy=>if P x y=true then pc.bind λz=>some (Q y z)else some false):=λv hv S0 e F S hs=>by
 obtain⟨x,h1,hv⟩:=BC hv;obtain⟨y,h2,h3⟩:=BC hv;obtain⟨d1,S1,q1,k1,rfl⟩:=ha x h1 S0 e F S hs;obtain⟨d2,S2,q2,k2,rfl⟩:=hb y h2 S0 e _ S1 (hs.grow k1);have e1:=hf x y S2
 cases hp:P x y with
 | false=>
  rw[hp]at h3 e1;cases h3;exact⟨_,S2,sd q1 q2 e1,k1.trans k2,rfl⟩
 | true=>
  rw[hp]at h3 e1;rw[qX rfl]at h3;obtain⟨w,h4,h5⟩:=BC h3;cases h5;obtain⟨d3,S3,q3,k3,rfl⟩:=hc w h4 S0 e _ S2 ((hs.grow k1).grow k2);exact⟨_,S3,l8 q1 q2 e1 q3 (hg y w S3),(k1.trans k2).trans k3,rfl⟩
theorem tS(x y:Int)(S:Sto):ltD (.int x) (.int y) S=.ok (.bl (decide (x < y))) S:=rfl
theorem gw(x y:Int)(S:Sto):leD (.int x) (.int y) S=.ok (.bl (decide (x<=y))) S:=rfl
theorem VU(ha:VE A a (rV D.int) pa)(hb:VE A b (rV D.int) pb):VE A (mQ N4 (AM a (AM b BI))) (rV D.int) (pa.bind λx=>pb.bind λy=>some (if y < x then y else x)):=λv hv S0 e F S hs=>by
 obtain⟨x,h1,hv⟩:=BC hv;obtain⟨y,h2,h3⟩:=BC hv;cases h3;obtain⟨d1,S1,q1,k1,rfl⟩:=ha x h1 S0 e F S hs;obtain⟨d2,S2,q2,k2,rfl⟩:=hb y h2 S0 e _ S1 (hs.grow k1);exact⟨_,S2,jh (C0 q1 (C0 q2 rfl)) rfl,k1.trans k2,rfl⟩
theorem i9(ha:VE A a (rV D.int) pa)(hb:VE A b (rV D.int) pb):VE A (mQ Qk (AM a (AM b BI))) (rV D.int) (pa.bind λx=>pb.bind λy=>some (if y > x then y else x)):=λv hv S0 e F S hs=>by
 obtain⟨x,h1,hv⟩:=BC hv;obtain⟨y,h2,h3⟩:=BC hv;cases h3;obtain⟨d1,S1,q1,k1,rfl⟩:=ha x h1 S0 e F S hs;obtain⟨d2,S2,q2,k2,rfl⟩:=hb y h2 S0 e _ S1 (hs.grow k1);exact⟨_,S2,jh (C0 q1 (C0 q2 rfl)) rfl,k1.trans k2,rfl⟩
theorem dN{pb}(hb:VE A b (rV D.bl) pb):VE A (fR b) (rV D.int) (pb.bind λx=>some (if x=true then 1 else 0)):=λv hv S0 e F S hs=>by
 obtain⟨x,h1,h2⟩:=BC hv;cases h2;obtain⟨d,S',h3,h4,rfl⟩:=hb x h1 S0 e F S hs;refine⟨_,S',?_,h4,rfl⟩;unfold fR;rw[h3];rfl
theorem mz{pa pb}(ha:VE A a (rV D.bl) pa)(hb:VE A b (rV D.bl) pb):VE A (fQ a b) (rV D.bl) (pa.bind λx=>if x=true then some true else pb):=λv hv S0 e F S hs=>by
 obtain⟨x,h1,h2⟩:=BC hv;obtain⟨d,S',h3,h4,rfl⟩:=ha x h1 S0 e F S hs
 cases x with
 | false=>
  obtain⟨d,S2,h5,h6,rfl⟩:=hb v h2 S0 e _ S' (hs.grow h4);exact⟨_,S2,by unfold fQ;rw[h3];exact h5,h4.trans h6,rfl⟩
 | true=>cases h2;exact⟨_,S',by unfold fQ;rw[h3];rfl,h4,rfl⟩
theorem i8{pa}(ha:VE A a (rV D.bl) pa):VE A (Z6 a) (rV D.bl) (pa.bind λx=>some (!x)):=λv hv S0 e F S hs=>by
 obtain⟨x,h1,h2⟩:=BC hv;cases h2;obtain⟨d,S',h3,h4,rfl⟩:=ha x h1 S0 e F S hs;exact⟨_,S',by unfold Z6;rw[h3];rfl,h4,rfl⟩
end
def EqN(n:Nat)(enc:α->D)[DecidableEq α]:Prop:=∀x y,eqP n (enc x) (enc y)=some (decide (x=y))
def NL(enc:α->D):Prop:=∀x S,No (enc x) S=none
theorem Dh:EqN n D.int:=λx y=>by
 have:NG (.int x) (.int y)=some (decide (x=y)):=rfl
 cases n <;> exact this
theorem aV:EqN n D.str:=λx y=>by
 have:NG (.str x) (.str y)=some (decide (x=y)):=rfl
 cases n <;> exact this
theorem Re{n:Nat}{enc:α->D}[DecidableEq α](h:EqN n enc):EqN (n+1) (eT enc):=by
 have key:∀l k:List α,eqL (eqP n) (l.map enc) (k.map enc)=some (decide (l=k)):=by
  intro l
  induction l with
  | nil=>intro k;cases k <;> rfl
  | cons x l ih=>
   intro k
   cases k with
   | nil=>rfl
   | cons y k=>
    rw[BG,BG];unfold eqL;rw[h x y,ih k]
    by_cases c:x=y <;> by_cases d:l=k <;> simp[c,d]
 exact λl k=>key l k
theorem Mx:NL D.int:=λ_ _=>rfl
theorem fH:NL D.str:=λ_ _=>rfl
theorem oo:NL (eT enc):=λ_ _=>rfl
section
variable{a b:ME}{enc:α->D}[DecidableEq α]
theorem gd(h:EqN 8 enc)(n:NL enc)(neg:Bool)(x y:α)(S:Sto):eqD neg (enc x) (enc y) S=.ok (.bl (if neg then !decide (x=y)else decide (x=y))) S:=by
 unfold eqD eqB;rw[n x S,n y S];dsimp only;rw[h x y]
theorem Nx(h:EqN 8 enc)(n:NL enc)(ha:VE A a (rV enc) pa)(hb:VE A b (rV enc) pb):VE A (m2 (eqD false) a b) (rV D.bl) (pa.bind λx=>pb.bind λy=>some (decide (x=y))):=HC ha hb λx y z S q=>by cases q;exact gd h n false x y S
theorem q9(h:EqN 8 enc)(n:NL enc)(ha:VE A a (rV enc) pa)(hb:VE A b (rV enc) pb):VE A (m2 (eqD true) a b) (rV D.bl) (pa.bind λx=>pb.bind λy=>some (!decide (x=y))):=HC ha hb λx y z S q=>by cases q;exact gd h n true x y S
theorem X0(h:EqN 8 enc)(x:α):∀l:List α,N7 (enc x) (l.map enc)=some (decide (x∈l))
 | []=>by simp[N7]
 | y :: l=>by
  rw[BG];unfold N7;rw[h y x,X0 h x l]
  by_cases c:y=x
  ·subst c;simp
  ·have:¬x=y:=λz=>c z.symm
   simp[c,this]
theorem Sn(h:EqN 8 enc)(neg:Bool)(x:α){l:List α}{d:D}{S:Sto}(hs:Ga d S=some (l.map enc)):inA neg (enc x) d S=.ok (.bl (if neg then !decide (x∈l)else decide (x∈l))) S:=by
 show JZ (inD neg (enc x) d S) _=_
 have e:inD neg (enc x) d S=.ok (.bl (if neg then !decide (x∈l)else decide (x∈l))) S:=by
  unfold inD;rw[hs];dsimp only;rw[X0 h]
 rw[e];rfl
theorem m9{pl:Option (List α)}(h:EqN 8 enc)(ha:VE A a (rV enc) pa)(hb:VE A b (rV (eT enc)) pl):VE A (m2 (inA false) a b) (rV D.bl) (pa.bind λx=>pl.bind λl=>some (decide (x∈l))):=HC ha hb λx l z S q=>by cases q;exact Sn h false x rfl
theorem RO{pl:Option (List α)}(h:EqN 8 enc)(ha:VE A a (rV enc) pa)(hb:VE A b (rV (eT enc)) pl):VE A (m2 (inA true) a b) (rV D.bl) (pa.bind λx=>pl.bind λl=>some (!decide (x∈l))):=HC ha hb λx l z S q=>by cases q;exact Sn h true x rfl
theorem nB{pl:Option (List α)}(h:EqN 8 enc)(ha:VE A a (rV enc) pa)(hb:VE A b (rO (oL enc)) pl):VE A (m2 (inA false) a b) (rV D.bl) (pa.bind λx=>pl.bind λl=>some (decide (x∈l))):=Py ha hb λx l z S n hn q=>by cases q;exact Sn h false x (Gk hn)
theorem nA(h:EqN 8 enc){pl:Option (α×α)}(ha:VE A a (rV enc) pa)(hb:VE A b (rV (eP enc enc)) pl):VE A (m2 (inA false) a b) (rV D.bl) (pa.bind λx=>pl.bind λl=>some (decide (x∈[l.1,l.2]))):=HC ha hb λx l z S q=>by cases q;exact Sn h false x (l:=[l.1,l.2]) rfl
theorem px(h:EqN n enc):∀l k:List α,eqL (eqP n) (l.map enc) (k.map enc)=some (decide (l=k)):=by
 intro l
 induction l with
 | nil=>intro k;cases k <;> rfl
 | cons x l ih=>
  intro k
  cases k with
  | nil=>rfl
  | cons y k=>
   rw[BG,BG];unfold eqL;rw[h x y,ih k]
   by_cases c:x=y <;> by_cases d:l=k <;> simp[c,d]
theorem Uh(h:EqN 8 enc)(neg:Bool)(hn:S[n]?=some (oL enc l))(hm:S[m]?=some (oL enc k)):eqD neg (.ref n) (.ref m) S=.ok (.bl (if neg then !decide (l=k)else decide (l=k))) S:=by
 unfold eqD eqB;rw[M3 hn,M3 hm];dsimp only;rw[AF,AF]
 by_cases c:l.length=k.length
 ·rw[qX c,px h]
 ·rw[qY c,wY λz=>c (by rw[z])]
theorem lh{f:D->D->Sto->Res D}{oa:β->Ob}{ob:γ->Ob}{ec:δ->D}{pa:Option β}{pb:Option γ}{g:β->γ->Option δ}(ha:VE A a (rO oa) pa)(hb:VE A b (rO ob) pb)
  (hf:∀x y z S (n m:Nat),S[n]?=some (oa x)->S[m]?=some (ob y)->g x y=some z->f (.ref n) (.ref m) S=.ok (ec z) S):VE A (m2 f a b) (rV ec) (pa.bind λx=>pb.bind λy=>g x y):=λv hv S0 e F S hs=>by
 obtain⟨x,h1,hv⟩:=BC hv;obtain⟨y,h2,h3⟩:=BC hv;obtain⟨d1,S1,q1,k1,n,rfl,hn⟩:=ha x h1 S0 e F S hs;obtain⟨d2,S2,q2,k2,m,rfl,hm⟩:=hb y h2 S0 e _ S1 (hs.grow k1);exact⟨_,S2,Em q1 q2 (hf x y v S2 n m (k2.at hn) hm h3),k1.trans k2,rfl⟩
theorem dO{pa pb:Option (List α)}(h:EqN 8 enc)(ha:VE A a (rO (oL enc)) pa)(hb:VE A b (rO (oL enc)) pb):VE A (m2 (eqD false) a b) (rV D.bl) (pa.bind λx=>pb.bind λy=>some (decide (x=y))):=lh ha hb λx y z S n m hn hm q=>by cases q;exact Uh h false hn hm
theorem dI{pa pb:Option (List α)}(h:EqN 8 enc)(ha:VE A a (rO (oL enc)) pa)(hb:VE A b (rO (oL enc)) pb):VE A (m2 (eqD true) a b) (rV D.bl) (pa.bind λx=>pb.bind λy=>some (!decide (x=y))):=lh ha hb λx y z S n m hn hm q=>by cases q;exact Uh h true hn hm
end
section
variable{a b m mo:ME}
theorem lN(l:List α)(i:Int)(f:α->β):atI (l.map f) i=(atI l i).map f:=by
 unfold atI;rw[AF]
 cases ixN l.length i with
 | none=>rfl
 | some j=>show(l.map f)[j]?=(l[j]?).map f;rw[Ak]
theorem ZB(hs:Ga d S=some (l.map enc))(h:atI l i=some x):ixA d (.int i) S=.ok (enc x) S:=by
 show JZ (ixD d (.int i) S) _=_
 have:ixD d (.int i) S=.ok (enc x) S:=by
  unfold ixD;rw[hs];dsimp only;rw[lN,h];rfl
 rw[this];rfl
theorem VW(ha:VE A a (rV (eT enc)) pl)(hb:VE A b (rV D.int) pi):VE A (m2 ixA a b) (rV enc) (pl.bind λl=>pi.bind λi=>atI l i):=HC ha hb λl i z S q=>ZB rfl q
theorem dM{pl}(ha:VE A a (rV eF) pl)(hb:VE A b (rV D.int) pi):VE A (m2 ixA a b) (rV D.int) (pl.bind λl=>pi.bind λi=>atI l i):=HC ha hb λl i z S q=>ZB rfl q
theorem E9(ha:VE A a (rO (oL enc)) pl)(hb:VE A b (rV D.int) pi):VE A (m2 ixA a b) (rV enc) (pl.bind λl=>pi.bind λi=>atI l i):=Rz ha hb λl i z S n hn q=>ZB (Gk hn) q
theorem VX(ha:VE A a (rV (eP a' b')) p):VE A (m2 ixA a (mC (.int 0))) (rV a') (p.bind λx=>some x.1):=λv hv S0 e F S hs=>by
 obtain⟨x,h1,h2⟩:=BC hv;cases h2;obtain⟨d,S',h3,h4,rfl⟩:=ha x h1 S0 e F S hs;exact⟨_,S',Em h3 rfl (aH (ds:=[a' x.1,b' x.2]) rfl (by decide) rfl),h4,rfl⟩
theorem dG(ha:VE A a (rV (eP a' b')) p):VE A (m2 ixA a (mC (.int 1))) (rV b') (p.bind λx=>some x.2):=λv hv S0 e F S hs=>by
 obtain⟨x,h1,h2⟩:=BC hv;cases h2;obtain⟨d,S',h3,h4,rfl⟩:=ha x h1 S0 e F S hs;exact⟨_,S',Em h3 rfl (aH (ds:=[a' x.1,b' x.2]) rfl (by decide) rfl),h4,rfl⟩
theorem jA(ha:VE A a (rV (eT enc)) pl):VE A (KO a) (rV D.int) (pl.bind λl=>some (l.length:Int)):=λv hv S0 e F S hs=>by
 obtain⟨l,h1,h2⟩:=BC hv;cases h2;obtain⟨d,S',h3,h4,rfl⟩:=ha l h1 S0 e F S hs;exact⟨_,S',(Y8 (ds:=l.map enc) h3 rfl).trans (by rw[AF]),h4,rfl⟩
theorem VV{pl}(ha:VE A a (rV eF) pl):VE A (KO a) (rV D.int) (pl.bind λl=>some (l.length:Int)):=λv hv S0 e F S hs=>by
 obtain⟨l,h1,h2⟩:=BC hv;cases h2;obtain⟨d,S',h3,h4,rfl⟩:=ha l h1 S0 e F S hs;exact⟨_,S',(Y8 (ds:=l.map D.int) h3 rfl).trans (by rw[AF]),h4,rfl⟩
theorem Is(ha:VE A a (rO (oL enc)) pl):VE A (KO a) (rV D.int) (pl.bind λl=>some (l.length:Int)):=λv hv S0 e F S hs=>by
 obtain⟨l,h1,h2⟩:=BC hv;cases h2;obtain⟨d,S',h3,h4,n,rfl,hn⟩:=ha l h1 S0 e F S hs;exact⟨_,S',(Y8 (ds:=l.map enc) h3 (Gk hn)).trans (by rw[AF]),h4,rfl⟩
theorem Jd:∀ns:ZLi,Je (ns.map D.int)=some ns
 | []=>rfl
 | x :: ns=>by rw[BG];unfold Je;rw[Jd ns];rfl
theorem JI(ha:VE A a (rO (oL enc)) pl):VE A (Gz a) (rV (eT enc)) pl:=λl hv S0 e F S hs=>by
 obtain⟨d,S',h3,h4,n,rfl,hn⟩:=ha l hv S0 e F S hs;exact⟨_,S',Ov h3 (Gk hn),h4,rfl⟩
theorem iy(ha:VE A a (rO (oL enc)) pl):VL A (Xh a) enc pl:=λl hv S0 e F S hs=>by
 obtain⟨d,S',h3,h4,n,rfl,hn⟩:=ha l hv S0 e F S hs;exact⟨S',rZ h3 (Gk hn),h4⟩
theorem iz(h:VL A ml enc pl):VL A (mN aD ml) enc pl:=λl hv S0 e F S hs=>by
 obtain⟨S',h3,h4⟩:=h l hv S0 e F S hs;exact⟨S',by unfold mN;rw[h3];rfl,h4⟩
theorem DV:VL A BI enc (some []):=λv hv S0 e F S hs=>by cases hv;exact⟨S,rfl,Keeps.refl S⟩
theorem Ek(h:VE A m (rV enc) p)(hl:VL A ml enc pl):VL A (AM m ml) enc (p.bind λx=>pl.bind λl=>some (x :: l)):=λv hv S0 e F S hs=>by
 obtain⟨x,h1,h2⟩:=BC hv;obtain⟨l,xO,h3⟩:=BC h2;cases h3;obtain⟨d,S1,h4,h5,rfl⟩:=h x h1 S0 e F S hs;obtain⟨S2,h6,h7⟩:=hl l xO S0 e _ S1 (hs.grow h5);exact⟨S2,C0 h4 h6,h5.trans h7⟩
def FP(l:List α):Option (List α):=if l.length<=1000000 then some l else none
theorem DN(h:VL A ml enc pl):VL A (Dy ml) enc (pl.bind FP):=λv hv S0 e F S hs=>by
 obtain⟨l,h1,h2⟩:=BC hv;unfold FP at h2;split at h2
 ·rename_i hl
  cases h2;obtain⟨S',h3,h4⟩:=h _ h1 S0 e F S hs;refine⟨S',?_,h4⟩;unfold Dy;rw[h3];dsimp only[Res.bind];rw[qX (by rw[AF];exact fX hl)]
 ·cases h2
theorem LJ(h:VL A ml enc pl):VE A (Hi ml) (rV (eT enc)) (pl.bind FP):=λv hv S0 e F S hs=>by
 obtain⟨l,h1,h2⟩:=BC hv;unfold FP at h2;split at h2
 ·rename_i hl
  cases h2;obtain⟨S',h3,h4⟩:=h _ h1 S0 e F S hs;refine⟨_,S',?_,h4,rfl⟩;unfold Hi;rw[h3];dsimp only[Res.bind];rw[qX (by rw[AF];exact fX hl)];rfl
 ·cases h2
theorem Jz(ha:VE A a (rV a') pa)(hb:VE A b (rV b') pb):VE A (Hi (AM a (AM b BI))) (rV (eP a' b')) (pa.bind λx=>pb.bind λy=>some (x,y)):=λv hv S0 e F S hs=>by
 obtain⟨x,h1,hv⟩:=BC hv;obtain⟨y,h2,h3⟩:=BC hv;cases h3;obtain⟨d1,S1,q1,k1,rfl⟩:=ha x h1 S0 e F S hs;obtain⟨d2,S2,q2,k2,rfl⟩:=hb y h2 S0 e _ S1 (hs.grow k1);exact⟨_,S2,Yc (ds:=[a' x,b' y]) (C0 q1 (C0 q2 rfl)) (by simp),k1.trans k2,rfl⟩
theorem NV(ha:VE A a (rV (eT enc)) pl)(hb:VE A b (rV (eT enc)) pk):VE A (m2 GB a b) (rV (eT enc)) (pl.bind λl=>pk.bind λk=>NE l k):=HC ha hb λl k z S q=>by
 unfold NE at q;split at q
 ·rename_i hl
  cases q;unfold eT;rw[Ca];exact jJ (by rw[AF,AF];exact fX hl)
 ·cases q
theorem Zn(ha:VE A a (rO (oL enc)) pl)(hb:VE A b (rO (oL enc)) pk):VE A (m2 GB a b) (rN (oL enc)) (pl.bind λl=>pk.bind λk=>NE l k):=λv hv S0 e F S hs=>by
 obtain⟨x,h1,hv⟩:=BC hv;obtain⟨y,h2,h3⟩:=BC hv;obtain⟨d1,S1,q1,k1,n,rfl,hn⟩:=ha x h1 S0 e F S hs;obtain⟨d2,S2,q2,k2,m,rfl,hm⟩:=hb y h2 S0 e _ S1 (hs.grow k1);unfold NE at h3;split at h3
 ·rename_i hl
  cases h3;refine⟨_,_,Em q1 q2 (d:=.ref S2.length) (S3:=S2++[oL enc (x++y)]) ?_,(k1.trans k2).trans (Keeps.app _ _),_,rfl,(k1.trans k2).1,Ed _ _⟩;unfold GB;dsimp only;rw[k2.at hn,hm];unfold oL;dsimp only;rw[qX (by rw[AF,AF];exact fX hl),Ca]
 ·cases h3
def VO(A:List Sl)(mo:MO)(p:Option (Option Int)):Prop:=∀v,p=some v->∀S0 e F S,Vs S0 A e F S->∃S',mo e S=.ok v S'/\Keeps S S'
theorem VQ:VO A XZ (some none):=λv hv S0 e F S hs=>by cases hv;exact⟨S,rfl,Keeps.refl S⟩
theorem RN(h:VE A m (rV D.int) pi):VO A (Sa m) (pi.bind λi=>some (some i)):=λv hv S0 e F S hs=>by
 obtain⟨x,h1,h2⟩:=BC hv;cases h2;obtain⟨d,S',h3,h4,rfl⟩:=h x h1 S0 e F S hs;exact⟨S',by unfold Sa;rw[h3];rfl,h4⟩
theorem gl(l:List α)(f:α->β)(lo hi:Option Int):Nr (l.map f) lo hi=(Nr l lo hi).map f:=by
 unfold Nr;rw[AF,<-List.map_drop,<-mU]
theorem Zm(ha:VE A a (rV (eT enc)) pl)(hl:VO A mlo po)(hh:VO A mhi ph):VE A (PD a mlo mhi) (rV (eT enc)) (pl.bind λl=>po.bind λx=>ph.bind λy=>some (Nr l x y)):=λv hv S0 e F S hs=>by
 obtain⟨l,h1,hv⟩:=BC hv;obtain⟨x,h2,hv⟩:=BC hv;obtain⟨y,h3,h4⟩:=BC hv;cases h4;obtain⟨d1,S1,q1,k1,rfl⟩:=ha l h1 S0 e F S hs;obtain⟨S2,q2,k2⟩:=hl x h2 S0 e _ S1 (hs.grow k1);obtain⟨S3,q3,k3⟩:=hh y h3 S0 e _ S2 ((hs.grow k1).grow k2);refine⟨_,S3,?_,(k1.trans k2).trans k3,rfl⟩;unfold PD;rw[q1];dsimp only[Res.bind];rw[q2];dsimp only;rw[q3];show Res.ok (D.tup (Nr (l.map enc) x y)) S3=_;rw[gl];rfl
theorem dF{pl}(ha:VE A a (rO (oL D.int)) pl):VE A (Ds a) (rN (oL D.int)) (pl.bind λl=>some (B2 l)):=λv hv S0 e F S hs=>by
 obtain⟨l,h1,h2⟩:=BC hv;cases h2;obtain⟨d,S',h3,h4,n,rfl,hn⟩:=ha l h1 S0 e F S hs;refine⟨_,_,JK h3 (OP hn) (es:=(B2 l).map D.int) ?_,h4.trans (Keeps.app _ _),_,rfl,h4.1,Ed _ _⟩;unfold Kr;rw[Jd]
def SE(l:List ZLi):Option (List ZLi):=if l.all (λr=>!r.isEmpty)=true then some (J1 l)else none
theorem XM:∀rs:List ZLi,rs.all (λr=>!r.isEmpty)=true->N1 (rs.map Nl)=some rs
 | [],_=>rfl
 | [] :: rs,h=>by simp at h
 | (x :: r) :: rs,h=>by
  rw[mV,DJ]at h;show N1 (.tup ((x :: r).map D.int) :: rs.map Nl)=_;unfold N1;rw[Jd,XM rs h.2]
theorem Wu{pl}(ha:VE A a (rO (oL (eT D.int))) pl):VE A (Ds a) (rN (oL (eT D.int))) (pl.bind SE):=λv hv S0 e F S hs=>by
 obtain⟨l,h1,h2⟩:=BC hv;obtain⟨d,S',h3,h4,n,rfl,hn⟩:=ha l h1 S0 e F S hs;unfold SE at h2;split at h2
 ·rename_i hl
  cases h2;refine⟨_,_,JK h3 (OP hn) (es:=(J1 l).map Nl) ?_,h4.trans (Keeps.app _ _),_,rfl,h4.1,Ed _ _⟩
  cases l with
  | nil=>show some ((B2 []).map D.int)=some ((J1 []).map Nl);rw[bT];unfold J1;rw[List.mergeSort_nil];rfl
  | cons x l=>
   unfold Kr;rw[show Je (Qa (eT D.int) (x :: l))=none from rfl,show N1 (Qa (eT D.int) (x :: l))=some (x :: l)from XM _ hl]
 ·cases h2
theorem Pv(ha:VE A a (rV (eT enc)) pl):VI A (D1 a) enc pl:=λl hv S0 e F S hs=>by
 obtain⟨d,S',h3,h4,rfl⟩:=ha l hv S0 e F S hs;exact⟨_,S',Sq (xs:=l.map enc) h3,h4,λ_ _ _ _=>rfl⟩
theorem Pw(ha:VE A a (rN (oL enc)) pl):VI A (D1 a) enc pl:=λl hv S0 e F S hs=>by
 obtain⟨d,S',h3,h4,n,rfl,h5,h6⟩:=ha l hv S0 e F S hs;exact⟨_,S',Ky h3 h6,h4,λF2 S2 hF h=>ED (h n _ (hF _ _ (Sx h5 h6)))⟩
theorem YS(h:A[i]?=some (.z (oL enc l))):VI A (D1 (AD i)) enc (some l):=λ_ hv S0 e F S hs=>by
 cases hv;obtain⟨x,h1,n,rfl,h2⟩:=hs.sl i _ h;have hn:=hs.fz _ _ h2;exact⟨_,S,Ky (n:=n) (by unfold AD;rw[h1]) hn,Keeps.refl S,λF2 S2 hF h=>ED (h n _ (hF _ _ (by rw[Fy (BW hn)];exact h2)))⟩
theorem Jy(h:A[i]?=some (.y (oL enc l))):VI A (D1 (AD i)) enc (some l):=λ_ hv S0 e F S hs=>by
 cases hv;obtain⟨x,h1,n,rfl,h2,_⟩:=hs.sl i _ h;have hn:=hs.fz _ _ h2;exact⟨_,S,Ky (n:=n) (by unfold AD;rw[h1]) hn,Keeps.refl S,λF2 S2 hF h=>ED (h n _ (hF _ _ (by rw[Fy (BW hn)];exact h2)))⟩
def DW(lo:Int)(n:Nat):ZLi:=(D4 n).map λi:Nat=>lo+i
def MK(j:Int):Option ZLi:=if -1000000<=j/\j<=1000000 then some (DW 0 j.toNat)else none
def XN(i j:Int):Option ZLi:=if -1000000<=i/\i<=1000000/\-1000000<=j/\j<=1000000 then some (DW i (j - i).toNat)else none
theorem eE(lo:Int)(n:Nat):JX lo n=(DW lo n).map D.int:=by
 unfold JX DW;rw[BP];rfl
theorem Dr(ha:VE A a (rV D.int) pi):VI A (iR1 (AM a BI)) D.int (pi.bind MK):=λl hv S0 e F S hs=>by
 obtain⟨j,h1,h2⟩:=BC hv;obtain⟨d,S',h3,h4,rfl⟩:=ha j h1 S0 e F S hs;unfold MK at h2;split at h2
 ·rename_i hj
  cases h2;exact⟨_,S',fx (j:=j) (C0 h3 rfl) hj.1 hj.2,h4,λ_ _ _ _=>congrArg some (eE _ _)⟩
 ·cases h2
theorem Ko(ha:VE A a (rV D.int) pi)(hb:VE A b (rV D.int) pj):VI A (iR2 (AM a (AM b BI))) D.int (pi.bind λi=>pj.bind λj=>XN i j):=λl hv S0 e F S hs=>by
 obtain⟨i,h1,hv⟩:=BC hv;obtain⟨j,h0,h2⟩:=BC hv;obtain⟨d,S1,h3,h4,rfl⟩:=ha i h1 S0 e F S hs;obtain⟨d,S2,h5,h6,rfl⟩:=hb j h0 S0 e _ S1 (hs.grow h4);unfold XN at h2;split at h2
 ·rename_i hj
  cases h2;exact⟨_,S2,pK (i:=i) (j:=j) (C0 h3 (C0 h5 rfl)) hj.1 hj.2.1 hj.2.2.1 hj.2.2.2,h4.trans h6,λ_ _ _ _=>congrArg some (eE _ _)⟩
 ·cases h2
def De(l:List α):List (Int×α):=l.zipIdx.map λx=>((x.2:Int),x.1)
theorem Uk(l:List α):S6 (l.map enc)=(De l).map (eP D.int enc):=by
 unfold S6 De;rw[List.zipIdx_map,BP,BP];rfl
theorem me(ha:VE A a (rO (oL enc)) pl):VK A (aJ a) enc (pl.bind λl=>some l.reverse):=λv hv S0 e F S hs=>by
 obtain⟨l,h1,h2⟩:=BC hv;cases h2;obtain⟨d,S',h3,h4,n,rfl,hn⟩:=ha l h1 S0 e F S hs;refine⟨Wt (.ref n) (l.map enc).length,S',?_,h4,λS2 k=>?_⟩
 ·unfold aJ
  rw[h3];dsimp only[Res.bind];rw[M3 hn]
 ·unfold Wt
  rw[M3 (k.at hn)];dsimp only;rw[qX rfl,iE]
end
end
section
variable{α β ρ σ κ κ':Type}
def oDK(enc:α->D)(l:List (Int×α)):Ob:=.dK (l.map λx=>(Dd x.1,enc x.2))
def kP(x:Int×Int):List Key:=[Dd x.1,Dd x.2]
def oDP(enc:α->D)(l:List (ZPi×α)):Ob:=.dT (l.map λx=>(kP x.1,enc x.2))
theorem Oq[DecidableEq κ][DecidableEq κ']{kk:κ->κ'}(hk:∀x y,kk x=kk y->x=y)(f:α->β)(l:List (κ×α))(k:κ):Ai (l.map λx=>(kk x.1,f x.2)) (kk k)=(Ai l k).map f:=by
 unfold Ai
 induction l with
 | nil=>rfl
 | cons x l ih=>
  rw[BG,Cb,Cb]
  by_cases c:x.1=k
  ·rw[wX c,wX (show kk x.1=kk k by rw[c])]
   rfl
  ·rw[wY c,wY λz=>c (hk _ _ z)]
   exact ih
theorem O3[DecidableEq κ][DecidableEq κ']{kk:κ->κ'}(hk:∀x y,kk x=kk y->x=y)(f:α->β)(l:List (κ×α))(k:κ)(v:α):CG (l.map λx=>(kk x.1,f x.2)) (kk k) (f v)=(CG l k v).map λx=>(kk x.1,f x.2):=by
 have any:((l.map λx=>(kk x.1,f x.2)).any λkv=>decide (kv.1=kk k))=l.any λkv=>decide (kv.1=k):=by
  rw[List.any_map]
  congr 1
  funext x
  exact decide_eq_decide.mpr ⟨hk _ _,λz=>congrArg kk z⟩
 unfold CG;rw[any];split
 ·rw[BP,BP]
  refine E2 λx _=>?_
  show(if kk x.1=kk k then(kk x.1,f v)else(kk x.1,f x.2))=_
  by_cases c:x.1=k
  ·show _=(λx:κ×α=>(kk x.1,f x.2)) (if x.1=k then(x.1,v)else x)
   rw[qX c,qX (show kk x.1=kk k by rw[c])]
  ·show _=(λx:κ×α=>(kk x.1,f x.2)) (if x.1=k then(x.1,v)else x)
   rw[qY c,qY λz=>c (hk _ _ z)]
 ·rw[Ca]
  rfl
theorem Ra(x y:Int)(h:(Dd x:Key)=Dd y):x=y:=by cases h;rfl
theorem fo(x y:Int×Int)(h:kP x=kP y):x=y:=by
 obtain⟨a,b⟩:=x;obtain⟨c,d⟩:=y;unfold kP at h;cases h;rfl
theorem aY{enc:α->D}{l:List (Int×α)}{n:Nat}{S:Sto}(h:S[n]?=some (oDK enc l))(k:Int):MP (.ref n) (.int k) S=some ((Ai l k).map enc):=by
 unfold MP;dsimp only;rw[h];show some (Ai _ (Dd k))=_;rw[Oq Ra]
theorem gk{enc:α->D}{l:List (ZPi×α)}{n:Nat}{S:Sto}(h:S[n]?=some (oDP enc l))(k:Int×Int):MP (.ref n) (eP D.int D.int k) S=some ((Ai l k).map enc):=by
 unfold MP;dsimp only;rw[h];show some (Ai _ (kP k))=_;rw[Oq fo]
theorem QR(hq:Ga (.ref n) S=none)(h:MP (.ref n) y S=some o)(neg:Bool):inA neg y (.ref n) S=.ok (.bl (if neg then !o.isSome else o.isSome)) S:=by
 show JZ (inD neg y (.ref n) S) (Nq neg y (.ref n) S)=_;rw[show inD neg y (.ref n) S=.bad by unfold inD;rw[hq]];show Nq neg y (.ref n) S=_;unfold Nq;rw[h]
theorem OU(hq:Ga (.ref n) S=none)(h:MP (.ref n) y S=some (some d)):ixA (.ref n) y S=.ok d S:=by
 show JZ (ixD (.ref n) y S) (S7 (.ref n) y S)=_;rw[show ixD (.ref n) y S=.bad by unfold ixD;rw[hq]];show S7 (.ref n) y S=_;unfold S7;rw[h]
theorem jZ(h:S[n]?=some (oDK enc l)):Ga (.ref n) S=none:=by unfold Ga;dsimp only;rw[h];rfl
theorem nZ(h:S[n]?=some (oDP enc l)):Ga (.ref n) S=none:=by unfold Ga;dsimp only;rw[h];rfl
section
theorem Ww:VE A Jc (rN (oDK enc)) (some []):=λv hv S0 e F S hs=>by cases hv;exact⟨_,_,rfl,Keeps.app _ _,_,rfl,AL _,Ed _ _⟩
theorem dS:VE A M2 (rN (oDP enc)) (some []):=λv hv S0 e F S hs=>by cases hv;exact⟨_,_,rfl,Keeps.app _ _,_,rfl,AL _,Ed _ _⟩
theorem Wv{pk}{pl}(ha:VE A a (rV D.int) pk)(hb:VE A b (rO (oDK enc)) pl):VE A (m2 (inA true) a b) (rV D.bl) (pk.bind λx=>pl.bind λl=>some (!(Ai l x).isSome)):=Py ha hb λx l z S n hn q=>by cases q;rw[QR (jZ hn) (aY hn x)];simp
theorem jC{pk}{pl}(ha:VE A a (rV (eP D.int D.int)) pk)(hb:VE A b (rO (oDP enc)) pl):VE A (m2 (inA false) a b) (rV D.bl) (pk.bind λx=>pl.bind λl=>some (Ai l x).isSome):=Py ha hb λx l z S n hn q=>by cases q;rw[QR (nZ hn) (gk hn x)];simp
theorem dQ{pk}{pl}(ha:VE A a (rV (eP D.int D.int)) pk)(hb:VE A b (rO (oDP enc)) pl):VE A (m2 (inA true) a b) (rV D.bl) (pk.bind λx=>pl.bind λl=>some (!(Ai l x).isSome)):=Py ha hb λx l z S n hn q=>by cases q;rw[QR (nZ hn) (gk hn x)];simp
theorem dU(ha:VE A a (rO (oDK enc)) pl)(hb:VE A b (rV D.int) pk):VE A (m2 ixA a b) (rV enc) (pl.bind λl=>pk.bind λx=>Ai l x):=Rz ha hb λl x z S n hn q=>OU (jZ hn) (by rw[aY hn x,q];rfl)
theorem Wx(ha:VE A a (rO (oDP enc)) pl)(hb:VE A b (rV (eP D.int D.int)) pk):VE A (m2 ixA a b) (rV enc) (pl.bind λl=>pk.bind λx=>Ai l x):=Rz ha hb λl x z S n hn q=>OU (nZ hn) (by rw[gk hn x,q];rfl)
def Gy[DecidableEq κ](l:List (κ×α))(k:κ)(v:α):Option (List (κ×α)):=if l.length < 1000000 then some (CG l k v)else none
theorem VN{ek:κ->D}[DecidableEq κ]{ob:List (κ×α)->Ob}{R:Rk ρ}{p:Option α}{pk:Option κ}{i:Nat}{l:List (κ×α)}
  (vH:∀(l:List (κ×α)) (k:κ) (v:α) (S:Sto) (n:Nat),S[n]?=some (ob l)->l.length < 1000000->QS (.ref n) (ek k) (enc v) S=some (S.set n (ob (CG l k v))))
  (hi:A[i]?=some (.w i (ob l))) (hk:VE A b (rV ek) pk) (h:VE A m (rV enc) p) (ht:((A.set i .u).all (Sl.oth i))=true) :
  VS A (Cv (AD i) b m) R (p.bind λv=>pk.bind λk=>(Gy l k v).bind λl'=>some (.nx l')) (λl'=>A.set i (.w i (ob l'))):=λf hf S0 e F S hs=>by
 obtain⟨v,h1,h2⟩:=BC hf;obtain⟨k,xO,h3⟩:=BC h2;obtain⟨l',h4,h0⟩:=BC h3;cases h0;unfold Gy at h4;split at h4
 ·rename_i hl
  cases h4;obtain⟨x,g1,n,rfl,g2,g3⟩:=hs.sl i _ hi;obtain⟨d,S1,h5,h6,rfl⟩:=h v h1 S0 e F S hs;obtain⟨d,S2,h7,h8,rfl⟩:=hk k xO S0 e _ S1 (hs.grow h6);have hg:=(hs.grow h6).grow h8;have hn:=(h6.trans h8).at g3
  have hx:Cv (AD i) b m e S=.ok (.nx e) (S2.set n (ob (CG l k v))):=by
   unfold Cv;rw[h5];dsimp only[Res.lift];rw[show AD i e S1=.ok (.ref n) S1 by unfold AD;rw[g1]];dsimp only;rw[h7];dsimp only;rw[vH l k v S2 n hn hl]
  have hF:QQ (QQ F S S1) S1 S2 n=.ow i:=by rw[Fy (BW (h6.at g3)),Fy (BW g3)];exact g2
  exact⟨_,_,hx,e,_,rfl,hg.put ht hi g1 hF,(hs.fle S1).trans ((hs.grow h6).fle S2)⟩
 ·cases h4
theorem Wr{R:Rk ρ}{p:Option α}{pk:Option Int}{i:Nat}{l:List (Int×α)}(hi:A[i]?=some (.w i (oDK enc l)))(hk:VE A b (rV D.int) pk)(h:VE A m (rV enc) p)(ht:((A.set i .u).all (Sl.oth i))=true) :
  VS A (Cv (AD i) b m) R (p.bind λv=>pk.bind λk=>(Gy l k v).bind λl'=>some (.nx l')) (λl'=>A.set i (.w i (oDK enc l'))):=
 VN (λl k v S n hn hl=>by
  unfold QS;dsimp only;rw[hn];show(if (l.map _).length < sizeLine then some (S.set n (.dK (CG (l.map λx=>(Dd x.1,enc x.2)) (Dd k) (enc v))))else none)=_;rw[qX (by rw[AF];exact Y6 hl),O3 Ra]
  rfl) hi hk h ht
theorem Wq{R:Rk ρ}{p:Option α}{pk:Option ZPi}{i:Nat}{l:List (ZPi×α)}(hi:A[i]?=some (.w i (oDP enc l)))(hk:VE A b (rV (eP D.int D.int)) pk)(h:VE A m (rV enc) p)(ht:((A.set i .u).all (Sl.oth i))=true) :
  VS A (Cv (AD i) b m) R (p.bind λv=>pk.bind λk=>(Gy l k v).bind λl'=>some (.nx l')) (λl'=>A.set i (.w i (oDP enc l'))):=
 VN (λl k v S n hn hl=>by
  unfold QS;dsimp only;rw[hn];show(if (l.map _).length < sizeLine then some (S.set n (.dT (CG (l.map λx=>(kP x.1,enc x.2)) (kP k) (enc v))))else none)=_;rw[qX (by rw[AF];exact Y6 hl),O3 fo]
  rfl) hi hk h ht
theorem jE(h:VE A m (rV (eT enc)) pl):VB A (Fx m) (pl.bind λl=>some (!l.isEmpty)):=λv hv S0 e F S hs=>by
 obtain⟨l,h1,h2⟩:=BC hv;cases h2;obtain⟨d,S',h3,h4,rfl⟩:=h l h1 S0 e F S hs;refine⟨S',?_,h4⟩;unfold Fx;rw[h3]
 cases l <;> rfl
theorem jF(h:VE A m (rO (oL enc)) pl):VB A (Fx m) (pl.bind λl=>some (!l.isEmpty)):=λv hv S0 e F S hs=>by
 obtain⟨l,h1,h2⟩:=BC hv;cases h2;obtain⟨d,S',h3,h4,n,rfl,hn⟩:=h l h1 S0 e F S hs;refine⟨S',?_,h4⟩;unfold Fx;rw[h3];dsimp only[Res.bind]
 have:Ql (.ref n) S'=some (!l.isEmpty):=by
  unfold Ql;dsimp only;rw[hn]
  cases l <;> rfl
 rw[this]
theorem YQ{b:MS}{R:Rk ρ}{B:σ->List Sl}:VS A b R none B:=λf hf=>by cases hf
theorem dE(ha:VE A a (rO (oL D.int)) pl):VE A (Xg a) (rV D.int) (pl.bind λl=>some (Ow l)):=λv hv S0 e F S hs=>by
 obtain⟨l,h1,h2⟩:=BC hv;cases h2;obtain⟨d,S',h3,h4,n,rfl,hn⟩:=ha l h1 S0 e F S hs;refine⟨_,S',?_,h4,rfl⟩;unfold Xg;rw[h3];dsimp only[Res.bind];rw[M3 hn];dsimp only;rw[Jd]
end
end
section
variable{α ρ σ:Type}
theorem BH:BF (some (.nx s)) q=q s:=rfl
theorem g8:BF (some (.rt r)) q=some (.rt r):=rfl
theorem kM:Dx (ρ:=ρ) g (some (.nx s))=some (.nx (g s)):=rfl
theorem Z1:GM (some (.rt r:Fw ρ σ))=some r:=rfl
theorem j8:j9 (some (.nx s))=some ():=rfl
theorem PX{l:List α}{q:σ->α->Option (Fw ρ σ)}{s0:σ}(I:List α->σ->Prop)(h0:I [] s0)(h:∀pre x s,x∈l->pre++[x] <+: l->I pre s->∃s',q s x=some (.nx s')/\I (pre++[x]) s'):∃s,Er l s0 q=some (.nx s)/\I l s:=by
 have key:∀(r pre:List α) (s:σ),l=pre++r->I pre s->∃s',Er r s q=some (.nx s')/\I l s':=by
  intro r
  induction r with
  | nil=>intro pre s e hI;rw[CB]at e;subst e;exact⟨s,rfl,hI⟩
  | cons x r ih=>
   intro pre s e hI;obtain⟨s',h1,h2⟩:=h pre x s (by rw[e];simp) ⟨r,by rw[e];simp⟩ hI;obtain⟨s2,h3,h4⟩:=ih (pre++[x]) s' (by rw[e];simp) h2;refine⟨s2,?_,h4⟩;unfold Er;rw[h1];exact h3
 exact key l [] s0 rfl h0
theorem gW(I:List α->σ->Prop)(R:ρ->Prop)(h0:I [] s0)(h:∀pre x s,x∈l->pre++[x] <+: l->I pre s->(∃s',q s x=some (.nx s')/\I (pre++[x]) s')∨∃r,q s x=some (.rt r)/\R r):(∃s,Er l s0 q=some (.nx s)/\I l s)∨∃r,Er l s0 q=some (.rt r)/\R r:=by
 have key:∀(r pre:List α) (s:σ),l=pre++r->I pre s->(∃s',Er r s q=some (.nx s')/\I l s')∨∃y,Er r s q=some (.rt y)/\R y:=by
  intro r
  induction r with
  | nil=>intro pre s e hI;rw[CB]at e;subst e;exact .inl ⟨s,rfl,hI⟩
  | cons x r ih=>
   intro pre s e hI
   rcases h pre x s (by rw[e];simp) ⟨r,by rw[e];simp⟩ hI with⟨s',h1,h2⟩ | ⟨y,h1,h2⟩
   ·have e':Er (x :: r) s q=Er r s' q:=by
     conv=>lhs;unfold Er
     rw[h1]
    rw[e'];exact ih (pre++[x]) s' (by rw[e];simp) h2
   ·refine .inr ⟨y,?_,h2⟩
    unfold Er;rw[h1]
 exact key l [] s0 rfl h0
theorem gt(hc:∀x∈l,c x=some (P x))(hm:∀x∈l,P x=true->m x=some (f x)):S9 c m l=some ((l.filter P).map f):=by
 induction l with
 | nil=>rfl
 | cons x l ih=>
  have ih:=ih (λy hy=>hc y (AY _ hy)) λy hy=>hm y (AY _ hy)
  unfold S9;rw[hc x Af];show(if P x=true then _ else _)=_
  cases hp:P x with
  | true=>
   rw[qX rfl,hm x Af hp,ih,Wj hp];rfl
  | false=>
   rw[qY AK,ih,Wl (by rw[hp];exact AK)]
theorem Pb(hl:l.length<=1000000)(hc:∀x∈l,c x=some (P x))(hm:∀x∈l,P x=true->m x=some (f x)):D3 l c m=some ((l.filter P).map f):=by
 unfold D3;rw[qX hl,gt hc hm]
theorem GR(hl:l.length<=1000000)(hm:∀x∈l,m x=some (f x)):D3 l (λ_=>some true) m=some (l.map f):=by
 rw[Pb (P:=λ_=>true) hl (λ_ _=>rfl) λx hx _=>hm x hx,List.filter_eq_self.mpr λ_ _=>rfl]
theorem F9(hl:l.length<=1000000)(hc:∀x∈l,c x=some (P x)):D3 l c (λx=>some x)=some (l.filter P):=by
 rw[Pb (f:=λx=>x) hl hc λx hx _=>rfl,qd]
theorem aj(h:l.length < 1000000):WM l x=some (l++[x]):=qX h
theorem Ng(h:l.length+k.length<=1000000):NE l k=some (l++k):=qX h
theorem lA(h:l.length<=1000000):FP l=some l:=qX h
theorem gY:FP ([]:List α)=some []:=rfl
theorem pr(a:α):FP [a]=some [a]:=qX (by simp)
theorem few2(a b:α):FP [a,b]=some [a,b]:=qX (by simp)
theorem few3(a b c:α):FP [a,b,c]=some [a,b,c]:=qX (by simp)
theorem J3(h0:-1000000<=j)(h1:j<=1000000):MK j=some (DW 0 j.toNat):=qX ⟨h0,h1⟩
theorem je(h0:-1000000<=i)(h1:i<=1000000)(h2:-1000000<=j)(h3:j<=1000000):XN i j=some (DW i (j - i).toNat):=qX ⟨h0,h1,h2,h3⟩
theorem CO{lo:Int}{n:Nat}{x:Int}:x∈DW lo n↔lo<=x/\x < lo+n:=by
 unfold DW;rw[BO]
 constructor
 ·rintro⟨k,hk,rfl⟩
  have:=Nv.mp hk
  lia
 ·rintro⟨h1,h2⟩
  exact⟨(x - lo).toNat,Nv.mpr (by lia),by lia⟩
theorem CN(lo:Int)(n:Nat):(DW lo n).length=n:=by unfold DW;rw[AF,cw]
theorem RT(lo:Int)(n:Nat):(DW lo n).Pairwise (· < ·):=by
 unfold DW;rw[Cf]
 exact List.pairwise_lt_range.imp λh=>by lia
theorem ZR(h0:0<=i)(h1:i < l.length):∃x,atI l i=some x/\l[i.toNat]?=some x:=by
 have uw:i.toNat < l.length:=by lia
 exact⟨l[i.toNat],IC h0 (AU uw),AU uw⟩
theorem ah(h:atI l i=some x):x∈l:=by
 unfold atI at h;obtain⟨j,_,h2⟩:=BC h;exact BL h2
theorem Lz(k:Int)(h:l≠[]):∃x,atI l (k % (l.length:Int))=some x/\x∈l:=by
 have hl:0 < (l.length:Int):=by have:=EB.mpr h;lia
 obtain⟨x,h1,_⟩:=ZR (l:=l) (i:=k % (l.length:Int)) (lc _ (by lia)) (c7 _ hl);exact⟨x,h1,ah h1⟩
theorem J8(h:0 < y):QG x y=some (x % y):=qX h
theorem Qp(P:α->Bool)(l:List α)(x:α):(l++[x]).filter P=if P x=true then l.filter P++[x]else l.filter P:=by
 rw[List.filter_append]
 cases c:P x with
 | true=>rw[qX rfl,Wj c];rfl
 | false=>rw[qY AK,Wl (by rw[c];exact AK)];simp
theorem Jb[DecidableEq α]:∀{l k:List α},l.Nodup->(∀x∈l,x∈k)->l.length<=k.length
 | [],_,_,_=>Dv _
 | x :: l,k,nd,h=>by
  have hx:=h x Af;obtain⟨n1,n2⟩:=Bt.mp nd
  have:=Jb (l:=l) (k:=k.erase x) n2 λy hy=>(List.mem_erase_of_ne (λz:y=x=>n1 (by rw[<-z];exact hy))).mpr (h y (AY _ hy))
  rw[List.length_erase_of_mem hx]at this;have:=List.length_pos_of_mem hx;rw[BB]
  lia
def Ok(p:Option α)(P:α->Prop):Prop:=∃v,p=some v/\P v
theorem Ok.pure(h:P v):Ok (some v) P:=⟨v,rfl,h⟩
theorem Ok.is(h:Ok p λr=>r=v):p=some v:=by
 obtain⟨_,h1,rfl⟩:=h;exact h1
theorem Ok.bind(h:Ok p P)(hq:∀v,P v->Ok (q v) Q):Ok (p.bind q) Q:=by
 obtain⟨v,rfl,h⟩:=h;exact hq v h
theorem Ok.imp(h:Ok p P)(i:∀v,P v->Q v):Ok p Q:=by
 obtain⟨v,rfl,h⟩:=h;exact⟨v,rfl,i v h⟩
def OkF(p:Option (Fw ρ σ))(N:σ->Prop)(R:ρ->Prop):Prop:=(∃s,p=some (.nx s)/\N s)∨∃r,p=some (.rt r)/\R r
theorem OkF.nx(h:N s):OkF (some (.nx s)) N R:=.inl ⟨s,rfl,h⟩
theorem OkF.rt(h:R r):OkF (some (.rt r)) N R:=.inr ⟨r,rfl,h⟩
theorem OkF.seq(h:OkF p N R)(hq:∀s,N s->OkF (q s) N' R):OkF (BF p q) N' R:=by
 rcases h with⟨s,rfl,h⟩ | ⟨r,rfl,h⟩
 ·exact hq s h
 ·exact .inr ⟨r,rfl,h⟩
theorem OkF.map(h:OkF p N R)(hg:∀s,N s->N' (g s)):OkF (Dx g p) N' R:=by
 rcases h with⟨s,rfl,h⟩ | ⟨r,rfl,h⟩
 ·exact .inl ⟨_,rfl,hg s h⟩
 ·exact .inr ⟨r,rfl,h⟩
theorem OkF.for(I:List α->σ->Prop)(h0:I [] s0)(h:∀pre x s,x∈l->pre++[x] <+: l->I pre s->OkF (q s x) (I (pre++[x])) R):OkF (Er l s0 q) (I l) R:=gW I R h0 h
theorem OkF.out(h:OkF p (λ_=>False) R):Ok (GM p) R:=by
 rcases h with⟨s,rfl,h⟩ | ⟨r,rfl,h⟩
 ·exact h.elim
 ·exact⟨r,rfl,h⟩
theorem VF.law(h:VF f [.v (eF ns)] (rV D.bl) (some true)):∃S',f [.fro (ns.map D.int)] []=.ok (.bl true) S':=by
 obtain⟨d,S',h1,_,rfl⟩:=h true rfl [] [.fro (ns.map D.int)] ⟨rfl,trivial⟩;exact⟨S',h1⟩
end
section
def Oz(x y:Int):Option Int:=if hX x y then some (x * 2 ^ y.toNat)else none
def jX(x y:Int):Option Int:=if 0<=y then some (x / 2 ^ y.toNat)else none
theorem Px(ha:VE A a (rV D.int) pa)(hb:VE A b (rV D.int) pb):VE A (m2 Qv a b) (rV D.int) (pa.bind λx=>pb.bind λy=>Oz x y):=HC ha hb λx y z S h=>by
 unfold Oz at h;split at h
 ·rename_i hc;cases h;exact qX hc
 ·cases h
theorem my(ha:VE A a (rV D.int) pa)(hb:VE A b (rV D.int) pb):VE A (m2 XA a b) (rV D.int) (pa.bind λx=>pb.bind λy=>jX x y):=HC ha hb λx y z S h=>by
 unfold jX at h;split at h
 ·rename_i hc;cases h;exact qX hc
 ·cases h
theorem RP(ha:VE A a (rV D.int) pa)(hb:VE A b (rV D.int) pb):VE A (m2 TK a b) (rV D.int) (pa.bind λx=>pb.bind λy=>some (Bh x y)):=HC ha hb λx y z S h=>by cases h;rfl
theorem Zo(h:VE A m (rV D.int) pa):VB A (Fx m) (pa.bind λx=>some (x != 0)):=λv hv S0 e F S hs=>by
 obtain⟨l,h1,h2⟩:=BC hv;cases h2;obtain⟨d,S',h3,h4,rfl⟩:=h l h1 S0 e F S hs;refine⟨S',?_,h4⟩;unfold Fx;rw[h3];rfl
end
section
theorem Kp(ha:VE A a (rV (eT D.int)) pl):VE A (Ds a) (rN (oL D.int)) (pl.bind λl=>some (B2 l)):=λv hv S0 e F S hs=>by
 obtain⟨l,h1,h2⟩:=BC hv;cases h2;obtain⟨d,S',h3,h4,rfl⟩:=ha l h1 S0 e F S hs;refine⟨_,_,JK h3 (ds:=l.map D.int) rfl (es:=(B2 l).map D.int) ?_,h4.trans (Keeps.app _ _),_,rfl,h4.1,Ed _ _⟩;unfold Kr;rw[Jd]
def Tw(x:ZLi)(l:List ZLi):Bool:=decide (x∈l)
theorem Zk(ha:VE A a (rV (eT D.int)) pa)(hb:VE A b (rO (oL (eT D.int))) pl):VE A (m2 (inA false) a b) (rV D.bl) (pa.bind λx=>pl.bind λl=>some (Tw x l)):=Py ha hb λx l z S n hn q=>by
 cases q;rw[Sn (enc:=eT D.int) (Re Dh) false x (Gk hn)];refine congrArg (λz=>Res.ok (D.bl z) S) ?_;rw[qY AK];unfold Tw;rw[ic];simp
end
section
variable{ρ σ:Type}
theorem EZ{n:Nat}{b:MS}{as:List Ar}{R:Rk ρ}{p:Option (Fw ρ σ)}{B:σ->List Sl}(h:VS (as.map Ar.sl++Bw (n - as.length) .u) b R p B):VF (EK n b) as R (GM p):=λv hv S ds ha=>by
 cases p with
 | none=>cases hv
 | some x=>
  obtain⟨g,S',h1,h2⟩:=h _ rfl S _ _ S (Vs.start ha)
  cases x with
  | rt r=>cases hv;obtain⟨d,rfl,h2,h3⟩:=h2;exact⟨d,S',_root_.M.Mp h1,h3,h2⟩
  | nx s=>cases hv
  | bk s=>cases hv
  | ct s=>cases hv
theorem mq{n:Nat}{b:MS}{as:List Ar}{p:Option (Fw Unit σ)}{B:σ->List Sl}(h:VS (as.map Ar.sl++Bw (n - as.length) .u) b (rV eU) p B):VF (EK n b) as (rV eU) (j9 p):=λv hv S ds ha=>by
 cases p with
 | none=>cases hv
 | some x=>
  obtain⟨g,S',h1,h2⟩:=h _ rfl S _ _ S (Vs.start ha)
  cases x with
  | rt r=>obtain⟨d,rfl,h2,h3⟩:=h2;exact⟨d,S',_root_.M.Mp h1,h3,h2⟩
  | nx s=>obtain⟨e',F',rfl,h2,h3⟩:=h2;exact⟨.non,S',_root_.M.Yr h1,h2.kp,rfl⟩
  | bk s=>cases hv
  | ct s=>cases hv
end
section
variable{κ α:Type}[DecidableEq κ]
theorem C9(l:List (κ×α))(k:κ)(v:α)(k':κ):Ai (CG l k v) k'=if k'=k then some v else Ai l k':=by
 have key:∀l:List (κ×α),Ai (l.map λkv=>if kv.1=k then(kv.1,v)else kv) k'=if k'=k then(Ai l k').map (λ_=>v)else Ai l k':=by
  intro l
  induction l with
  | nil=>unfold Ai;simp
  | cons x l ih=>
   unfold Ai at ih ⊢;rw[BG,Cb,Cb]
   by_cases c:x.1=k
   ·rw[qX c]
    by_cases d:x.1=k'
    ·rw[wX d,qX (show k'=k from d▸c)]
     rfl
    ·rw[wY d]
     exact ih
   ·rw[qY c]
    by_cases d:x.1=k'
    ·rw[wX d,qY (λz:k'=k=>c (d.trans z))]
    ·rw[wY d]
     exact ih
 unfold CG;split
 ·rename_i h
  rw[key]
  by_cases c:k'=k
  ·rw[qX c,qX c]
   subst c
   have:(Ai l k').isSome=true:=by
    unfold Ai;rw[Hg,cy];obtain⟨x,hx,hk⟩:=Ge.mp h;exact⟨x,hx,hk⟩
   obtain⟨b,hb⟩:=CZ.mp this;rw[hb];rfl
  ·rw[qY c,qY c]
 ·rename_i h
  unfold Ai;rw[List.find?_append]
  by_cases c:k'=k
  ·subst c
   rw[qX rfl]
   have:l.find? (λkv=>decide (kv.1=k'))=none:=by
    rw[Jw];intro x hx hk;exact h (Ge.mpr ⟨x,hx,hk⟩)
   rw[this];simp
  ·rw[qY c]
   have:[(k,v)].find? (λkv=>decide (kv.1=k'))=none:=by
    rw[Jw];intro x hx;rw[Aa.mp hx];simp
    exact λz=>c z.symm
   rw[this];simp
theorem HQ(l:List (κ×α))(k:κ)(v:α):(CG l k v).map (·.1)=if k∈l.map (·.1)then l.map (·.1)else l.map (·.1)++[k]:=by
 have h1:(l.any λkv=>decide (kv.1=k))=true↔k∈l.map (·.1):=by
  rw[Ge,BO];exact⟨λ⟨x,hx,e⟩=>⟨x,hx,of_decide_eq_true e⟩,λ⟨x,hx,e⟩=>⟨x,hx,wX e⟩⟩
 unfold CG
 by_cases c:k∈l.map (·.1)
 ·rw[qX c,qX (h1.mpr c),BP]
  refine E2 λx _=>?_
  show(if x.1=k then(x.1,v)else x).1=x.1
  split <;> rfl
 ·rw[qY c,qY λz=>c (h1.mp z),Ca]
  rfl
theorem DH(l:List (κ×α))(k:κ):(Ai l k).isSome=true↔k∈l.map (·.1):=by
 unfold Ai;rw[Hg,cy,BO];exact⟨λ⟨x,hx,e⟩=>⟨x,hx,of_decide_eq_true e⟩,λ⟨x,hx,e⟩=>⟨x,hx,wX e⟩⟩
end
def hb(bits x:Int):Bool:=Bh (bits / 2 ^ x.toNat) 1 != 0
abbrev HL:=List ZPi
abbrev QL:=List (Int×Bool)
def N5(st:HL->Int->QL->Option (Bool×HL×QL))(g:Int):ZLi->HL->QL->Option (Bool×HL×QL)
 | [],H,Q=>some (false,H,Q)
 | x :: r,H,Q=>if (Ai Q x).isSome=true then N5 st g r H Q else(Gy Q x true).bind λQ1=>(Ai H x).bind λg2=>(st H g2 Q1).bind λz=>if z.1=true then(Gy z.2.1 x g).bind λH'=>some (true,H',z.2.2)else N5 st g r z.2.1 z.2.2
def II(T:Int->ZLi)(bits:Int):Nat->HL->Int->QL->Option (Bool×HL×QL)
 | 0,_,_,_=>none
 | n+1,H,g,Q=>match((T g).filter λx=>hb bits x&&!(Ai Q x).isSome).find? (λx=>!(Ai H x).isSome)with
  | some x=>(Gy H x g).bind λH'=>some (true,H',Q)
  | none=>N5 (II T bits n) g ((T g).filter λx=>hb bits x&&!(Ai Q x).isSome) H Q
section
abbrev w0(T:Int->ZLi)(bits g:Int):ZLi:=(T g).filter (hb bits)
structure KOk{α:Type}(U:ZLi)(l:List (Int×α)):Prop where
 nd:(l.map (·.1)).Nodup
 sub:∀x∈l.map (·.1),x∈U
theorem KOk.len{α:Type}{l:List (Int×α)}(h:KOk U l):l.length<=U.length:=by
 have:=Jb h.nd h.sub;rwa [AF]at this
theorem KOk.put{α:Type}{l:List (Int×α)}(h:KOk U l){x:Int}(hx:x∈U)(v:α):KOk U (CG l x v):=by
 by_cases c:x∈l.map (·.1)
 ·exact⟨by rw[HQ,qX c];exact h.nd,by rw[HQ,qX c];exact h.sub⟩
 ·refine⟨?_,?_⟩
  ·rw[HQ,qY c]
   unfold IZ;rw[BU];exact⟨h.nd,by simp,λa ha b uf z=>c (by rw[Aa.mp uf]at z;rw[<-z];exact ha)⟩
  ·rw[HQ,qY c]
   intro y hy
   rcases A9.mp hy with hy | hy
   ·exact h.sub y hy
   ·rw[Aa.mp hy];exact hx
theorem KOk.more{α:Type}{l:List (Int×α)}{x:Int}(c:(Ai l x).isSome=false)(v:α):(CG l x v).length=l.length+1:=by
 have h1:x∉l.map (·.1):=λz=>by rw[(DH l x).mpr z]at c;cases c
 have:=congrArg Il (HQ l x v);rw[qY h1,AF,AX,AF]at this;exact this
def MOn(T:Int->ZLi)(bits:Int)(P:Int->Prop)(H:HL):Prop:=(∀x,P x->∀a,Ai H x=some a->x∈w0 T bits a)/\∀x y a,P x->P y->Ai H x=some a->Ai H y=some a->x=y
abbrev sn(Q:QL)(x:Int):Prop:=(Ai Q x).isSome=true
def Good(T:Int->ZLi)(bits:Int)(H:HL)(g:Int)(Q:QL)(H':HL):Prop:=
 (∀x,sn Q x->Ai H' x=Ai H x)/\(MOn T bits (λx=>¬sn Q x) H->(∀x,¬sn Q x->Ai H x≠some g)->MOn T bits (λx=>¬sn Q x) H'/\∀a,(∃x,¬sn Q x/\Ai H' x=some a)↔a=g∨∃x,¬sn Q x/\Ai H x=some a)
def Clo(T:Int->ZLi)(bits:Int)(H:HL)(Q Q':QL):Prop:=∀x,sn Q' x->sn Q x∨∃a,Ai H x=some a/\∀y∈w0 T bits a,sn Q' y
structure tY(T:Int->ZLi)(bits:Int)(U:ZLi)(Gd:Int->Prop)(H:HL)(g:Int)(Q:QL)(z:Bool×HL×QL):Prop where
 h1:KOk U z.2.1
 h2:KOk U z.2.2
 h3:∀x a,Ai z.2.1 x=some a->Gd a
 h4:∀x,sn Q x->sn z.2.2 x
 h5:z.1=false->z.2.1=H/\(∀x∈w0 T bits g,sn z.2.2 x)/\Clo T bits H Q z.2.2
 h6:z.1=true->Good T bits H g Q z.2.1
theorem Vp{α:Type}{l:List (Int×α)}(h:KOk U l)(hU:U.length < 1000000)(x:Int)(v:α):Gy l x v=some (CG l x v):=qX (Ax h.len hU)
theorem KJ:sn (CG Q x true) y↔y=x∨sn Q y:=by
 unfold sn;rw[C9]
 by_cases c:y=x
 ·rw[qX c];simp[c]
 ·rw[qY c];simp[c]
theorem XB(hT:∀g,Gd g->∀x∈T g,x∈U)(hU:U.length < 1000000):∀(n:Nat) (H:HL) (g:Int) (Q:QL),KOk U H->KOk U Q->(∀x a,Ai H x=some a->Gd a)->Gd g->U.length < n+Q.length->Ok (II T bits n H g Q) (tY T bits U Gd H g Q):=by
 intro n
 induction n with
 | zero=>intro H g Q hH hQ hG hg hn;exact zX hQ.len (by lia)
 | succ n ih=>
  intro H g Q hH hQ hG hg hn;unfold II
  have wm:∀x,x∈(T g).filter (λx=>hb bits x&&!(Ai Q x).isSome)↔x∈w0 T bits g/\¬sn Q x:=by
   intro x;unfold w0 sn;rw[An,An]
   cases Ai Q x <;> simp
  generalize (T g).filter (λx=>hb bits x&&!(Ai Q x).isSome)=w at wm
  have wU:∀x∈w,x∈U:=λx hx=>hT g hg x (An.mp ((wm x).mp hx).1).1
  cases hf:w.find? (λx=>!(Ai H x).isSome)with
  | some x=>
   have hx:=U6 hf
   have vw:Ai H x=none:=by
    have:=iY hf
    cases q:Ai H x with
    | none=>rfl
    | some a=>rw[q]at this;cases this
   obtain⟨x1,x2⟩:=(wm x).mp hx;show Ok ((Gy H x g).bind _) _;rw[Vp hH hU];refine .pure ⟨hH.put (wU x hx) g,hQ,λy a hy=>?_,λ_ h=>h,λz=>(by cases z),λ_=>⟨λy hy=>?_,λm ng=>⟨⟨λy hy a e=>?_,λy z a hy hz e1 e2=>?_⟩,λa=>⟨?_,?_⟩⟩⟩⟩
   ·rw[show Ai (true,CG H x g,Q).2.1 y=if y=x then some g else Ai H y from C9 _ _ _ _]at hy
    split at hy
    ·cases hy;exact hg
    ·exact hG y a hy
   ·show Ai (CG H x g) y=_
    rw[C9,qY λc:y=x=>x2 (by rw[<-c];exact hy)]
   ·rw[show Ai (true,CG H x g,Q).2.1 y=if y=x then some g else Ai H y from C9 _ _ _ _]at e
    split at e
    ·rename_i c;cases e;rw[c];exact x1
    ·exact m.1 y hy a e
   ·rw[show Ai (true,CG H x g,Q).2.1 y=if y=x then some g else Ai H y from C9 _ _ _ _]at e1
    rw[show Ai (true,CG H x g,Q).2.1 z=if z=x then some g else Ai H z from C9 _ _ _ _]at e2;split at e1
    ·rename_i c
     cases e1;split at e2
     ·rename_i d;rw[c,d]
     ·exact zX e2 (ng z hz)
    ·split at e2
     ·cases e2;exact zX e1 (ng y hy)
     ·exact m.2 y z a hy hz e1 e2
   ·rintro⟨y,hy,e⟩
    rw[show Ai (true,CG H x g,Q).2.1 y=if y=x then some g else Ai H y from C9 _ _ _ _]at e;split at e
    ·cases e;exact .inl rfl
    ·exact .inr ⟨y,hy,e⟩
   ·rintro(rfl | ⟨y,hy,e⟩)
    ·exact⟨x,x2,by show Ai (CG H x a) x=_;rw[C9,qX rfl]⟩
    ·refine⟨y,hy,?_⟩
     show Ai (CG H x g) y=_;rw[C9,qY λc=>by rw[c,vw]at e;cases e];exact e
  | none=>
   have held:∀x∈w,∃a,Ai H x=some a:=by
    intro x hx;have:=Jw.mp hf x hx
    cases q:Ai H x with
    | none=>rw[q]at this;exact zX rfl this
    | some a=>exact⟨a,rfl⟩
   have key:∀(r:ZLi) (Qc:QL),(∀x∈r,x∈w)->KOk U Qc->(∀x,sn Q x->sn Qc x)->Q.length<=Qc.length->Clo T bits H Q Qc->(∀x∈w,x∈r∨sn Qc x)->Ok (N5 (II T bits n) g r H Qc) (tY T bits U Gd H g Q):=by
    intro r
    induction r with
    | nil=>
     intro Qc _ ye hs hl hc hw;refine .pure ⟨hH,ye,hG,hs,λ_=>⟨rfl,λx hx=>?_,hc⟩,λz=>(by cases z)⟩
     by_cases c:sn Q x
     ·exact hs x c
     ·rcases hw x ((wm x).mpr ⟨hx,c⟩)with h | h
      ·cases h
      ·exact h
    | cons x r ih2=>
     intro Qc hr ye hs hl hc hw;unfold N5
     by_cases c:(Ai Qc x).isSome=true
     ·rw[qX c]
      refine ih2 Qc (λy hy=>hr y (AY _ hy)) ye hs hl hc λy hy=>?_
      rcases hw y hy with h | h
      ·rcases Ap.mp h with rfl | h
       ·exact .inr c
       ·exact .inl h
      ·exact .inr h
     ·rw[qY c,Vp ye hU]
      have zN:=hr x Af;obtain⟨x1,x2⟩:=(wm x).mp zN;obtain⟨a,ha⟩:=held x zN;have hQ1:=ye.put (wU x zN) true;have pA:=KOk.more (l:=Qc) (x:=x) (by cases q:(Ai Qc x).isSome;rfl;exact zX q c) true;obtain⟨z,ez,hz⟩:=ih H a (CG Qc x true) hH hQ1 hG (hG x a ha) (by lia);show Ok ((Ai H x).bind _) _;rw[ha];show Ok ((II T bits n H a (CG Qc x true)).bind _) _;rw[ez];show Ok (if z.1=true then _ else _) _
      cases uf:z.1 with
      | true=>
       rw[qX rfl,Vp hz.h1 hU];obtain⟨g1,g2⟩:=hz.h6 uf;refine .pure ⟨hz.h1.put (wU x zN) g,hz.h2,λy b hy=>?_,λy hy=>hz.h4 y (KJ.mpr (.inr (hs y hy))),λq=>(by cases q),λ_=>⟨λy hy=>?_,λm ng=>?_⟩⟩
       ·rw[show Ai (true,CG z.2.1 x g,z.2.2).2.1 y=if y=x then some g else Ai z.2.1 y from C9 _ _ _ _]at hy
        split at hy
        ·cases hy;exact hg
        ·exact hz.h3 y b hy
       ·show Ai (CG z.2.1 x g) y=_
        rw[C9,qY λq:y=x=>x2 (by rw[<-q];exact hy)];exact g1 y (KJ.mpr (.inr (hs y hy)))
       ·have R1:∀y,¬sn (CG Qc x true) y->¬sn Q y/\y≠x/\¬sn Qc y:=λy hy=>⟨λq=>hy (KJ.mpr (.inr (hs y q))),λq=>hy (KJ.mpr (.inl q)),λq=>hy (KJ.mpr (.inr q))⟩
        obtain⟨m1,m2⟩:=g2 ⟨λy hy b e=>m.1 y (R1 y hy).1 b e,λy y' b hy wJ e e'=>m.2 y y' b (R1 y hy).1 (R1 y' wJ).1 e e'⟩ λy hy e=>(R1 y hy).2.1 (m.2 y x a (R1 y hy).1 x2 e ha)
        have three:∀y,y=x∨(y≠x/\Ai z.2.1 y=Ai H y/\sn Qc y)∨¬sn (CG Qc x true) y:=λy=>by
         by_cases q:y=x
         ·exact .inl q
         ·by_cases q2:sn Qc y
          ·exact .inr (.inl ⟨q,g1 y (KJ.mpr (.inr q2)),q2⟩)
          ·exact .inr (.inr λq3=>(KJ.mp q3).elim q q2)
        have hv:∀y,y≠x->Ai (CG z.2.1 x g) y=Ai z.2.1 y:=λy q=>by rw[C9,qY q]
        have yf:Ai (CG z.2.1 x g) x=some g:=by rw[C9,qX rfl]
        show MOn T bits _ (CG z.2.1 x g)/\∀b,(∃y,_/\Ai (CG z.2.1 x g) y=some b)↔_
        refine⟨⟨λy hy b e=>?_,λy y' b hy wJ e e'=>?_⟩,λb=>⟨?_,?_⟩⟩
        ·rcases three y with rfl | ⟨q,q1,q2⟩ | q
         ·rw[yf]at e;cases e;exact x1
         ·rw[hv y q,q1]at e;exact m.1 y hy b e
         ·rw[hv y (R1 y q).2.1]at e;exact m1.1 y q b e
        ·rcases three y with rfl | ⟨q,q1,q2⟩ | q
         ·rw[yf]at e
          cases e
          rcases three y' with rfl | ⟨p,p1,p2⟩ | p
          ·rfl
          ·rw[hv y' p,p1]at e';exact zX e' (ng y' wJ)
          ·rw[hv y' (R1 y' p).2.1]at e'
           rcases(m2 g).mp ⟨y',p,e'⟩with rfl | ⟨y2,p2,e2⟩
           ·exact zX ha (ng y hy)
           ·exact zX e2 (ng y2 (R1 y2 p2).1)
         ·rw[hv y q,q1]at e
          rcases three y' with rfl | ⟨p,p1,p2⟩ | p
          ·rw[yf]at e';cases e';exact zX e (ng y hy)
          ·rw[hv y' p,p1]at e';exact m.2 y y' b hy wJ e e'
          ·rw[hv y' (R1 y' p).2.1]at e'
           rcases(m2 b).mp ⟨y',p,e'⟩with rfl | ⟨y2,p2,e2⟩
           ·exact zX (m.2 y x b hy x2 e ha) q
           ·have:=m.2 y y2 b hy (R1 y2 p2).1 e e2
            rw[<-this]at p2;exact zX q2 (R1 y p2).2.2
         ·rw[hv y (R1 y q).2.1]at e
          rcases three y' with rfl | ⟨p,p1,p2⟩ | p
          ·rw[yf]at e'
           cases e'
           rcases(m2 g).mp ⟨y,q,e⟩with rfl | ⟨y2,p2,e2⟩
           ·exact zX ha (ng y' wJ)
           ·exact zX e2 (ng y2 (R1 y2 p2).1)
          ·rw[hv y' p,p1]at e'
           rcases(m2 b).mp ⟨y,q,e⟩with rfl | ⟨y2,p3,e2⟩
           ·exact zX (m.2 y' x b wJ x2 e' ha) p
           ·have:=m.2 y' y2 b wJ (R1 y2 p3).1 e' e2
            rw[<-this]at p3;exact zX p2 (R1 y' p3).2.2
          ·rw[hv y' (R1 y' p).2.1]at e'
           exact m1.2 y y' b q p e e'
        ·rintro⟨y,hy,e⟩
         rcases three y with rfl | ⟨q,q1,q2⟩ | q
         ·rw[yf]at e;cases e;exact .inl rfl
         ·rw[hv y q,q1]at e;exact .inr ⟨y,hy,e⟩
         ·rw[hv y (R1 y q).2.1]at e
          rcases(m2 b).mp ⟨y,q,e⟩with rfl | ⟨y2,p2,e2⟩
          ·exact .inr ⟨x,x2,ha⟩
          ·exact .inr ⟨y2,(R1 y2 p2).1,e2⟩
        ·rintro(rfl | ⟨y,hy,e⟩)
         ·exact⟨x,x2,yf⟩
         ·rcases three y with rfl | ⟨q,q1,q2⟩ | q
          ·rw[ha]at e
           cases e;obtain⟨y',p,e'⟩:=(m2 a).mpr (.inl rfl);exact⟨y',(R1 y' p).1,by rw[hv y' (R1 y' p).2.1];exact e'⟩
          ·exact⟨y,hy,by rw[hv y q,q1];exact e⟩
          ·obtain⟨y',p,e'⟩:=(m2 b).mpr (.inr ⟨y,q,e⟩)
           exact⟨y',(R1 y' p).1,by rw[hv y' (R1 y' p).2.1];exact e'⟩
      | false=>
       rw[qY AK];obtain⟨f1,f2,f3⟩:=hz.h5 uf;rw[f1]
       have up:∀y,sn Qc y->sn z.2.2 y:=λy hy=>hz.h4 y (KJ.mpr (.inr hy))
       refine ih2 z.2.2 (λy hy=>hr y (AY _ hy)) hz.h2 (λy hy=>up y (hs y hy)) ?_ (λy hy=>?_) λy hy=>?_
       ·have h1:∀k∈Qc.map (·.1),k∈z.2.2.map (·.1):=λk hk=>(DH _ _).mp (up k ((DH _ _).mpr hk))
        have:=Jb ye.nd h1;rw[AF,AF]at this
        lia
       ·rcases f3 y hy with h | h
        ·rcases KJ.mp h with rfl | h
         ·exact .inr ⟨a,ha,f2⟩
         ·rcases hc y h with h | ⟨b,e,k⟩
          ·exact .inl h
          ·exact .inr ⟨b,e,λy' wJ=>up y' (k y' wJ)⟩
        ·exact .inr h
       ·rcases hw y hy with h | h
        ·rcases Ap.mp h with rfl | h
         ·exact .inr (hz.h4 _ (KJ.mpr (.inl rfl)))
         ·exact .inl h
        ·exact .inr (up y h)
   exact key w Q (λ_ h=>h) hQ (λ_ h=>h) (AL _) (λx hx=>.inl hx) λx hx=>.inl hx
end
def SB(bits:Int):ZLi->HL->Option HL
 | [],H=>some H
 | g :: r,H=>if hb bits g=true then(Gy H g g).bind λH'=>SB bits r H' else SB bits r H
def SO(T:Int->ZLi)(bits:Int)(n:Nat):ZLi->HL->Option Bool
 | [],_=>some true
 | g :: r,H=>if hb bits g=true then SO T bits n r H else(II T bits n H g []).bind λz=>if z.1=true then SO T bits n r z.2.1 else some false
def Uf(T:Int->ZLi)(bits:Int)(n:Nat)(gs:ZLi):Option Bool:=(SB bits gs []).bind λH=>SO T bits n gs H
def Sdr(T:Int->ZLi)(bits:Int)(gs:ZLi):Prop:=∃f:Int->Int,(∀g∈gs,f g∈w0 T bits g)/\∀a∈gs,∀b∈gs,f a=f b->a=b
section
variable{T:Int->ZLi}{bits:Int}{U:ZLi}{Gd:Int->Prop}
theorem bQ(hU:U.length < 1000000):∀(gs:ZLi) (H:HL),(∀g∈gs,g∈U)->KOk U H->Ok (SB bits gs H) λH'=>KOk U H'/\∀x,Ai H' x=if x∈gs/\hb bits x=true then some x else Ai H x:=by
 intro gs
 induction gs with
 | nil=>intro H _ h;exact .pure ⟨h,λx=>by rw[qY (by simp)]⟩
 | cons g gs ih=>
  intro H hg h;unfold SB
  cases c:hb bits g with
  | true=>
   rw[qX rfl,Vp h hU]
   refine(ih (CG H g g) (λy hy=>hg y (AY _ hy)) (h.put (hg g Af) g)).imp λH' ⟨h1,h2⟩=>⟨h1,λx=>?_⟩
   rw[h2 x,C9]
   by_cases d:x=g
   ·subst d
    rw[qX rfl,qX (show x∈x :: gs/\hb bits x=true from⟨Af,c⟩)]
    split <;> rfl
   ·rw[qY d]
    have:(x∈g :: gs/\hb bits x=true)↔(x∈gs/\hb bits x=true):=by rw[Ap];simp[d]
    by_cases q:x∈gs/\hb bits x=true
    ·rw[qX q,qX (this.mpr q)]
    ·rw[qY q,qY λz=>q (this.mp z)]
  | false=>
   rw[qY AK]
   refine(ih H (λy hy=>hg y (AY _ hy)) h).imp λH' ⟨h1,h2⟩=>⟨h1,λx=>?_⟩
   rw[h2 x]
   have:(x∈g :: gs/\hb bits x=true)↔(x∈gs/\hb bits x=true):=by
    rw[Ap];refine⟨λ⟨z,y⟩=>⟨z.elim (λe=>?_) id,y⟩,λ⟨z,y⟩=>⟨.inr z,y⟩⟩;rw[e,c]at y;cases y
   by_cases q:x∈gs/\hb bits x=true
   ·rw[qX q,qX (this.mpr q)]
   ·rw[qY q,qY λz=>q (this.mp z)]
theorem fI{α:Type}:KOk U ([]:List (Int×α)):=⟨EX,λ_ h=>(nomatch h)⟩
theorem bf(hT:∀g,Gd g->∀x∈T g,x∈U)(hU:U.length < 1000000)(hn:U.length < n)(hg:∀g∈gs,Gd g)(w6:gs.Nodup):∀(r pre:ZLi) (H:HL),gs=pre++r->KOk U H->(∀x a,Ai H x=some a->Gd a)->MOn T bits (λ_=>True) H->(∀a,(∃x,Ai H x=some a)↔a∈gs/\(a∈pre∨hb bits a=true))->Ok (SO T bits n r H) λb=>b=true↔Sdr T bits gs:=by
 intro r
 induction r with
 | nil=>
  intro pre H e hH hG hM hI;rw[CB]at e;subst e;refine .pure ⟨λ_=>?_,λ_=>rfl⟩
  have ex:∀a:Int,∃x:Int,a∈gs->Ai H x=some a:=λa=>by
   by_cases c:a∈gs
   ·obtain⟨x,hx⟩:=(hI a).mpr ⟨c,.inl c⟩
    exact⟨x,λ_=>hx⟩
   ·exact⟨0,λz=>zX z c⟩
  refine⟨λa=>Eu (ex a),λa ha=>hM.1 _ trivial a (FE (ex a) ha),λa ha b uf e=>?_⟩;have h1:=FE (ex a) ha;have h2:=FE (ex b) uf;have e:Eu (ex a)=Eu (ex b):=e;rw[e,h2]at h1;cases h1;rfl
 | cons g r ih=>
  intro pre H e hH hG hM hI
  have yg:g∈gs:=by rw[e];simp
  have hgp:g∉pre:=λz=>by
   rw[e]at w6;exact(Fg.mp w6).2.2 g z g Af rfl
  unfold SO
  cases c:hb bits g with
  | true=>
   rw[qX rfl]
   refine ih (pre++[g]) H (by rw[e];simp) hH hG hM λa=>?_
   rw[hI a];refine⟨λ⟨z,y⟩=>⟨z,y.elim (λy=>.inl (BM _ y)) .inr⟩,λ⟨z,y⟩=>⟨z,y.elim (λy=>?_) .inr⟩⟩
   rcases A9.mp y with y | y
   ·exact .inl y
   ·rw[Aa.mp y];exact .inr c
  | false=>
   rw[qY AK];obtain⟨z,ez,hz⟩:=XB (bits:=bits) hT hU n H g [] hH fI hG (hg g yg) (by simpa using hn);rw[ez];show Ok (if z.1=true then _ else _) _
   have no:∀x,¬sn ([]:QL) x:=λx h=>by unfold sn at h;cases h
   have ng:∀x,Ai H x≠some g:=λx q=>by
    have:=((hI g).mp ⟨x,q⟩).2
    rcases this with h | h
    ·exact hgp h
    ·rw[c]at h;cases h
   cases uf:z.1 with
   | true=>
    rw[qX rfl];obtain⟨-,g2⟩:=hz.h6 uf
    obtain⟨m1,m2⟩:=g2 ⟨λx _ a q=>hM.1 x trivial a q,λx y a _ _ q q'=>hM.2 x y a trivial trivial q q'⟩ λx _=>ng x
    refine ih (pre++[g]) z.2.1 (by rw[e];simp) hz.h1 hz.h3 ⟨λx _ a q=>m1.1 x (no x) a q,λx y a _ _ q q'=>m1.2 x y a (no x) (no y) q q'⟩ λa=>?_
    constructor
    ·rintro⟨x,hx⟩
     rcases(m2 a).mp ⟨x,no x,hx⟩with rfl | ⟨y,_,hy⟩
     ·exact⟨yg,.inl (by simp)⟩
     ·obtain⟨q1,q2⟩:=(hI a).mp ⟨y,hy⟩
      exact⟨q1,q2.elim (λq=>.inl (BM _ q)) .inr⟩
    ·rintro⟨q1,q2⟩
     have:a=g∨∃x,¬sn ([]:QL) x/\Ai H x=some a:=by
      rcases q2 with q2 | q2
      ·rcases A9.mp q2 with q2 | q2
       ·obtain⟨x,hx⟩:=(hI a).mpr ⟨q1,.inl q2⟩
        exact .inr ⟨x,no x,hx⟩
       ·exact .inl (Aa.mp q2)
      ·obtain⟨x,hx⟩:=(hI a).mpr ⟨q1,.inr q2⟩
       exact .inr ⟨x,no x,hx⟩
     obtain⟨x,_,hx⟩:=(m2 a).mpr this;exact⟨x,hx⟩
   | false=>
    rw[qY AK];obtain⟨f1,f2,f3⟩:=hz.h5 uf;refine .pure ⟨λq=>(by cases q),?_⟩;rintro⟨f,fw,fi⟩
    exfalso
    have X:=z.2.2.map (·.1)
    have hold:∀x∈z.2.2.map (·.1),∃a,Ai H x=some a/\∀y∈w0 T bits a,sn z.2.2 y:=λx hx=>by
     rcases f3 x ((DH _ _).mpr hx)with h | h
     ·exact zX h (no x)
     ·exact h
    have ex:∀x:Int,∃a:Int,x∈z.2.2.map (·.1)->Ai H x=some a/\∀y∈w0 T bits a,sn z.2.2 y:=λx=>by
     by_cases q:x∈z.2.2.map (·.1)
     ·obtain⟨a,h⟩:=hold x q
      exact⟨a,λ_=>h⟩
     ·exact⟨0,λq'=>zX q' q⟩
    have hc:=λx=>FE (ex x)
    generalize hh:(λx=>Eu (ex x))=h at hc
    have uN:∀x∈z.2.2.map (·.1),Ai H x=some (h x)/\∀y∈w0 T bits (h x),sn z.2.2 y:=λx hx=>by rw[<-hh];exact hc x hx
    have nd:(f g :: (z.2.2.map (·.1)).map λx=>f (h x)).Nodup:=by
     rw[Bt]
     have vG:∀x∈z.2.2.map (·.1),h x∈gs:=λx hx=>((hI (h x)).mp ⟨x,(uN x hx).1⟩).1
     refine⟨λq=>?_,?_⟩
     ·obtain⟨x,hx,e1⟩:=BO.mp q
      have:=fi (h x) (vG x hx) g yg e1;exact ng x (by rw[(uN x hx).1,this])
     ·unfold IZ
      rw[Cf]
      refine hz.h2.nd.imp_of_mem λ{x y} hx hy ne e1=>ne ?_
      have:=fi (h x) (vG x hx) (h y) (vG y hy) e1;exact hM.2 x y (h x) trivial trivial (uN x hx).1 (by rw[this];exact(uN y hy).1)
    have sub:∀y∈(f g :: (z.2.2.map (·.1)).map λx=>f (h x)),y∈z.2.2.map (·.1):=by
     intro y hy
     rcases Ap.mp hy with rfl | hy
     ·exact(DH _ _).mp (f2 _ (fw g yg))
     ·obtain⟨x,hx,rfl⟩:=BO.mp hy
      exact(DH _ _).mp ((uN x hx).2 _ (fw _ ((hI (h x)).mp ⟨x,(uN x hx).1⟩).1))
    have:=Jb nd sub;rw[BB,AF]at this;omega
theorem cK(hT:∀g,Gd g->∀x∈T g,x∈U)(hU:U.length < 1000000)(hn:U.length < n)(hg:∀g∈gs,Gd g/\g∈T g)(w6:gs.Nodup):Ok (Uf T bits n gs) λb=>b=true↔Sdr T bits gs:=by
 unfold Uf
 refine(bQ hU gs [] (λg h=>hT g (hg g h).1 g (hg g h).2) fI).bind λH ⟨h1,h2⟩=>?_
 have hv:∀x a,Ai H x=some a->a=x/\x∈gs/\hb bits x=true:=λx a e=>by
  rw[h2 x]at e;split at e
  ·rename_i q;cases e;exact⟨rfl,q⟩
  ·cases e
 refine bf hT hU hn (λg h=>(hg g h).1) w6 gs [] H rfl h1 (λx a e=>?_) ⟨λx _ a e=>?_,λx y a _ _ e e'=>?_⟩ λa=>⟨?_,?_⟩
 ·obtain⟨rfl,q,_⟩:=hv x a e;exact(hg _ q).1
 ·obtain⟨rfl,q1,q2⟩:=hv x a e
  exact An.mpr ⟨(hg _ q1).2,q2⟩
 ·rw[<-(hv x a e).1,<-(hv y a e').1]
 ·rintro⟨x,e⟩
  obtain⟨rfl,q1,q2⟩:=hv x a e;exact⟨q1,.inr q2⟩
 ·rintro⟨q1,q2⟩
  refine⟨a,?_⟩;rw[h2 a,qX ⟨q1,q2.elim (λq=>(nomatch q)) id⟩]
end
section
theorem Mf(h:e[i]?=some (some d)):AD i e S=.ok d S:=by unfold AD;rw[h]
end
section
variable{F:Fz}
def loF(F:Fz):Nat->Option Ob:=λn=>match F n with
 | .fz o=>some o
 | _=>none
theorem fU(h:F n=.fz o):loF F n=some o:=by unfold loF;rw[h]
theorem M4(h:loF F n=some o):F n=.fz o:=by
 unfold loF at h;split at h
 ·rename_i o' ho;cases h;exact ho
 ·cases h
end
section
variable{S0 S:Sto}{A:List Sl}{ρ σ:Type}
def whF(c:σ->Option Bool)(q:σ->Option (Fw ρ σ)):Nat->σ->Option (Fw ρ σ)
 | 0,_=>none
 | n+1,s=>(c s).bind λt=>if t=true then match q s with
   | some (.nx s')=>whF c q n s'
   | some (.ct s')=>whF c q n s'
   | some (.bk s')=>some (.nx s')
   | some (.rt r)=>some (.rt r)
   | none=>none
  else some (.nx s)
theorem bD(hc:∀s,VB (B s) t (c s))(hb:∀s,VS (B s) b R (q s) B):∀(n:Nat) (s:σ),VS (B s) (Ih t b n) R (whF c q n s) B:=by
 intro n
 induction n with
 | zero=>intro s f hf;cases hf
 | succ n ih=>
  intro s f hf S0 e F S hs;unfold whF at hf;obtain⟨v,h1,h2⟩:=BC hf;obtain⟨S1,h3,h4⟩:=hc s v h1 S0 e F S hs;have wk:=hs.grow h4
  have run:Ih t b (n+1) e S=if v=true then(b e S1).bind λf S2=>match f with
   | .nx e2=>Ih t b n e2 S2
   | .ct e2=>Ih t b n e2 S2
   | .bk e2=>.ok (.nx e2) S2
   | .rt d=>.ok (.rt d) S2
   | .ex c e2=>.ok (.ex c e2) S2
  else .ok (.nx e) S1:=by
   show(t e S).lift e _=_;rw[h3];rfl
  cases v with
  | false=>
   rw[qY AK]at h2;cases h2;exact⟨_,S1,run.trans (qY AK),e,_,rfl,wk,hs.fle S1⟩
  | true=>
   rw[qX rfl]at h2;rw[run,qX rfl];split at h2
   ·rename_i s' hq
    obtain⟨h,S2,g1,e2,F2,rfl,g2,g3⟩:=hb s _ hq S0 e _ S1 wk;rw[g1];obtain⟨h',S3,g4,g5⟩:=ih s' f h2 S0 e2 F2 S2 g2;exact⟨h',S3,g4,g5.up ((hs.fle S1).trans g3)⟩
   ·rename_i s' hq
    obtain⟨h,S2,g1,e2,F2,rfl,g2,g3⟩:=hb s _ hq S0 e _ S1 wk;rw[g1];obtain⟨h',S3,g4,g5⟩:=ih s' f h2 S0 e2 F2 S2 g2;exact⟨h',S3,g4,g5.up ((hs.fle S1).trans g3)⟩
   ·rename_i s' hq
    cases h2;obtain⟨h,S2,g1,e2,F2,rfl,g2,g3⟩:=hb s _ hq S0 e _ S1 wk;rw[g1];exact⟨_,S2,rfl,e2,F2,rfl,g2,(hs.fle S1).trans g3⟩
   ·rename_i r hq
    cases h2;obtain⟨h,S2,g1,d,rfl,g2,g3⟩:=hb s _ hq S0 e _ S1 wk;rw[g1];exact⟨_,S2,rfl,d,rfl,g2,g3⟩
   ·cases h2
theorem Wp(w0:Wk A (B s0))(hc:∀s,VB (B s) t (c s))(hb:∀s,VS (B s) b R (q s) B):VS A (Ih t b n) R (whF c q n s0) B:=λf hf S0 e F S hs=>
 bD hc hb n s0 f hf S0 e F S (hs.weak w0)
end
section
variable{S0 S S':Sto}{A B:List Sl}{e:Lo}{F:Fz}{α ρ σ:Type}{a b:ME}{enc:α->D}
def oFK(enc:α->D)(l:List (Int×α)):Ob:=.fK (l.map λx=>(Dd x.1,enc x.2))
theorem p9(h:S[n]?=some (oFK enc l))(k:Int):MP (.ref n) (.int k) S=some ((Ai l k).map enc):=by
 unfold MP;dsimp only;rw[h];show some (Ai _ (Dd k))=_;rw[Oq Ra]
theorem re(h:S[n]?=some (oFK enc l)):Ga (.ref n) S=none:=by unfold Ga;dsimp only;rw[h];rfl
theorem bG(ha:VE A a (rO (oFK enc)) pl)(hb:VE A b (rV D.int) pk):VE A (m2 ixA a b) (rV enc) (pl.bind λl=>pk.bind λx=>Ai l x):=Rz ha hb λl x z S n hn q=>OU (re hn) (by rw[p9 hn x,q];rfl)
theorem kX(h:S[n]?=some (oFK enc l)):Xm (.ref n) S=some ((l.map (·.1)).map D.int):=by
 unfold Xm;dsimp only;rw[h];show some _=_;rw[BP,BP];rfl
theorem mf(h:A[i]?=some (.y (oFK enc l))):VI A (aK (AD i)) D.int (some (l.map (·.1))):=λ_ hv S0 e F S hs=>by
 cases hv;obtain⟨x,h1,n,rfl,h2,_⟩:=hs.sl i _ h;refine⟨Hm ((l.map (·.1)).map D.int),S,?_,Keeps.refl S,λ_ _ _ _=>rfl⟩;unfold aK;rw[Mf h1];dsimp only[Res.bind];rw[kX (hs.fz _ _ h2)]
theorem qz{b:MS}{R:Rk ρ}{p:Option (Fw ρ σ)}{B:σ->List Sl}{l:List (Int×α)}(i:Nat)(ha:A[i]?=some (.w i (oDK enc l)))(ht:((A.set i .u).all (Sl.oth i))=true)(h:VS (A.set i (.y (oFK enc l))) b R p B):VS A (BJ (sFz i) b) R p B:=λf hf S0 e F S hs=>by
 obtain⟨x,h1,n,rfl,h2,h3⟩:=hs.sl i _ ha;have hp:=hs.put (o':=oFK enc l) ht ha h1 h2;have yZ:(A.set i (.w i (oFK enc l)))[i]?=some (.w i (oFK enc l)):=At (AE.mp ha).1;obtain⟨F',h4,h5⟩:=hp.freeze (by rw[qc];exact ht) yZ;rw[qc]at h4;obtain⟨g,S',h6,h7⟩:=h f hf S0 e F' _ h4;refine⟨g,S',?_,h7.up h5⟩
 have:sFz i e S=.ok (.nx e) (S.set n (oFK enc l)):=by
  unfold sFz;rw[h1];dsimp only;rw[h3];rfl
 exact(CS this).trans h6
theorem dX(ha:VE A a (rO (oDK enc)) pl):VB A (Fx a) (pl.bind λl=>some (!l.isEmpty)):=λv hv S0 e F S hs=>by
 obtain⟨l,h1,h2⟩:=BC hv;cases h2;obtain⟨d,S',h3,h4,n,rfl,hn⟩:=ha l h1 S0 e F S hs;refine⟨S',?_,h4⟩;unfold Fx;rw[h3];dsimp only[Res.bind];rw[show Ql (.ref n) S'=some (!l.isEmpty) by unfold Ql;dsimp only;rw[hn];show some (!(Qa _ l).isEmpty)=_;rw[List.isEmpty_map]]
end
abbrev Pq:=(Nat->Option Ob)->D->Prop
def AtV(P:Pq)(C:Ab)(x:Str)(d0:D):Prop:=∀L d,P L d->∃q fs,d=.ref q/\L q=some (.ins C fs)/\fs.lookup x=some d0
def AtO(P:Pq)(C:Ab)(x:Str)(o:Ob):Prop:=∀L d,P L d->∃q fs n,d=.ref q/\L q=some (.ins C fs)/\fs.lookup x=some (.ref n)/\L n=some o
def AtN(P:Pq)(C:Ab)(x:Str):Prop:=∀L d,P L d->∃q fs,d=.ref q/\L q=some (.ins C fs)/\fs.lookup x=none
def rQ(P:β->Pq):Rk β:=λv S0 d S=>∀L:Nat->Option Ob,(∀n o,S0.length<=n->S[n]?=some o->L n=some o)->P v L d
section
variable{S0 S S':Sto}{A:List Sl}{e:Lo}{F:Fz}{α β:Type}{enc:α->D}{ob:α->Ob}{i n:Nat}{P:Pq}{Pf Pg:β->Pq}{C:Ab}{x:Str}{v:α}{f:β}
theorem Vs.qAt(hs:Vs S0 A e F S)(h:A[i]?=some (.q P)):∃d,e[i]?=some (some d)/\P (loF F) d:=by
 obtain⟨x,h1,d,rfl,h2⟩:=hs.sl i _ h;exact⟨d,h1,h2 _ λn o q=>fU q⟩
theorem nD(hc:AtV P C x (enc v))(h:A[i]?=some (.q P)):VE A (D0 C x (AD i)) (rV enc) (some v):=λ_ hv S0 e F S hs=>by
 cases hv;obtain⟨d,h1,h2⟩:=Vs.qAt hs h;obtain⟨q,fs,rfl,h3,h4⟩:=hc _ _ h2;exact⟨_,S,KS (Mf h1) (hs.fz _ _ (M4 h3)) h4,Keeps.refl S,rfl⟩
theorem Gv(hc:AtO P C x (ob v))(h:A[i]?=some (.q P)):VE A (D0 C x (AD i)) (rO ob) (some v):=λ_ hv S0 e F S hs=>by
 cases hv;obtain⟨d,h1,h2⟩:=Vs.qAt hs h;obtain⟨q,fs,n,rfl,h3,h4,h5⟩:=hc _ _ h2;exact⟨_,S,KS (Mf h1) (hs.fz _ _ (M4 h3)) h4,Keeps.refl S,n,rfl,hs.fz _ _ (M4 h5)⟩
theorem mj(hc:AtO P C x (oL enc l))(h:A[i]?=some (.q P)):VI A (D1 (D0 C x (AD i))) enc (some l):=λ_ hv S0 e F S hs=>by
 cases hv;obtain⟨d,h1,h2⟩:=Vs.qAt hs h;obtain⟨q,fs,n,rfl,h3,h4,h5⟩:=hc _ _ h2;have h6:=M4 h5;have hn:=hs.fz _ _ h6;exact⟨_,S,Ky (n:=n) (KS (Mf h1) (hs.fz _ _ (M4 h3)) h4) hn,Keeps.refl S,λF2 S2 hF h=>ED (h n _ (hF _ _ (by rw[Fy (BW hn)];exact h6)))⟩
theorem i5(hc:AtO P C x (oL enc l))(h:A[i]?=some (.q P)):VI A (M5 (D0 C x (AD i))) (eP D.int enc) (some (De l)):=λ_ hv S0 e F S hs=>by
 cases hv;obtain⟨d,h1,h2⟩:=Vs.qAt hs h;obtain⟨q,fs,n,rfl,h3,h4,h5⟩:=hc _ _ h2;have h6:=M4 h5;have hn:=hs.fz _ _ h6;refine⟨Qh (Fm (.ref n)),S,?_,Keeps.refl S,λF2 S2 hF h=>?_⟩
 ·unfold M5
  rw[KS (C:=C) (f:=x) (Mf (S:=S) h1) (hs.fz _ _ (M4 h3)) h4];dsimp only[Res.bind];rw[ED hn]
 ·unfold Qh
  rw[ED (h n _ (hF _ _ (by rw[Fy (BW hn)];exact h6)))];exact congrArg some (Uk l)
theorem dZ(hp:∀L d,Pf f L d->Pg f L d)(h:A[i]?=some (.q (Pf f)))(hl:VA A ml q ar):VA A (AM (AD i) ml) (q.bind λy=>some (f,y)) (λz=>.q (Pg z.1) :: ar z.2):=λv hv S0 e F S hs=>by
 obtain⟨y,h2,h3⟩:=BC hv;cases h3;obtain⟨x,h4,d,rfl,h5⟩:=hs.sl i _ h;obtain⟨ds,S2,h6,h7,h8⟩:=hl y h2 S0 e F S hs;exact⟨_,S2,C0 (Mf h4) h6,h7,λL hL=>hp _ _ (h5 L λn o q=>hL n o (h7.at (hs.fz _ _ q))),h8⟩
theorem On(hc:AtN (Pf f) C m)(hp:∀L d,Pf f L d->Pg f L d)(h:A[i]?=some (.q (Pf f)))(ha:VA A ml p ar)(hf:∀z,VF g (.q (Pg f) :: ar z) R (q z))(hn:∀z,(ar z).length+1=n)
  (hR:∀v S S1 d S',S.length<=S1.length->R v S1 d S'->R v S d S'):VE A (M1 C m n g (AD i) ml) R (p.bind q):=λv hv S0 e F S hs=>by
 obtain⟨z,h1,h2⟩:=BC hv;obtain⟨x,h4,d,rfl,h5⟩:=hs.sl i _ h;obtain⟨k,fs,rfl,h6,h7⟩:=hc _ _ (h5 (loF F) λn o q=>fU q);obtain⟨ds,S2,q1,q2,q3⟩:=ha z h1 S0 e F S hs;obtain⟨d,S3,r1,r2,r3⟩:=hf z v h2 S2 (.ref k :: ds) ⟨λL hL=>hp _ _ (h5 L λn o q=>hL n o (q2.at (hs.fz _ _ q))),q3⟩;refine⟨d,S3,?_,q2.trans r2,hR _ _ _ _ _ q2.1 r3⟩;unfold M1;rw[Mf h4];dsimp only[Res.bind];rw[hs.fz _ _ (M4 h6)];dsimp only;rw[qX ⟨rfl,h7⟩,q1];dsimp only;rw[qX (by rw[q3.len];exact hn z)];exact r1
theorem Zi(h:VE A m (rQ Pf) p):VS A (CT i m) R (p.bind λv=>some (.nx v)) (λv=>A.set i (.q (Pf v))):=λf hf S0 e F S hs=>by
 obtain⟨v,h1,h2⟩:=BC hf;cases h2;obtain⟨d,S',h3,h4,h5⟩:=h v h1 S0 e F S hs;exact⟨_,S',Mi h3,_,_,rfl,(hs.grow h4).set (a:=.q (Pf v)) (x:=some d) i ⟨d,rfl,λL hL=>h5 L λn o hn ho=>hL n o (Sx hn ho)⟩,hs.fle S'⟩
end
def kR(r:ZLi):List Key:=r.map Dd
def oDR(enc:α->D)(l:List (ZLi×α)):Ob:=.dT (l.map λx=>(kR x.1,enc x.2))
theorem fj(x y:ZLi)(h:kR x=kR y):x=y:=by
 have:∀r:ZLi,(kR r).map (λk:Key=>match k with | .inl i=>i | .inr _=>0)=r:=λr=>by
  unfold kR;rw[BP]
  conv=>rhs;rw[<-Rp r]
  rfl
 rw[<-this x,h,this y]
theorem mD(r:ZLi):N6 (r.map D.int)=some (kR r):=by
 induction r with
 | nil=>rfl
 | cons x r ih=>
  rw[BG];unfold N6;rw[ih];rfl
section
variable{S0 S S':Sto}{A:List Sl}{e:Lo}{F:Fz}{α:Type}{enc:α->D}{a b m:ME}
theorem mI(h:S[n]?=some (oDR enc l))(k:ZLi):MP (.ref n) (eT D.int k) S=some ((Ai l k).map enc):=by
 unfold MP;dsimp only;rw[h];show(match N6 (k.map D.int)with | some ks=>some (Ai (l.map λx:ZLi×α=>(kR x.1,enc x.2)) ks) | none=>none)=_;rw[mD];dsimp only;rw[Oq fj]
theorem rc(h:S[n]?=some (oDR enc l)):Ga (.ref n) S=none:=by unfold Ga;dsimp only;rw[h];rfl
theorem dR:VE A M2 (rN (oDR enc)) (some []):=λv hv S0 e F S hs=>by cases hv;exact⟨_,_,rfl,Keeps.app _ _,_,rfl,AL _,Ed _ _⟩
theorem Op(ha:VE A a (rO (oDR enc)) pl)(hb:VE A b (rV (eT D.int)) pk):VE A (m2 ixA a b) (rV enc) (pl.bind λl=>pk.bind λx=>Ai l x):=Rz ha hb λl x z S n hn q=>OU (rc hn) (by rw[mI hn x,q];rfl)
theorem dP(ha:VE A a (rV (eT D.int)) pk)(hb:VE A b (rO (oDR enc)) pl):VE A (m2 (inA true) a b) (rV D.bl) (pk.bind λx=>pl.bind λl=>some (!(Ai l x).isSome)):=Py ha hb λx l z S n hn q=>by cases q;rw[QR (rc hn) (mI hn x)];simp
theorem gh(l:List (ZLi×α))(k:ZLi)(v:α)(S:Sto)(n:Nat)(hn:S[n]?=some (oDR enc l))(hl:l.length < 1000000):QS (.ref n) (eT D.int k) (enc v) S=some (S.set n (oDR enc (CG l k v))):=by
 unfold QS;dsimp only;rw[hn];show(match N6 (k.map D.int)with | some ks=>if (l.map _).length < sizeLine then some (S.set n (Ob.dT (CG (l.map λx:ZLi×α=>(kR x.1,enc x.2)) ks (enc v))))else none | none=>none)=_;rw[mD];dsimp only;rw[qX (by rw[AF];exact Y6 hl),O3 fj];rfl
theorem dC(hi:A[i]?=some (.w i (oDR enc l)))(hk:VE A b (rV (eT D.int)) pk)(h:VE A m (rV enc) p)(ht:((A.set i .u).all (Sl.oth i))=true) :
  VS A (Cv (AD i) b m) R (p.bind λv=>pk.bind λk=>(Gy l k v).bind λl'=>some (.nx l')) (λl'=>A.set i (.w i (oDR enc l'))):=VN gh hi hk h ht
theorem jD(ha:VE A a (rV D.int) p):VE A (Z7 a) (rV D.int) (p.bind λx=>some (Dp x:Int)):=λv hv S0 e F S hs=>by
 obtain⟨x,h1,h2⟩:=BC hv;cases h2;obtain⟨d,S',h3,h4,rfl⟩:=ha x h1 S0 e F S hs;refine⟨_,S',?_,h4,rfl⟩;unfold Z7;rw[h3];rfl
theorem bF(ha:VE A a (rO (oDK enc)) pl):VE A (Ds a) (rN (oL D.int)) (pl.bind λl=>some (B2 (l.map (·.1)))):=λv hv S0 e F S hs=>by
 obtain⟨l,h1,h2⟩:=BC hv;cases h2;obtain⟨d,S',h3,h4,n,rfl,hn⟩:=ha l h1 S0 e F S hs;refine⟨_,_,JK h3 (d:=.ref n) (ds:=(l.map (·.1)).map D.int) ?_ (es:=(B2 (l.map (·.1))).map D.int) ?_,h4.trans (Keeps.app _ _),_,rfl,h4.1,Ed _ _⟩
 ·unfold KP
  dsimp only;rw[hn];show some ((l.map _).map _)=_;rw[BP,BP];rfl
 ·unfold Kr
  rw[Jd]
theorem i6(ha:VE A a (rV eF) pl):VE A (Xg a) (rV D.int) (pl.bind λl=>some (Ow l)):=λv hv S0 e F S hs=>by
 obtain⟨l,h1,h2⟩:=BC hv;cases h2;obtain⟨d,S',h3,h4,rfl⟩:=ha l h1 S0 e F S hs;refine⟨_,S',?_,h4,rfl⟩;unfold Xg;rw[h3];dsimp only[Res.bind];rw[show No (eF l) S'=some (l.map D.int)from rfl];dsimp only;rw[Jd]
def Z0(l:ZLi)(lo hi st:Option Int):Option ZLi:=if st=some 0 then none else some (pickG l lo hi st)
theorem dH(ha:VE A a (rV eF) pl)(hl:VO A mlo po)(hh:VO A mhi ph)(vp:VO A mst ps):VE A (RX a mlo mhi mst) (rN (oL D.int)) (pl.bind λl=>po.bind λx=>ph.bind λy=>ps.bind λz=>Z0 l x y z):=λv hv S0 e F S hs=>by
 obtain⟨l,h1,hv⟩:=BC hv;obtain⟨x,h2,hv⟩:=BC hv;obtain⟨y,h3,hv⟩:=BC hv;obtain⟨z,h4,hv⟩:=BC hv;unfold Z0 at hv;split at hv
 ·cases hv
 ·rename_i hz
  cases hv;obtain⟨d,S1,q1,k1,rfl⟩:=ha l h1 S0 e F S hs;obtain⟨S2,q2,k2⟩:=hl x h2 S0 e _ S1 (hs.grow k1);obtain⟨S3,q3,k3⟩:=hh y h3 S0 e _ S2 ((hs.grow k1).grow k2);obtain⟨S4,q4,k4⟩:=vp z h4 S0 e _ S3 (((hs.grow k1).grow k2).grow k3);have k:=((k1.trans k2).trans k3).trans k4;refine⟨_,S4++[oL D.int (pickG l x y z)],?_,k.trans (Keeps.app _ _),S4.length,rfl,k.1,Ed _ _⟩;unfold RX;rw[q1];dsimp only[Res.bind];rw[q2];dsimp only;rw[q3];dsimp only;rw[q4];dsimp only;rw[show No (eF l) S4=some (l.map D.int)from rfl];dsimp only;rw[qY hz,bm];rfl
theorem iw(h:VE A m (rV (eP ea eb)) p):VS A (bZ m (Io 2 (DE (tgN i) (DE (tgN j) JO)))) R (p.bind λv=>some (.nx v)) (λv=>(A.set i (.v (ea v.1))).set j (.v (eb v.2))):=λf hf S0 e F S hs=>by
 obtain⟨v,h1,h2⟩:=BC hf;cases h2;obtain⟨d,S',h3,h4,rfl⟩:=h v h1 S0 e F S hs;refine⟨_,S',?_,_,_,rfl,((hs.grow h4).set (a:=.v (ea v.1)) i rfl).set (a:=.v (eb v.2)) j rfl,hs.fle S'⟩;unfold bZ;rw[h3];rfl
theorem dW(ha:VE A a (rV ea) p)(hb:VE A b (rV (eP eb ec)) q):VE A (m2 GB (Hi (AM a BI)) b) (rV (eP3 ea eb ec)) (p.bind λx=>q.bind λy=>some (x,y)):=λv hv S0 e F S hs=>by
 obtain⟨x,h1,hv⟩:=BC hv;obtain⟨y,h2,h3⟩:=BC hv;cases h3;obtain⟨d1,S1,q1,k1,rfl⟩:=ha x h1 S0 e F S hs;obtain⟨d2,S2,q2,k2,rfl⟩:=hb y h2 S0 e _ S1 (hs.grow k1);exact⟨_,S2,Em (Yc (C0 q1 rfl) (Nat.le_of_ble_eq_true rfl)) q2 rfl,k1.trans k2,rfl⟩
end
end L4
namespace L2
open PySem PySem.Spec PyProof.Rows
section
variable{P:Bs}{w:CV}{K:AG}{mg:Str->Option AJ}{base:DT}
theorem Ba{x qual}{st}{f}{fd}{N ps}{k n}(F:Fun K x qual st f fd)(Sc:Bg N ps (BE st))(hn:ps.length=n){mb}
  (vf:∀(uq:AJ) (A:Cj) (outer:List Env) (s:AS) (H:Hp) (E:XK),Hj k (A.deeper (N9 qual (BE st) s.heap.objs.size f uq))->(A.deeper (N9 qual (BE st) s.heap.objs.size f uq)).units+64 < FX->N.Nodup ->
   GSs (ZL (CXG P w) P w K mg base N qual (BE st) f uq A outer s H E).q noE (JD st) mb) :
  DC P w K mg base (CXG P w) (k+1) f fd ps (spM K n (EK N.length mb)):=kt F Sc hn λuq A outer s H E hr=>vf uq A outer s H E hr hr.units Sc.nd
end
end L2
namespace M
open PySem PySem.Spec PyProof.Rows L2
def top(i:Nat):DS:=mT.main.body.getD i (.Pass ⟨0,0,0,0⟩)
structure Wd where
 Web:Ab
 Field:Ab
def Wd.excs(W:Wd):List Ab:=[]
abbrev JR:DS:=top 11
abbrev JP:DS:=top 12
abbrev OJ:DS:=Lj (top 10) 0
abbrev HD:DS:=top 13
abbrev Yp:DS:=top 14
abbrev OH:DS:=top 16
abbrev P8:DS:=top 17
abbrev P6:DS:=top 18
abbrev SJ:DS:=top 19
abbrev Yq:DS:=top 20
abbrev Mj:DS:=top 22
abbrev P5:DS:=top 24
abbrev Hv:DS:=top 27
abbrev OI:DS:=top 28
abbrev Ml:DS:=top 29
abbrev FM:DS:=Lj (top 31) 3
abbrev FO:DS:=Lj (top 31) 4
abbrev LV:DS:=Lj (top 31) 0
abbrev KN:DS:=Lj (top 31) 1
abbrev JU:DS:=Lj (top 31) 2
abbrev JV:DS:=Lj (top 31) 5
abbrev KL:DS:=top 33
abbrev SK:DS:=top 32
abbrev JQ:DS:=top 34
abbrev P7:DS:=top 35
abbrev Vm:DS:=top 36
abbrev JS:DS:=top 38
abbrev LR:DS:=top 39
abbrev HE:DS:=top 40
abbrev Mm:DS:=top 41
abbrev KM:DS:=top 42
abbrev Mo:DS:=top 43
abbrev Mn:DS:=top 44
abbrev JT:DS:=top 45
abbrev LQ:DS:=top 46
abbrev LS:DS:=top 47
abbrev LU:DS:=top 48
abbrev Zs:DS:=top 49
def TD(W:Wd):MS:=
  (BJ (CT 2 M2)
  (BJ (FF (D1 (AD 1)) (Io 2 (DE (tgN 3) (DE (tgN 4) JO)))
  (BJ (CT 5 (Hi (AM (mQ N4 (AM (AD 3) (AM (AD 4) BI))) (AM (mQ Qk (AM (AD 3) (AM (AD 4) BI))) BI))))
  (BJ (sIf (mB (m2 (eqD false) (m2 ixA (AD 5) (mC (.int 0))) (m2 ixA (AD 5) (mC (.int 1))))) SL sNx)
  (BJ (sIf (mOr (mB (m2 ltD (m2 ixA (AD 5) (mC (.int 0))) (mC (.int 0)))) (mB (m2 geD (m2 ixA (AD 5) (mC (.int 1))) (AD 0)))) SL sNx)
  (BJ (sIf (mB (m2 (inA false) (AD 5) (AD 2))) SL sNx)
  (Cv (AD 2) (AD 5) (mC (.bl true))))))))
  (DL (Gz (Ds (AD 2))))))
def HW(W:Wd):List D->Sto->Res D:=EK 6 (TD W)
def NK(W:Wd):MS:=
  (BJ (CT 2 (Db (Dt 1 (iR1 (AM (AD 0) BI)) (tgN 0) Gr (Db (Dy BI)))))
  (BJ (FF (D1 (AD 1)) (Io 2 (DE (tgN 3) (DE (tgN 4) JO)))
  (BJ (IU (RA (m2 ixA (AD 2) (AD 3)) (AD 4)))
  (IU (RA (m2 ixA (AD 2) (AD 4)) (AD 3)))))
  (DL (Gz (Db (Dt 1 (D1 (AD 2)) (tgN 0) Gr (Gz (Ds (AD 0)))))))))
def HV(W:Wd):List D->Sto->Res D:=EK 5 (NK W)
def TF(W:Wd):MS:=
  (BJ (sIf (PF (mB (m3 leD leD (mC (.int 1)) (AD 1) (mC (.int 60))))) SL sNx)
  (BJ (J2 W.Web "places" (AD 0) (AD 1))
  (BJ (J2 W.Web "ties" (AD 0) (CP 2 (HW W) (AM (AD 1) (AM (AD 2) BI))))
  (J2 W.Web "near_sets" (AD 0) (CP 2 (HV W) (AM (AD 1) (AM (D0 W.Web "ties" (AD 0)) BI)))))))
def Lq(W:Wd):List D->Sto->Res D:=EK 3 (TF W)
def Ha(W:Wd):MS:=
  (sIf (PF (mB (m3 leD ltD (mC (.int 0)) (AD 1) (D0 W.Web "places" (AD 0))))) SL sNx)
def HU(W:Wd):List D->Sto->Res D:=EK 2 (Ha W)
def ZP(W:Wd):MS:=
  (BJ (IU (CP 2 (HU W) (AM (AD 0) (AM (AD 1) BI))))
  (DL (m2 ixA (D0 W.Web "near_sets" (AD 0)) (AD 1))))
def ZJ(W:Wd):List D->Sto->Res D:=EK 2 (ZP W)
def OV(W:Wd):MS:=
  (DL (Db (Dt 1 (iR1 (AM (D0 W.Web "places" (AD 0)) BI)) (tgN 0) Gr (Gz (Ds (m2 GB (Hi (AM (AD 0) BI)) (CP 2 (ZJ W) (AM (AD 1) (AM (AD 0) BI)))))))))
def Ll(W:Wd):List D->Sto->Res D:=EK 1 (OV W)
def QW(W:Wd):MS:=
  (BJ (CT 1 (mC (.int 0)))
  (BJ (FF (D1 (AD 0)) (tgN 2)
  (SM 1 (λa b=>Cn a b) (m2 Qv (mC (.int 1)) (AD 2))))
  (DL (AD 1))))
def QP(W:Wd):List D->Sto->Res D:=EK 3 (QW W)
def QU(W:Wd):MS:=
  (BJ (CT 1 (Db (Dy BI)))
  (BJ (CT 2 (AD 0))
  (BJ (Ih (Fx (AD 2)) (BJ (IU (RA (AD 1) (m2 P2 (Z7 (m2 TK (AD 2) (Y4 (AD 2)))) (mC (.int 1)))))
  (SM 2 (λa b=>Bh a b) (m2 P2 (AD 2) (mC (.int 1))))) wN)
  (DL (AD 1)))))
def Nf(W:Wd):List D->Sto->Res D:=EK 3 (QU W)
def Xy(W:Wd)(fr:List D->Sto->Res D):MS:=
  (BJ (CT 5 (Db (Dt 1 (D1 (m2 ixA (AD 0) (AD 3))) (tgN 0) (RB (Fx (m2 TK (m2 XA (AD 2) (AD 0)) (mC (.int 1)))) (mB (m2 (inA true) (AD 0) (AD 5)))) (AD 0))))
  (BJ (FF (D1 (AD 5)) (tgN 6)
  (sIf (mB (m2 (inA true) (AD 6) (AD 2))) (BJ (Cv (AD 2) (AD 6) (AD 3))
  (DL (mC (.bl true)))) sNx))
  (BJ (FF (D1 (AD 5)) (tgN 6)
  (sIf (mB (m2 (inA true) (AD 6) (AD 4))) (BJ (Cv (AD 4) (AD 6) (mC (.bl true)))
  (sIf (Fx (CP 5 fr (AM (AD 0) (AM (AD 1) (AM (AD 2) (AM (m2 ixA (AD 2) (AD 6)) (AM (AD 4) BI))))))) (BJ (Cv (AD 2) (AD 6) (AD 3))
  (DL (mC (.bl true)))) sNx)) sNx))
  (DL (mC (.bl false))))))
def Gq(W:Wd):Nat->List D->Sto->Res D
 | 0=>λ_ _=>.bad
 | n+1=>EK 7 (Xy W (Gq W n))
def ZQ(W:Wd):MS:=
  (BJ (CT 3 Jc)
  (BJ (FF (D1 (AD 1)) (tgN 4)
  (sIf (Fx (m2 TK (m2 XA (AD 2) (AD 4)) (mC (.int 1)))) (Cv (AD 3) (AD 4) (AD 4)) sNx))
  (BJ (FF (D1 (AD 1)) (tgN 4)
  (sIf (RB (PF (Fx (m2 TK (m2 XA (AD 2) (AD 4)) (mC (.int 1))))) (PF (Fx (CP 5 (Gq W 9) (AM (AD 0) (AM (AD 2) (AM (AD 3) (AM (AD 4) (AM Jc BI))))))))) (DL (mC (.bl false))) sNx))
  (DL (mC (.bl true))))))
def WC(W:Wd):List D->Sto->Res D:=EK 5 (ZQ W)
def NI(W:Wd):MS:=
  (DL (Gz (Db (Dt 1 (D1 (AD 0)) (tgN 0) Gr (Xi (mB (m2 (eqD false) (AD 0) (AD 2))) (AD 3) (AD 0))))))
def NB(W:Wd):List D->Sto->Res D:=EK 3 (NI W)
def QT(W:Wd):MS:=
  (BJ (CT 2 (Db (Dy (AM (Hi BI) BI))))
  (BJ (FF (iR1 (AM (AD 1) BI)) (tgN 3)
  (BJ (CT 4 (Db (Dy BI)))
  (BJ (FF (D1 (AD 2)) (tgN 5)
  (BJ (CT 6 (Xi (Fx (AD 5)) (m2 GB (m2 ixA (AD 5) (Y4 (mC (.int 1)))) (mC (.int 1))) (mC (.int 0))))
  (FF (iR2 (AM (AD 6) (AM (m2 GB (m2 GB (m2 P2 (AD 0) (AD 1)) (AD 3)) (mC (.int 1))) BI))) (tgN 7)
  (IU (RA (AD 4) (m2 GB (AD 5) (Hi (AM (AD 7) BI))))))))
  (CT 2 (AD 4)))))
  (DL (AD 2))))
def QN(W:Wd):List D->Sto->Res D:=EK 8 (QT W)
def IB(W:Wd):MS:=
  (BJ (CT 2 (mC (.int 1)))
  (BJ (FF (iR1 (AM (AD 1) BI)) (tgN 3)
  (CT 2 (m2 PY (m2 kJ (AD 2) (m2 P2 (AD 0) (AD 3))) (m2 GB (AD 3) (mC (.int 1))))))
  (DL (AD 2))))
def IA(W:Wd):List D->Sto->Res D:=EK 4 (IB W)
def OW(W:Wd):MS:=
  (BJ (sIf (PF (mB (m3 leD leD (mC (.int 1)) (AD 1) (D0 W.Web "places" (AD 0))))) SL sNx)
  (DL (CP 2 (IA W) (AM (D0 W.Web "places" (AD 0)) (AM (AD 1) BI)))))
def OS(W:Wd):List D->Sto->Res D:=EK 2 (OW W)
def NJ(W:Wd):MS:=
  (BJ (sIf (mB (m2 gtD (CP 2 (OS W) (AM (AD 0) (AM (AD 1) BI))) (mC (.int 400)))) SL sNx)
  (DL (CP 2 (QN W) (AM (D0 W.Web "places" (AD 0)) (AM (AD 1) BI)))))
def KA(W:Wd):List D->Sto->Res D:=EK 2 (NJ W)
def FQ(W:Wd):MS:=
  (BJ (CT 2 (m2 ixA (D0 W.Field "everything" (AD 0)) (AD 1)))
  (BJ (CT 3 (mC (.int 0)))
  (BJ (FF (D1 (AD 2)) (tgN 4)
  (FF (D1 (m2 ixA (D0 W.Field "takes" (AD 0)) (AD 4))) (tgN 5)
  (sIf (mB (m2 (inA true) (AD 5) (AD 2))) (SM 3 (λa b=>Cn a b) (m2 Qv (mC (.int 1)) (m2 ixA (D0 W.Field "numbers" (AD 0)) (Gz (Ds (CP 3 (NB W) (AM (AD 2) (AM (AD 4) (AM (AD 5) BI))))))))) sNx)))
  (DL (AD 3)))))
def DX(W:Wd):List D->Sto->Res D:=EK 6 (FQ W)
def FR(W:Wd):MS:=
  (BJ (CT 2 (m2 ixA (D0 W.Field "everything" (AD 0)) (AD 1)))
  (BJ (CT 3 (mC (.int 0)))
  (BJ (FF (M5 (D0 W.Field "place_bits" (AD 0))) (Io 2 (DE (tgN 4) (DE (tgN 5) JO)))
  (sIf (Fx (CP 3 (WC W) (AM (D0 W.Field "takes" (AD 0)) (AM (AD 2) (AM (AD 5) BI))))) (SM 3 (λa b=>Cn a b) (m2 Qv (mC (.int 1)) (AD 4))) sNx))
  (DL (AD 3)))))
def DY(W:Wd):List D->Sto->Res D:=EK 6 (FR W)
def Pc(W:Wd):MS:=
  (BJ (J2 W.Field "everything" (AD 0) (CP 2 (KA W) (AM (AD 1) (AM (AD 2) BI))))
  (BJ (J2 W.Field "kind" (AD 0) (AD 3))
  (BJ (J2 W.Field "takes" (AD 0) (CP 1 (Ll W) (AM (AD 1) BI)))
  (BJ (J2 W.Field "numbers" (AD 0) M2)
  (BJ (J2 W.Field "having" (AD 0) (Db (Dt 1 (iR1 (AM (D0 W.Web "places" (AD 1)) BI)) (tgN 0) Gr (mC (.int 0)))))
  (BJ (FF (M5 (D0 W.Field "everything" (AD 0))) (Io 2 (DE (tgN 4) (DE (tgN 5) JO)))
  (BJ (Cv (D0 W.Field "numbers" (AD 0)) (AD 5) (AD 4))
  (FF (D1 (AD 5)) (tgN 6)
  (XH (λa b=>Cn a b) (D0 W.Field "having" (AD 0)) (AD 6) (m2 Qv (mC (.int 1)) (AD 4))))))
  (BJ (J2 W.Field "place_bits" (AD 0) (Db (Dt 1 (D1 (D0 W.Field "everything" (AD 0))) (tgN 0) Gr (CP 1 (QP W) (AM (AD 0) BI)))))
  (J2 W.Field "known" (AD 0) Jc))))))))
def KY(W:Wd):List D->Sto->Res D:=EK 7 (Pc W)
def LM(W:Wd)(ds:List D)(S:Sto)(k:Key):Int:=match ds,k with
 | .ref q :: _,.inl n=>lmI (if pp "kind" q S=some ("one" : Str)then DX W [.ref q,.int n] S else DY W [.ref q,.int n] S)
 | _,_=>0
def GP(W:Wd):List D->Sto->Res D:=kL "known" (LM W) (KY W)
def Kd(W:Wd):MS:=
  (BJ (CT 2 (m2 ixA (D0 W.Field "everything" (AD 0)) (AD 1)))
  (DL (Db (Dt 1 (iR1 (AM (KO (D0 W.Field "takes" (AD 0))) BI)) (tgN 0) (mB (m2 (inA true) (AD 0) (AD 3))) (AD 0)))))
def KW(W:Wd):List D->Sto->Res D:=EK 3 (Kd W)
def Jn(W:Wd):MS:=
  (BJ (sIf (mB (m2 (inA true) (AD 1) (D0 W.Field "known" (AD 0)))) (Cv (D0 W.Field "known" (AD 0)) (AD 1) (Xi (mB (m2 (eqD false) (D0 W.Field "kind" (AD 0)) (mC (.str "one")))) (M1 W.Field "linked_by_one" 2 (DX W) (AD 0) (AM (AD 1) BI)) (M1 W.Field "linked_by_all" 2 (DY W) (AD 0) (AM (AD 1) BI)))) sNx)
  (DL (m2 ixA (D0 W.Field "known" (AD 0)) (AD 1))))
def Ij(W:Wd):List D->Sto->Res D:=EK 2 (Jn W)
def HZ(W:Wd):List D->Sto->Res D:=lQ "known" (Ij W)
def Jo(W:Wd):MS:=
  (DL (m2 TK (M1 W.Field "linked" 2 (HZ W) (AD 0) (AM (AD 1) BI)) (m2 ixA (D0 W.Field "having" (AD 0)) (AD 2))))
def Ji(W:Wd):List D->Sto->Res D:=EK 3 (Jo W)
def Kb(W:Wd):MS:=
  (BJ (CT 2 Jc)
  (BJ (FF (D1 (CP 1 (Nf W) (AM (AD 1) BI))) (tgN 3)
  (BJ (CT 4 (Db (Dt 1 (D1 (M1 W.Field "calls" 2 (KW W) (AD 0) (AM (AD 3) BI))) (tgN 0) (mB (m2 (eqD false) (m2 TK (M1 W.Field "behind" 3 (Ji W) (AD 1) (AM (AD 4) (AM (AD 0) BI))) (AD 2)) (mC (.int 0)))) (AD 0))))
  (sIf (Fx (AD 4)) (Cv (AD 2) (AD 3) (m2 ixA (AD 4) (mC (.int 0)))) sNx)))
  (DL (AD 2))))
def IQ(W:Wd):List D->Sto->Res D:=EK 5 (Kb W)
def TC(W:Wd):MS:=
  (BJ (CT 1 Jc)
  (BJ (CT 2 (m2 P2 (m2 Qv (mC (.int 1)) (KO (D0 W.Field "everything" (AD 0)))) (mC (.int 1))))
  (BJ (CT 3 (mC (.int 1)))
  (BJ (CT 4 (CP 2 (IQ W) (AM (AD 0) (AM (AD 2) BI))))
  (BJ (Ih (Fx (AD 4)) (BJ (BJ (sFz 4) (FF (aK (AD 4)) (tgN 5)
  (BJ (Cv (AD 1) (AD 5) (Hi (AM (AD 3) (AM (m2 ixA (AD 4) (AD 5)) BI))))
  (SM 2 (λa b=>Ew a b) (m2 Qv (mC (.int 1)) (AD 5))))))
  (BJ (SM 3 (λa b=>a+b) (mC (.int 1)))
  (CT 4 (CP 2 (IQ W) (AM (AD 0) (AM (AD 2) BI)))))) wN)
  (DL (AD 1)))))))
def PZ(W:Wd):List D->Sto->Res D:=EK 6 (TC W)
def Jk(W:Wd):MS:=
  (DL (Xg (Db (Dt 1 (iR1 (AM (KO (D0 W.Field "everything" (AD 0))) BI)) (tgN 0) (mB (m2 (inA true) (AD 0) (AD 2))) (m2 Qv (mC (.int 1)) (AD 0))))))
def Jh(W:Wd):List D->Sto->Res D:=EK 2 (Jk W)
def QV(W:Wd):MS:=
  (BJ (CT 3 (PH W.Field 4 (GP W) (AM (AD 0) (AM (AD 1) (AM (AD 2) BI)))))
  (DL (Db (Dt 1 (D1 (CP 1 (Nf W) (AM (CP 2 (Jh W) (AM (AD 3) (AM (CP 1 (PZ W) (AM (AD 3) BI)) BI))) BI))) (tgN 0) Gr (m2 ixA (D0 W.Field "everything" (AD 4)) (AD 0))))))
def QO(W:Wd):List D->Sto->Res D:=EK 4 (QV W)
def WL(W:Wd):MS:=
  (BJ (CT 3 (PH W.Field 4 (GP W) (AM (AD 0) (AM (AD 1) (AM (AD 2) BI)))))
  (BJ (CT 4 (CP 1 (PZ W) (AM (AD 3) BI)))
  (DL (Db (Dt 1 (D1 (Ds (AD 4))) (tgN 0) Gr (m2 GB (Hi (AM (m2 ixA (D0 W.Field "everything" (AD 4)) (AD 0)) BI)) (m2 ixA (AD 5) (AD 0))))))))
def WD(W:Wd):List D->Sto->Res D:=EK 5 (WL W)
def Jl(W:Wd):MS:=
  (BJ (sIf (mB (m2 ltD (AD 1) (KO (AD 0)))) (DL (m2 ixA (AD 0) (AD 1))) sNx)
  (DL (mC (.int 0))))
def EM(W:Wd):List D->Sto->Res D:=EK 2 (Jl W)
def Lw(W:Wd):MS:=
  (BJ (CT 1 (Db (Dy BI)))
  (BJ (FF (iR1 (AM (AD 0) BI)) (tgN 2)
  (FF (iR2 (AM (m2 GB (AD 2) (mC (.int 1))) (AM (AD 0) BI))) (tgN 3)
  (IU (RA (AD 1) (Hi (AM (AD 2) (AM (AD 3) BI)))))))
  (DL (AD 1))))
def JC(W:Wd):List D->Sto->Res D:=EK 4 (Lw W)
def Hd(W:Wd):MS:=
  (BJ (sIf (mB (m2 (eqD false) (AD 1) (mC (.int 1)))) (DL (Db (Dt 1 (iR1 (AM (m2 P2 (AD 0) (mC (.int 1))) BI)) (tgN 0) Gr (Hi (AM (AD 0) (AM (m2 GB (AD 0) (mC (.int 1))) BI)))))) sNx)
  (BJ (sIf (mB (m2 (eqD false) (AD 1) (mC (.int 2)))) (DL (m2 GB (Db (Dt 1 (iR1 (AM (m2 P2 (AD 0) (mC (.int 1))) BI)) (tgN 0) Gr (Hi (AM (AD 0) (AM (m2 GB (AD 0) (mC (.int 1))) BI))))) (Db (Dy (AM (Hi (AM (mC (.int 0)) (AM (m2 P2 (AD 0) (mC (.int 1))) BI))) BI))))) sNx)
  (BJ (sIf (mB (m2 (eqD false) (AD 1) (mC (.int 3)))) (DL (CP 1 (JC W) (AM (AD 0) BI))) sNx)
  (BJ (sIf (mB (m2 (eqD false) (AD 1) (mC (.int 4)))) (DL (Db (Dt 1 (iR2 (AM (mC (.int 1)) (AM (AD 0) BI))) (tgN 0) Gr (Hi (AM (mC (.int 0)) (AM (AD 0) BI)))))) sNx)
  (DL (Db (Dy BI)))))))
def HX(W:Wd):List D->Sto->Res D:=EK 2 (Hd W)
def NM(W:Wd):MS:=
  (BJ (CT 3 (CP 1 (JC W) (AM (AD 2) BI)))
  (BJ (CT 4 M2)
  (BJ (FF (D1 (CP 2 (HX W) (AM (AD 2) (AM (m2 Nn (m2 PY (CP 2 (EM W) (AM (AD 0) (AM (mC (.int 0)) BI))) (mC (.int 7))) (mC (.int 6))) BI)))) (tgN 5)
  (Cv (AD 4) (AD 5) (mC (.bl true))))
  (BJ (FF (iR2 (AM (AD 1) (AM (mQ N4 (AM (KO (AD 0)) (AM (mC (.int 63)) BI))) BI))) (tgN 6)
  (BJ (CT 5 (m2 ixA (AD 3) (m2 Nn (m2 ixA (AD 0) (AD 6)) (KO (AD 3)))))
  (Cv (AD 4) (AD 5) (fQ (m2 (inA true) (AD 5) (AD 4)) (Z6 (m2 ixA (AD 4) (AD 5)))))))
  (DL (Db (Dt 1 (D1 (AD 3)) (tgN 0) (RB (mB (m2 (inA false) (AD 0) (AD 5))) (Fx (m2 ixA (AD 5) (AD 0)))) (AD 0))))))))
def NC(W:Wd):List D->Sto->Res D:=EK 7 (NM W)
def Kc(W:Wd):MS:=
  (BJ (sIf (mB (m2 (eqD false) (m2 Nn (m2 PY (CP 2 (EM W) (AM (AD 0) (AM (mC (.int 0)) BI))) (mC (.int 42))) (mC (.int 2))) (mC (.int 0)))) (DL (Db (mN aD (Xh (AD 1))))) sNx)
  (DL (Db (Dt 1 (aJ (AD 1)) (tgN 0) Gr (Hi (AM (m2 ixA (AD 0) (mC (.int 1))) (AM (m2 ixA (AD 0) (mC (.int 0))) BI)))))))
def KU(W:Wd):List D->Sto->Res D:=EK 2 (Kc W)
def NO(W:Wd):MS:=
  (BJ (CT 2 (Db (Dy BI)))
  (BJ (FF (D1 (AD 0)) (tgN 3)
  (sIf (mB (m2 (inA false) (AD 1) (AD 3))) (IU (RA (AD 2) (m2 P2 (m2 GB (m2 ixA (AD 3) (mC (.int 0))) (m2 ixA (AD 3) (mC (.int 1)))) (AD 1)))) sNx))
  (DL (Ds (AD 2)))))
def KB(W:Wd):List D->Sto->Res D:=EK 4 (NO W)
def NN(W:Wd):MS:=
  (BJ (CT 2 (Db (Dy (AM (Hi BI) BI))))
  (BJ (FF (iR1 (AM (AD 1) BI)) (tgN 3)
  (BJ (CT 4 (Db (Dy BI)))
  (BJ (FF (D1 (AD 2)) (tgN 5)
  (BJ (CT 6 (mC (.int 0)))
  (BJ (sIf (mB (m2 (eqD true) (AD 5) (Hi BI))) (CT 6 (m2 GB (m2 ixA (AD 5) (Y4 (mC (.int 1)))) (mC (.int 1)))) sNx)
  (IU (Nb (AD 4) (Db (Dt 1 (iR2 (AM (AD 6) (AM (m2 GB (m2 GB (m2 P2 (AD 0) (AD 1)) (AD 3)) (mC (.int 1))) BI))) (tgN 0) Gr (m2 GB (AD 6) (Hi (AM (AD 0) BI))))))))))
  (CT 2 (AD 4)))))
  (DL (AD 2))))
def ND(W:Wd):List D->Sto->Res D:=EK 7 (NN W)
def Jm(W:Wd):MS:=
  (BJ (sIf (mB (m2 (eqD false) (AD 3) (mC (.str "one")))) (BJ (CT 4 (Db (Dt 1 (iR1 (AM (KO (AD 1)) BI)) (tgN 0) (mB (m2 (inA false) (AD 3) (CP 2 (KB W) (AM (AD 1) (AM (m2 ixA (AD 2) (AD 0)) BI))))) (AD 0))))
  (DL (Ds (Db (Dt 1 (D1 (AD 4)) (tgN 0) Gr (m2 GB (m2 GB (PD (AD 2) XZ (Sa (AD 0))) (Hi (AM (AD 3) BI))) (PD (AD 2) (Sa (m2 GB (AD 0) (mC (.int 1)))) XZ))))))) sNx)
  (BJ (CT 5 (Db (Dy (AM (Hi BI) BI))))
  (BJ (FF (D1 (AD 1)) (tgN 6)
  (BJ (CT 7 (m2 GB (Db (Dy (AM (AD 6) BI))) (CP 2 (KB W) (AM (AD 0) (AM (AD 6) BI)))))
  (BJ (CT 8 (Db (Dy BI)))
  (BJ (FF (D1 (AD 5)) (tgN 9)
  (IU (Nb (AD 8) (Db (Dt 1 (D1 (AD 7)) (tgN 0) (mB (m2 (inA true) (AD 0) (AD 10))) (m2 GB (AD 10) (Hi (AM (AD 0) BI))))))))
  (CT 5 (AD 8))))))
  (DL (Ds (Db (Dt 1 (D1 (AD 5)) (tgN 0) (mB (m2 (inA false) (AD 3) (AD 0))) (AD 0))))))))
def HY(W:Wd):List D->Sto->Res D:=EK 10 (Jm W)
def Lv(W:Wd):MS:=
  (BJ (CT 3 (mQ N4 (AM (AD 2) (AM (mQ Qk (AM (mC (.int 0)) (AM (m2 P2 (KO (AD 0)) (AD 1)) BI))) BI))))
  (DL (Db (Dt 1 (iR1 (AM (AD 3) BI)) (tgN 0) Gr (Xg (RX (AD 1) (Sa (m2 GB (AD 2) (AD 0))) XZ (Sa (AD 3))))))))
def Lm(W:Wd):List D->Sto->Res D:=EK 4 (Lv W)
def Lx(W:Wd):MS:=
  (BJ (FF (D1 (AD 4)) (tgN 6)
  (BJ (CT 7 (Db (Dt 1 (iR1 (AM (AD 1) BI)) (tgN 0) (mB (m2 (inA true) (AD 0) (AD 4))) (AD 0))))
  (sIf (mB (m2 (eqD true) (AD 7) (Db (Dy BI)))) (BJ (CT 8 (CP 4 (HY W) (AM (AD 0) (AM (AD 3) (AM (m2 ixA (AD 7) (m2 Nn (AD 6) (KO (AD 7)))) (AM (AD 5) BI))))))
  (BJ (CT 9 (Db (Dt 1 (D1 (AD 8)) (tgN 0) (mB (m2 (inA false) (Gz (Ds (AD 0))) (AD 3))) (AD 0))))
  (BJ (sIf (mB (m2 (eqD false) (AD 9) (Db (Dy BI)))) (DL (mC (.bl false))) sNx)
  (CT 3 (Gz (Ds (m2 ixA (AD 9) (m2 Nn (m2 PY (AD 6) (mC (.int 7))) (KO (AD 9)))))))))) sNx)))
  (DL (mC (.bl true))))
def Ln(W:Wd):List D->Sto->Res D:=EK 10 (Lx W)
def Ly(W:Wd):MS:=
  (BJ (CT 5 M2)
  (BJ (FF (D1 (AD 1)) (Io 3 (DE (tgN 6) (DE (tgN 7) (DE (tgN 8) JO))))
  (Cv (AD 5) (AD 6) (Hi (AM (AD 7) (AM (AD 8) BI)))))
  (BJ (FF (iR1 (AM (m2 ixA (m2 ixA (AD 5) (AD 2)) (mC (.int 0))) BI)) (tgN 9)
  (BJ (bZ (m2 ixA (AD 5) (AD 2)) (Io 2 (DE (tgN 7) (DE (tgN 8) JO))))
  (BJ (CT 10 (CP 4 (HY W) (AM (AD 0) (AM (AD 2) (AM (AD 8) (AM (AD 4) BI))))))
  (BJ (sIf (mB (m2 (eqD false) (AD 10) (Db (Dy BI)))) (DL (mC (.bl true))) sNx)
  (BJ (CT 11 (m2 kJ (mC (.int 3)) (AD 9)))
  (BJ (sIf (mB (m2 (eqD true) (AD 3) (Db (Dy BI)))) (CT 11 (m2 ixA (AD 3) (m2 Nn (AD 9) (KO (AD 3))))) sNx)
  (BJ (CT 2 (Gz (Ds (m2 ixA (AD 10) (m2 Nn (AD 11) (KO (AD 10)))))))
  (sIf (mOr (mB (m2 (inA true) (AD 2) (AD 5))) (mB (m2 geD (m2 ixA (m2 ixA (AD 5) (AD 2)) (mC (.int 0))) (AD 7)))) (DL (mC (.bl false))) sNx))))))))
  (DL (mC (.bl false))))))
def Lp(W:Wd):List D->Sto->Res D:=EK 12 (Ly W)
def hV(W:Wd):MS:=
  (BJ (CT 1 (CP 2 (EM W) (AM (AD 0) (AM (mC (.int 0)) BI))))
  (BJ (CT 2 (m2 GB (m2 GB (mC (.int 2)) (m2 Nn (AD 1) (mC (.int 5)))) (fR (m2 (eqD false) (m2 Nn (m2 PY (AD 1) (mC (.int 84))) (mC (.int 8))) (mC (.int 1))))))
  (BJ (CT 3 (CP 3 (NC W) (AM (AD 0) (AM (mC (.int 3)) (AM (AD 2) BI)))))
  (BJ (CT 4 (PH W.Web 3 (Lq W) (AM (AD 2) (AM (CP 2 (KU W) (AM (AD 0) (AM (AD 3) BI))) BI))))
  (BJ (CT 5 (m2 GB (mC (.int 1)) (m2 Nn (CP 2 (EM W) (AM (AD 0) (AM (mC (.int 1)) BI))) (mQ N4 (AM (AD 2) (AM (m2 ixA (Db (Dy (AM (mC (.int 3)) (AM (mC (.int 5)) BI)))) (fR (m2 ltD (AD 2) (mC (.int 6))))) BI))))))
  (BJ (CT 6 (m2 ixA (Db (Dy (AM (mC (.str "one")) (AM (mC (.str "all")) BI)))) (m2 Nn (CP 2 (EM W) (AM (AD 0) (AM (mC (.int 2)) BI))) (mC (.int 2)))))
  (BJ (CT 7 (CP 2 (ND W) (AM (AD 2) (AM (AD 5) BI))))
  (BJ (CT 8 (CP 3 (QO W) (AM (AD 4) (AM (AD 5) (AM (AD 6) BI)))))
  (BJ (CT 9 (CP 3 (WD W) (AM (AD 4) (AM (AD 5) (AM (AD 6) BI)))))
  (BJ (CT 10 (CP 3 (Lm W) (AM (AD 0) (AM (mC (.int 0)) (AM (mC (.int 40)) BI)))))
  (BJ (FF (D1 (Db (Dy (AM (m2 ixA (AD 7) (m2 Nn (Xg (AD 0)) (KO (AD 7)))) (AM (m2 ixA (AD 7) (mC (.int 0))) (AM (m2 ixA (AD 7) (Y4 (mC (.int 1)))) BI)))))) (tgN 11)
  (sIf (mB (m2 (inA false) (AD 11) (AD 8))) (sIf (PF (Fx (CP 6 (Ln W) (AM (AD 3) (AM (AD 2) (AM (AD 8) (AM (AD 11) (AM (AD 10) (AM (AD 6) BI))))))))) (DL (mC (.bl false))) sNx) (sIf (PF (Fx (CP 5 (Lp W) (AM (AD 3) (AM (AD 9) (AM (AD 11) (AM (AD 10) (AM (AD 6) BI)))))))) (DL (mC (.bl false))) sNx)))
  (DL (mC (.bl true))))))))))))))
def aR(W:Wd):List D->Sto->Res D:=EK 12 (hV W)
set_option genInjectivity false in
structure Txt(K:AG)(mg:Str->Option AJ)(W:Wd) where
 d_checked_ties:Dfn K mg "checked_ties" "checked_ties" JR ["places", "ties"]
 d_near_sets_of:Dfn K mg "near_sets_of" "near_sets_of" JP ["places", "ties"]
 d_Web_init:Mtd K "__init__" "Web.__init__" OJ ["self", "places", "ties"]
 d_refuse_no_place:Dfn K mg "refuse_no_place" "refuse_no_place" HD ["web", "place"]
 d_near:Dfn K mg "near" "near" Yp ["web", "place"]
 d_takes_of:Dfn K mg "takes_of" "takes_of" OH ["web"]
 d_bits_of:Dfn K mg "bits_of" "bits_of" P8 ["some"]
 d_members:Dfn K mg "members" "members" P6 ["bits"]
 d_settle:Dfn K mg "settle" "settle" SJ ["takes", "bits", "holders", "guard", "seen"]
 d_fits:Dfn K mg "fits" "fits" Yq ["takes", "guards", "bits"]
 d_with_step:Dfn K mg "with_step" "with_step" Mj ["standing", "guard", "place"]
 d_sets_of:Dfn K mg "sets_of" "sets_of" P5 ["places", "size"]
 d_ways_to_choose:Dfn K mg "ways_to_choose" "ways_to_choose" Hv ["places", "size"]
 d_how_many:Dfn K mg "how_many" "how_many" OI ["web", "guards"]
 d_standings:Dfn K mg "standings" "standings" Ml ["web", "guards"]
 d_Field_linked_by_one:Mtd K "linked_by_one" "Field.linked_by_one" FM ["self", "number"]
 d_Field_linked_by_all:Mtd K "linked_by_all" "Field.linked_by_all" FO ["self", "number"]
 d_Field_init:Mtd K "__init__" "Field.__init__" LV ["self", "web", "guards", "kind"]
 d_Field_calls:Mtd K "calls" "Field.calls" KN ["self", "number"]
 d_Field_linked:Mtd K "linked" "Field.linked" JU ["self", "number"]
 d_Field_behind:Mtd K "behind" "Field.behind" JV ["self", "number", "call"]
 d_falling_now:Dfn K mg "falling_now" "falling_now" KL ["field", "left"]
 d_fallen:Dfn K mg "fallen" "fallen" SK ["field"]
 d_lasting_bits:Dfn K mg "lasting_bits" "lasting_bits" JQ ["field", "gone"]
 d_lasting:Dfn K mg "lasting" "lasting" P7 ["web", "guards", "kind"]
 d_falls:Dfn K mg "falls" "falls" Vm ["web", "guards", "kind"]
 d__law_cell_at:Dfn K mg "_law_cell_at" "_law_cell_at" JS ["script", "k"]
 d__law_pairs:Dfn K mg "_law_pairs" "_law_pairs" LR ["places"]
 d__law_first_ties:Dfn K mg "_law_first_ties" "_law_first_ties" HE ["places", "style"]
 d__law_ties:Dfn K mg "_law_ties" "_law_ties" Mm ["script", "first", "places"]
 d__law_handed:Dfn K mg "_law_handed" "_law_handed" KM ["script", "ties"]
 d__law_near:Dfn K mg "_law_near" "_law_near" Mo ["ties", "place"]
 d__law_sets:Dfn K mg "_law_sets" "_law_sets" Mn ["places", "guards"]
 d__law_answers:Dfn K mg "_law_answers" "_law_answers" JT ["ties", "standing", "call", "kind"]
 d__law_turns:Dfn K mg "_law_turns" "_law_turns" LQ ["script", "start", "most"]
 d__law_lasts:Dfn K mg "_law_lasts" "_law_lasts" LS ["ties", "places", "stay", "standing", "cells", "kind"]
 d__law_falls:Dfn K mg "_law_falls" "_law_falls" LU ["ties", "gone", "standing", "cells", "kind"]
 d_law:Dfn K mg "law" "law" Zs ["script"]
 c_Web:Own K mg "Web" W.Web d_Web_init.f
 n_Web_places:FS K W.Web "places"
 n_Web_ties:FS K W.Web "ties"
 n_Web_near_sets:FS K W.Web "near_sets"
 c_Field:Own K mg "Field" W.Field d_Field_init.f
 n_Field_everything:FS K W.Field "everything"
 n_Field_kind:FS K W.Field "kind"
 n_Field_takes:FS K W.Field "takes"
 n_Field_numbers:FS K W.Field "numbers"
 n_Field_having:FS K W.Field "having"
 n_Field_place_bits:FS K W.Field "place_bits"
 n_Field_known:FS K W.Field "known"
 m_Field_linked_by_one:WR K W.Field "linked_by_one" d_Field_linked_by_one.f
 m_Field_linked_by_all:WR K W.Field "linked_by_all" d_Field_linked_by_all.f
 m_Field_calls:WR K W.Field "calls" d_Field_calls.f
 m_Field_linked:WR K W.Field "linked" d_Field_linked.f
 m_Field_behind:WR K W.Field "behind" d_Field_behind.f
 b_enumerate:mg "enumerate" = none
 b_int:mg "int" = none
 b_len:mg "len" = none
 b_list:mg "list" = none
 b_max:mg "max" = none
 b_min:mg "min" = none
 b_range:mg "range" = none
 b_reversed:mg "reversed" = none
 b_sorted:mg "sorted" = none
 b_sum:mg "sum" = none
 b_tuple:mg "tuple" = none
 g_MOST_PLACES:∃tk,mg "MOST_PLACES" = some (.int 60 tk)
 g_MOST_STANDINGS:∃tk,mg "MOST_STANDINGS" = some (.int 400 tk)
section
variable{P:Bs}{w:CV}{K:AG}{mg:Str->Option AJ}{base:DT}{W:Wd}
theorem Qy:Bg ["places", "ties", "found", "one", "other", "tie"] ["places", "ties"] (BE JR):=FH
theorem Q6(T:Txt K mg W):DC P w K mg base (CXG P w) 1 T.d_checked_ties.f T.d_checked_ties.fd ["places", "ties"] (spM K 2 (HW W)):=by
 refine Ba (k:=0) T.d_checked_ties.F Qy rfl λ_ _ _ _ _ _ hr hu nd=>?_
 exact(AN (CC 2 nd PV)
  (AN (DF (good_none rfl).own rfl (DA (AA (pv 1))) (QK rfl (E0 (Br 3 nd) (E0 (Br 4 nd) Nd)))
  (AN (CC 5 nd (FB (AH (Rc rfl rfl T.b_min (AH (AA (pv 3)) (AH (AA (pv 4)) Al))) (AH (aM rfl rfl T.b_max (AH (AA (pv 3)) (AH (AA (pv 4)) Al))) Al))))
  (AN (D2 (Ec (Kv hu) (Cm hu (AA (pv 5)) ge_int) (Cm hu (AA (pv 5)) ge_int) (Eb _)) (Ac Jf) CL)
  (AN (D2 (gH (mG (Ec Z2 (Cm hu (AA (pv 5)) ge_int) ge_int (Eb _)) (gF (Ec lw (Cm hu (AA (pv 5)) ge_int) (AA (pv 0)) (Eb _))))) (Ac Jf) CL)
  (AN (D2 (Sr hu (AA (pv 5)) (AA (pv 2))) (Ac Jf) CL)
  (Ac (Gw (Ax (B1 (by decide:1<=64) _) hu) (AA (pv 2)) (AA (pv 5)) Ip rfl)))))))
  (Ac (Bp (HS rfl T.b_tuple (E1 rfl rfl T.b_sorted (AA (pv 2))))))))
theorem Qw:Bg ["places", "ties", "rows", "one", "other"] ["places", "ties"] (BE JP):=FH
theorem Q4(T:Txt K mg W):DC P w K mg base (CXG P w) 1 T.d_near_sets_of.f T.d_near_sets_of.fd ["places", "ties"] (spM K 2 (HV W)):=by
 refine Ba (k:=0) T.d_near_sets_of.F Qw rfl λ_ _ _ _ _ _ hr hu nd=>?_
 exact(AN (Nc (i:=2) (own:=["place"]) (N':=["place", "·1", "·2", "·3", "·4", "·5"]) rfl rfl nd rfl (by first | exact NQ rfl | exact L8 rfl) (DB (by kernel_rfl)) (Dc rfl T.b_range (AH (AA (pv 0)) Al)) (λ_ _ _ _ _ _=>(Br 0 (by decide +kernel:(["place", "·1", "·2", "·3", "·4", "·5"]:List Str).Nodup))) (λ_ _ _ _ _ _=>EL) (λ_ _ _ _ _ _=>(CM (Ez Al))))
  (AN (DF (good_none rfl).own rfl (DA (AA (pv 1))) (QK rfl (E0 (Br 3 nd) (E0 (Br 4 nd) Nd)))
  (AN (JB (JL (Cm hu (AA (pv 2)) (AA (pv 3))) (AA (pv 4))))
  (Ac (JB (JL (Cm hu (AA (pv 2)) (AA (pv 4))) (AA (pv 3)))))))
  (Ac (Bp (HS rfl T.b_tuple (CM (EA (own:=["row"]) (N':=["row", "·1", "·2", "·3", "·4", "·5"]) rfl (DB (by kernel_rfl)) (DA (AA (pv 2))) (λ_ _ _ _ _ _=>(Br 0 (by decide +kernel:(["row", "·1", "·2", "·3", "·4", "·5"]:List Str).Nodup))) (λ_ _ _ _ _ _=>EL) (λ_ _ _ _ _ _=>(HS rfl T.b_tuple (E1 rfl rfl T.b_sorted (AA (pv 0))))))))))))
theorem XF:Bg ["self", "places", "ties"] ["self", "places", "ties"] (BE OJ):=FH
theorem XW(T:Txt K mg W):DC P w K mg base (CXG P w) 2 T.d_Web_init.f T.d_Web_init.fd ["self", "places", "ties"] (spM K 3 (Lq W)):=by
 refine Ba (k:=1) T.d_Web_init.F XF rfl λ_ _ _ _ _ _ hr hu nd=>?_
 exact(AN (D2 (OR (Ss XY XY ge_int (AA (pv 1)) (Xr rfl T.g_MOST_PLACES.choose_spec))) (Ac Jf) CL)
  (AN (KQ T.c_Web.cl T.n_Web_places (AA (pv 0)) (AA (pv 1)) rfl)
  (AN (KQ T.c_Web.cl T.n_Web_ties (AA (pv 0)) (gcl T.d_checked_ties (Q6 T) hr (AH (AA (pv 1)) (AH (AA (pv 2)) Al))) rfl)
  (Ac (KQ T.c_Web.cl T.n_Web_near_sets (AA (pv 0)) (gcl T.d_near_sets_of (Q4 T) hr (AH (AA (pv 1)) (AH (DP T.c_Web.cl T.n_Web_ties (AA (pv 0)) rfl) Al))) rfl)))))
theorem OF:Bg ["web", "place"] ["web", "place"] (BE HD):=FH
theorem OL(T:Txt K mg W):DC P w K mg base (CXG P w) 1 T.d_refuse_no_place.f T.d_refuse_no_place.fd ["web", "place"] (spM K 2 (HU W)):=by
 refine Ba (k:=0) T.d_refuse_no_place.F OF rfl λ_ _ _ _ _ _ hr hu nd=>?_
 exact(Ac (D2 (OR (Ss XY Z2 ge_int (AA (pv 1)) (DP T.c_Web.cl T.n_Web_places (AA (pv 0)) rfl))) (Ac Jf) CL))
theorem ja:Bg ["web", "place"] ["web", "place"] (BE Yp):=FH
theorem kF(T:Txt K mg W):DC P w K mg base (CXG P w) 2 T.d_near.f T.d_near.fd ["web", "place"] (spM K 2 (ZJ W)):=by
 refine Ba (k:=1) T.d_near.F ja rfl λ_ _ _ _ _ _ hr hu nd=>?_
 exact(AN (JB (gcl T.d_refuse_no_place (OL T) hr (AH (AA (pv 0)) (AH (AA (pv 1)) Al))))
  (Ac (Bp (Cm hu (DP T.c_Web.cl T.n_Web_near_sets (AA (pv 0)) rfl) (AA (pv 1))))))
theorem XD:Bg ["web"] ["web"] (BE OH):=FH
theorem XU(T:Txt K mg W):DC P w K mg base (CXG P w) 3 T.d_takes_of.f T.d_takes_of.fd ["web"] (spM K 1 (Ll W)):=by
 refine Ba (k:=2) T.d_takes_of.F XD rfl λ_ _ _ _ _ _ hr hu nd=>?_
 exact(Ac (Bp (CM (EA (own:=["place"]) (N':=["place", "web"]) rfl (DB (by kernel_rfl)) (Dc rfl T.b_range (AH (DP T.c_Web.cl T.n_Web_places (AA (pv 0)) rfl) Al)) (λ_ _ _ _ _ _=>(Br 0 (by decide +kernel:(["place", "web"]:List Str).Nodup))) (λ_ _ _ _ _ _=>EL) (λ_ _ _ _ _ _=>(HS rfl T.b_tuple (E1 rfl rfl T.b_sorted (BK Dw (FB (AH (AA (pv 0)) Al)) (gcl T.d_near (kF T) hr (AH (AA (pv 1)) (AH (AA (pv 0)) Al)))))))))))
theorem Yo:Bg ["some", "bits", "place"] ["some"] (BE P8):=FH
theorem Yw(T:Txt K mg W):DC P w K mg base (CXG P w) 1 T.d_bits_of.f T.d_bits_of.fd ["some"] (spM K 1 (QP W)):=by
 refine Ba (k:=0) T.d_bits_of.F Yo rfl λ_ _ _ _ _ _ hr hu nd=>?_
 exact(AN (CC 1 nd ge_int)
  (AN (DF (good_none rfl).own rfl (DA (AA (pv 0))) (Br 2 nd)
  (Ac (Uc 1 nd aI (BK ON ge_int (AA (pv 2))))))
  (Ac (Bp (AA (pv 1))))))
theorem Ym:Bg ["bits", "told", "left"] ["bits"] (BE P6):=FH
theorem SV(T:Txt K mg W):DC P w K mg base (CXG P w) 1 T.d_members.f T.d_members.fd ["bits"] (spM K 1 (Nf W)):=by
 refine Ba (k:=0) T.d_members.F Ym rfl λ_ _ _ _ _ _ hr hu nd=>?_
 exact(AN (CC 1 nd (CM (Ez Al)))
  (AN (CC 2 nd (AA (pv 0)))
  (AN (Xp wN (good_none rfl).own (Ey (AA (pv 2))) (AN (JB (JL (AA (pv 1)) (BK Ja (kn (BK QD (AA (pv 2)) (V9 (AA (pv 2))))) ge_int)))
  (Ac (Uc 2 nd pI (BK Ja (AA (pv 2)) ge_int)))))
  (Ac (Bp (AA (pv 1)))))))
theorem bX:Bg ["takes", "bits", "holders", "guard", "seen", "wanted", "place"] ["takes", "bits", "holders", "guard", "seen"] (BE SJ):=FH
theorem UU(T:Txt K mg W):∀n:Nat,DC P w K mg base (CXG P w) (0+n) T.d_settle.f T.d_settle.fd ["takes", "bits", "holders", "guard", "seen"] (spM K 5 (Gq W n))
 | 0=>pZ
 | n+1=>by
  refine Ba (k:=0+n) T.d_settle.F bX rfl λ_ _ _ _ _ _ hr hu nd=>?_
  exact(AN (Nc (i:=5) (own:=["place"]) (N':=["place", "·1", "bits", "·3", "·4", "seen", "·6", "·7"]) rfl rfl nd rfl (by first | exact NQ rfl | exact L8 rfl) (DB (by kernel_rfl)) (DA (Cm hu (AA (pv 0)) (AA (pv 3)))) (λ_ _ _ _ _ _=>(Br 0 (by decide +kernel:(["place", "·1", "bits", "·3", "·4", "seen", "·6", "·7"]:List Str).Nodup))) (λ_ _ _ _ _ _=>(Gp (gH (ZD (Ey (BK QD (BK Yx (AA (pv 2)) (AA (pv 0))) ge_int)) (V6 (Go hu (AA (pv 0)) (AA (pv 5)))))))) (λ_ _ _ _ _ _=>(AA (pv 0))))
  (AN (DF (good_none rfl).own rfl (DA (AA (pv 5))) (Br 6 nd)
  (Ac (D2 (Go hu (AA (pv 6)) (AA (pv 2))) (AN (Gw (Ax (B1 (by decide:1<=64) _) hu) (AA (pv 2)) (AA (pv 6)) (AA (pv 3)) rfl)
  (Ac (Bp Ip))) CL)))
  (AN (DF (good_none rfl).own rfl (DA (AA (pv 5))) (Br 6 nd)
  (Ac (D2 (Go hu (AA (pv 6)) (AA (pv 4))) (AN (Gw (Ax (B1 (by decide:1<=64) _) hu) (AA (pv 4)) (AA (pv 6)) Ip rfl)
  (Ac (D2 (Ey (WB (UU T n) (good_none rfl).pass (hr.mono (AL _)) rfl T.d_settle.m T.d_settle.kp T.d_settle.b (AH (AA (pv 0)) (AH (AA (pv 1)) (AH (AA (pv 2)) (AH (Cm hu (AA (pv 2)) (AA (pv 6))) (AH (AA (pv 4)) Al))))))) (AN (Gw (Ax (B1 (by decide:1<=64) _) hu) (AA (pv 2)) (AA (pv 6)) (AA (pv 3)) rfl)
  (Ac (Bp Ip))) CL))) CL)))
  (Ac (Bp Ip)))))
theorem jc:Bg ["takes", "guards", "bits", "holders", "guard"] ["takes", "guards", "bits"] (BE Yq):=FH
theorem kG(T:Txt K mg W):DC P w K mg base (CXG P w) 11 T.d_fits.f T.d_fits.fd ["takes", "guards", "bits"] (spM K 3 (WC W)):=by
 refine Ba (k:=10) T.d_fits.F jc rfl λ_ _ _ _ _ _ hr hu nd=>?_
 exact(AN (CC 3 nd M6)
  (AN (DF (good_none rfl).own rfl (DA (AA (pv 1))) (Br 4 nd)
  (Ac (D2 (Ey (BK QD (BK Yx (AA (pv 2)) (AA (pv 4))) ge_int)) (Ac (Gw (Ax (B1 (by decide:1<=64) _) hu) (AA (pv 3)) (AA (pv 4)) (AA (pv 4)) rfl)) CL)))
  (AN (DF (good_none rfl).own rfl (DA (AA (pv 1))) (Br 4 nd)
  (Ac (D2 (gH (ZD (OR (Ey (BK QD (BK Yx (AA (pv 2)) (AA (pv 4))) ge_int))) (V6 (OR (Ey (WB (UU T 9) (good_none rfl).pass (hr.mono (by decide)) rfl T.d_settle.m T.d_settle.kp T.d_settle.b (AH (AA (pv 0)) (AH (AA (pv 2)) (AH (AA (pv 3)) (AH (AA (pv 4)) (AH M6 Al))))))))))) (Ac (Bp Ip)) CL)))
  (Ac (Bp Ip)))))
theorem Vh:Bg ["standing", "guard", "place"] ["standing", "guard", "place"] (BE Mj):=FH
theorem Vu(T:Txt K mg W):DC P w K mg base (CXG P w) 1 T.d_with_step.f T.d_with_step.fd ["standing", "guard", "place"] (spM K 3 (NB W)):=by
 refine Ba (k:=0) T.d_with_step.F Vh rfl λ_ _ _ _ _ _ hr hu nd=>?_
 exact(Ac (Bp (HS rfl T.b_tuple (CM (EA (own:=["other"]) (N':=["other", "·1", "guard", "place"]) rfl (DB (by kernel_rfl)) (DA (AA (pv 0))) (λ_ _ _ _ _ _=>(Br 0 (by decide +kernel:(["other", "·1", "guard", "place"]:List Str).Nodup))) (λ_ _ _ _ _ _=>EL) (λ_ _ _ _ _ _=>(Su (Ec (Kv hu) (AA (pv 0)) (AA (pv 2)) (Eb _)) (AA (pv 3)) (AA (pv 0)))))))))
theorem Yl:Bg ["places", "size", "told", "step", "longer", "some", "least", "place"] ["places", "size"] (BE P5):=FH
theorem Yu(T:Txt K mg W):DC P w K mg base (CXG P w) 1 T.d_sets_of.f T.d_sets_of.fd ["places", "size"] (spM K 2 (QN W)):=by
 refine Ba (k:=0) T.d_sets_of.F Yl rfl λ_ _ _ _ _ _ hr hu nd=>?_
 exact(AN (CC 2 nd (CM (Ez (AH (FB Al) Al))))
  (AN (DF (good_none rfl).own rfl (Dc rfl T.b_range (AH (AA (pv 1)) Al)) (Br 3 nd)
  (AN (CC 4 nd (CM (Ez Al)))
  (AN (DF (good_none rfl).own rfl (DA (AA (pv 2))) (Br 5 nd)
  (AN (CC 6 nd (Su (Ey (AA (pv 5))) (BK Dw (Cm hu (AA (pv 5)) (V9 ge_int)) ge_int) ge_int))
  (Ac (DF (good_none rfl).own rfl (Kz rfl T.b_range (AH (AA (pv 6)) (AH (BK Dw (BK Dw (BK Ja (AA (pv 0)) (AA (pv 1))) (AA (pv 3))) ge_int) Al))) (Br 7 nd)
  (Ac (JB (JL (AA (pv 4)) (BK Dw (AA (pv 5)) (FB (AH (AA (pv 7)) Al))))))))))
  (Ac (CC 2 nd (AA (pv 4)))))))
  (Ac (Bp (AA (pv 2))))))
theorem O0:Bg ["places", "size", "ways", "step"] ["places", "size"] (BE Hv):=FH
theorem O7(T:Txt K mg W):DC P w K mg base (CXG P w) 1 T.d_ways_to_choose.f T.d_ways_to_choose.fd ["places", "size"] (spM K 2 (IA W)):=by
 refine Ba (k:=0) T.d_ways_to_choose.F O0 rfl λ_ _ _ _ _ _ hr hu nd=>?_
 exact(AN (CC 2 nd ge_int)
  (AN (DF (good_none rfl).own rfl (Dc rfl T.b_range (AH (AA (pv 1)) Al)) (Br 3 nd)
  (Ac (CC 2 nd (BK O9 (BK fC (AA (pv 2)) (BK Ja (AA (pv 0)) (AA (pv 3)))) (BK Dw (AA (pv 3)) ge_int)))))
  (Ac (Bp (AA (pv 2))))))
theorem XE:Bg ["web", "guards"] ["web", "guards"] (BE OI):=FH
theorem XV(T:Txt K mg W):DC P w K mg base (CXG P w) 2 T.d_how_many.f T.d_how_many.fd ["web", "guards"] (spM K 2 (OS W)):=by
 refine Ba (k:=1) T.d_how_many.F XE rfl λ_ _ _ _ _ _ hr hu nd=>?_
 exact(AN (D2 (OR (Ss XY XY ge_int (AA (pv 1)) (DP T.c_Web.cl T.n_Web_places (AA (pv 0)) rfl))) (Ac Jf) CL)
  (Ac (Bp (gcl T.d_ways_to_choose (O7 T) hr (AH (DP T.c_Web.cl T.n_Web_places (AA (pv 0)) rfl) (AH (AA (pv 1)) Al))))))
theorem Vi:Bg ["web", "guards"] ["web", "guards"] (BE Ml):=FH
theorem Vv(T:Txt K mg W):DC P w K mg base (CXG P w) 3 T.d_standings.f T.d_standings.fd ["web", "guards"] (spM K 2 (KA W)):=by
 refine Ba (k:=2) T.d_standings.F Vi rfl λ_ _ _ _ _ _ hr hu nd=>?_
 exact(AN (D2 (Ec sT (gcl T.d_how_many (XV T) hr (AH (AA (pv 0)) (AH (AA (pv 1)) Al))) (Xr rfl T.g_MOST_STANDINGS.choose_spec) (Eb _)) (Ac Jf) CL)
  (Ac (Bp (gcl T.d_sets_of (Yu T) hr (AH (DP T.c_Web.cl T.n_Web_places (AA (pv 0)) rfl) (AH (AA (pv 1)) Al))))))
theorem LO:Bg ["self", "number", "standing", "told", "guard", "place"] ["self", "number"] (BE FM):=FH
theorem Lg(T:Txt K mg W):DC P w K mg base (CXG P w) 2 T.d_Field_linked_by_one.f T.d_Field_linked_by_one.fd ["self", "number"] (spM K 2 (DX W)):=by
 refine Ba (k:=1) T.d_Field_linked_by_one.F LO rfl λ_ _ _ _ _ _ hr hu nd=>?_
 exact(AN (CC 2 nd (Cm hu (DP T.c_Field.cl T.n_Field_everything (AA (pv 0)) rfl) (AA (pv 1))))
  (AN (CC 3 nd ge_int)
  (AN (DF (good_none rfl).own rfl (DA (AA (pv 2))) (Br 4 nd)
  (Ac (DF (good_none rfl).own rfl (DA (Cm hu (DP T.c_Field.cl T.n_Field_takes (AA (pv 0)) rfl) (AA (pv 4)))) (Br 5 nd)
  (Ac (D2 (Go hu (AA (pv 5)) (AA (pv 2))) (Ac (Uc 3 nd aI (BK ON ge_int (Cm hu (DP T.c_Field.cl T.n_Field_numbers (AA (pv 0)) rfl) (HS rfl T.b_tuple (E1 rfl rfl T.b_sorted (gcl T.d_with_step (Vu T) hr (AH (AA (pv 2)) (AH (AA (pv 4)) (AH (AA (pv 5)) Al)))))))))) CL)))))
  (Ac (Bp (AA (pv 3)))))))
theorem LP:Bg ["self", "number", "standing", "told", "other", "bits"] ["self", "number"] (BE FO):=FH
theorem Lh(T:Txt K mg W):DC P w K mg base (CXG P w) 12 T.d_Field_linked_by_all.f T.d_Field_linked_by_all.fd ["self", "number"] (spM K 2 (DY W)):=by
 refine Ba (k:=11) T.d_Field_linked_by_all.F LP rfl λ_ _ _ _ _ _ hr hu nd=>?_
 exact(AN (CC 2 nd (Cm hu (DP T.c_Field.cl T.n_Field_everything (AA (pv 0)) rfl) (AA (pv 1))))
  (AN (CC 3 nd ge_int)
  (AN (DF (good_none rfl).own rfl (aL rfl T.b_enumerate (DP T.c_Field.cl T.n_Field_place_bits (AA (pv 0)) rfl)) (QK rfl (E0 (Br 4 nd) (E0 (Br 5 nd) Nd)))
  (Ac (D2 (Ey (gcl T.d_fits (kG T) hr (AH (DP T.c_Field.cl T.n_Field_takes (AA (pv 0)) rfl) (AH (AA (pv 2)) (AH (AA (pv 5)) Al))))) (Ac (Uc 3 nd aI (BK ON ge_int (AA (pv 4))))) CL)))
  (Ac (Bp (AA (pv 3)))))))
theorem Tq:Bg ["self", "web", "guards", "kind", "number", "standing", "place"] ["self", "web", "guards", "kind"] (BE LV):=FH
theorem SZ(T:Txt K mg W):DC P w K mg base (CXG P w) 13 T.d_Field_init.f T.d_Field_init.fd ["self", "web", "guards", "kind"] (spM K 4 (KY W)):=by
 refine Ba (k:=12) T.d_Field_init.F Tq rfl λ_ _ _ _ _ _ hr hu nd=>?_
 exact(AN (KQ T.c_Field.cl T.n_Field_everything (AA (pv 0)) (gcl T.d_standings (Vv T) hr (AH (AA (pv 1)) (AH (AA (pv 2)) Al))) rfl)
  (AN (KQ T.c_Field.cl T.n_Field_kind (AA (pv 0)) (AA (pv 3)) rfl)
  (AN (KQ T.c_Field.cl T.n_Field_takes (AA (pv 0)) (gcl T.d_takes_of (XU T) hr (AH (AA (pv 1)) Al)) rfl)
  (AN (KQ T.c_Field.cl T.n_Field_numbers (AA (pv 0)) PV rfl)
  (AN (KQ T.c_Field.cl T.n_Field_having (AA (pv 0)) (CM (EA (own:=["place"]) (N':=["place", "·1", "·2", "·3", "·4", "·5", "·6", "·7"]) rfl (DB (by kernel_rfl)) (Dc rfl T.b_range (AH (DP T.c_Web.cl T.n_Web_places (AA (pv 1)) rfl) Al)) (λ_ _ _ _ _ _=>(Br 0 (by decide +kernel:(["place", "·1", "·2", "·3", "·4", "·5", "·6", "·7"]:List Str).Nodup))) (λ_ _ _ _ _ _=>EL) (λ_ _ _ _ _ _=>ge_int))) rfl)
  (AN (DF (good_none rfl).own rfl (aL rfl T.b_enumerate (DP T.c_Field.cl T.n_Field_everything (AA (pv 0)) rfl)) (QK rfl (E0 (Br 4 nd) (E0 (Br 5 nd) Nd)))
  (AN (Gw (Ax (B1 (by decide:1<=64) _) hu) (DP T.c_Field.cl T.n_Field_numbers (AA (pv 0)) rfl) (AA (pv 5)) (AA (pv 4)) rfl)
  (Ac (DF (good_none rfl).own rfl (DA (AA (pv 5))) (Br 6 nd)
  (Ac (kZ (DP T.c_Field.cl T.n_Field_having (AA (pv 0)) rfl) (AA (pv 6)) (BK ON ge_int (AA (pv 4))) aI))))))
  (AN (KQ T.c_Field.cl T.n_Field_place_bits (AA (pv 0)) (CM (EA (own:=["standing"]) (N':=["standing", "·1", "·2", "·3", "·4", "·5", "·6", "·7"]) rfl (DB (by kernel_rfl)) (DA (DP T.c_Field.cl T.n_Field_everything (AA (pv 0)) rfl)) (λ_ _ _ _ _ _=>(Br 0 (by decide +kernel:(["standing", "·1", "·2", "·3", "·4", "·5", "·6", "·7"]:List Str).Nodup))) (λ_ _ _ _ _ _=>EL) (λ_ _ _ _ _ _=>(gcl T.d_bits_of (Yw T) hr (AH (AA (pv 0)) Al))))) rfl)
  (Ac (KQ T.c_Field.cl T.n_Field_known (AA (pv 0)) M6 rfl)))))))))
theorem N3(T:Txt K mg W):DC P w K mg base (CXG P w) 13 T.d_Field_init.f T.d_Field_init.fd ["self", "web", "guards", "kind"] (spM K 4 (GP W)):=ku (SZ T)
theorem SI:Bg ["self", "number", "standing"] ["self", "number"] (BE KN):=FH
theorem SX(T:Txt K mg W):DC P w K mg base (CXG P w) 1 T.d_Field_calls.f T.d_Field_calls.fd ["self", "number"] (spM K 2 (KW W)):=by
 refine Ba (k:=0) T.d_Field_calls.F SI rfl λ_ _ _ _ _ _ hr hu nd=>?_
 exact(AN (CC 2 nd (Cm hu (DP T.c_Field.cl T.n_Field_everything (AA (pv 0)) rfl) (AA (pv 1))))
  (Ac (Bp (CM (EA (own:=["place"]) (N':=["place", "·1", "·2", "standing"]) rfl (DB (by kernel_rfl)) (Dc rfl T.b_range (AH (Hz rfl T.b_len (DP T.c_Field.cl T.n_Field_takes (AA (pv 0)) rfl)) Al)) (λ_ _ _ _ _ _=>(Br 0 (by decide +kernel:(["place", "·1", "·2", "standing"]:List Str).Nodup))) (λ_ _ _ _ _ _=>(Gp (Go hu (AA (pv 0)) (AA (pv 3))))) (λ_ _ _ _ _ _=>(AA (pv 0))))))))
theorem Q2:Bg ["self", "number"] ["self", "number"] (BE JU):=FH
theorem QB(T:Txt K mg W):DC P w K mg base (CXG P w) 13 T.d_Field_linked.f T.d_Field_linked.fd ["self", "number"] (spM K 2 (Ij W)):=by
 refine Ba (k:=12) T.d_Field_linked.F Q2 rfl λ_ _ _ _ _ _ hr hu nd=>?_
 exact(AN (D2 (Go hu (AA (pv 1)) (DP T.c_Field.cl T.n_Field_known (AA (pv 0)) rfl)) (Ac (Gw (Ax (B1 (by decide:1<=64) _) hu) (DP T.c_Field.cl T.n_Field_known (AA (pv 0)) rfl) (AA (pv 1)) (Su (Ec (Kv hu) (DP T.c_Field.cl T.n_Field_kind (AA (pv 0)) rfl) V8 (Eb _)) (PU (AA (pv 0)) T.c_Field.cl T.m_Field_linked_by_one (Lg T) (good_none rfl).pass (hr.mono (by decide)) T.d_Field_linked_by_one.b (AH (AA (pv 1)) Al)) (PU (AA (pv 0)) T.c_Field.cl T.m_Field_linked_by_all (Lh T) (good_none rfl).pass (hr.mono (by decide)) T.d_Field_linked_by_all.b (AH (AA (pv 1)) Al))) rfl)) CL)
  (Ac (Bp (Cm hu (DP T.c_Field.cl T.n_Field_known (AA (pv 0)) rfl) (AA (pv 1))))))
theorem Q7(T:Txt K mg W):DC P w K mg base (CXG P w) 13 T.d_Field_linked.f T.d_Field_linked.fd ["self", "number"] (spM K 2 (HZ W)):=pd (QB T)
theorem Q3:Bg ["self", "number", "call"] ["self", "number", "call"] (BE JV):=FH
theorem Q9(T:Txt K mg W):DC P w K mg base (CXG P w) 14 T.d_Field_behind.f T.d_Field_behind.fd ["self", "number", "call"] (spM K 3 (Ji W)):=by
 refine Ba (k:=13) T.d_Field_behind.F Q3 rfl λ_ _ _ _ _ _ hr hu nd=>?_
 exact(Ac (Bp (BK QD (PU (AA (pv 0)) T.c_Field.cl T.m_Field_linked (Q7 T) (good_none rfl).pass (hr.mono (by decide)) T.d_Field_linked.b (AH (AA (pv 1)) Al)) (Cm hu (DP T.c_Field.cl T.n_Field_having (AA (pv 0)) rfl) (AA (pv 2))))))
theorem SG:Bg ["field", "left", "told", "number", "lost"] ["field", "left"] (BE KL):=FH
theorem Mw(T:Txt K mg W):DC P w K mg base (CXG P w) 15 T.d_falling_now.f T.d_falling_now.fd ["field", "left"] (spM K 2 (IQ W)):=by
 refine Ba (k:=14) T.d_falling_now.F SG rfl λ_ _ _ _ _ _ hr hu nd=>?_
 exact(AN (CC 2 nd M6)
  (AN (DF (good_none rfl).own rfl (DA (gcl T.d_members (SV T) hr (AH (AA (pv 1)) Al))) (Br 3 nd)
  (AN (Nc (i:=4) (own:=["call"]) (N':=["call", "field", "left", "·3", "number", "·5"]) rfl rfl nd rfl (by first | exact NQ rfl | exact L8 rfl) (DB (by kernel_rfl)) (DA (PU (AA (pv 0)) T.c_Field.cl T.m_Field_calls (SX T) (good_none rfl).pass (hr.mono (by decide)) T.d_Field_calls.b (AH (AA (pv 3)) Al))) (λ_ _ _ _ _ _=>(Br 0 (by decide +kernel:(["call", "field", "left", "·3", "number", "·5"]:List Str).Nodup))) (λ_ _ _ _ _ _=>(Gp (Ec (Kv hu) (BK QD (PU (AA (pv 1)) T.c_Field.cl T.m_Field_behind (Q9 T) (good_none rfl).pass (hr.mono (by decide)) T.d_Field_behind.b (AH (AA (pv 4)) (AH (AA (pv 0)) Al))) (AA (pv 2))) ge_int (Eb _)))) (λ_ _ _ _ _ _=>(AA (pv 0))))
  (Ac (D2 (Ey (AA (pv 4))) (Ac (Gw (Ax (B1 (by decide:1<=64) _) hu) (AA (pv 2)) (AA (pv 3)) (Cm hu (AA (pv 4)) ge_int) rfl)) CL))))
  (Ac (Bp (AA (pv 2))))))
theorem bY:Bg ["field", "told", "left", "stage", "falling", "number"] ["field"] (BE SK):=FH
theorem UV(T:Txt K mg W):DC P w K mg base (CXG P w) 16 T.d_fallen.f T.d_fallen.fd ["field"] (spM K 1 (PZ W)):=by
 refine Ba (k:=15) T.d_fallen.F bY rfl λ_ _ _ _ _ _ hr hu nd=>?_
 exact(AN (CC 1 nd M6)
  (AN (CC 2 nd (BK Ja (BK ON ge_int (Hz rfl T.b_len (DP T.c_Field.cl T.n_Field_everything (AA (pv 0)) rfl))) ge_int))
  (AN (CC 3 nd ge_int)
  (AN (CC 4 nd (gcl T.d_falling_now (Mw T) hr (AH (AA (pv 0)) (AH (AA (pv 2)) Al))))
  (AN (Xp wN (good_none rfl).own (Ey (AA (pv 4))) (AN (tH (i:=4) (DF (good_none rfl).own rfl (kb (AA (pv 4))) (Br 5 nd)
  (AN (Gw (Ax (B1 (by decide:1<=64) _) hu) (AA (pv 1)) (AA (pv 5)) (FB (AH (AA (pv 3)) (AH (Cm hu (AA (pv 4)) (AA (pv 5))) Al))) rfl)
  (Ac (Uc 2 nd pH (BK ON ge_int (AA (pv 5))))))))
  (AN (Uc 3 nd pJ ge_int)
  (Ac (CC 4 nd (gcl T.d_falling_now (Mw T) hr (AH (AA (pv 0)) (AH (AA (pv 2)) Al))))))))
  (Ac (Bp (AA (pv 1)))))))))
theorem Qx:Bg ["field", "gone"] ["field", "gone"] (BE JQ):=FH
theorem Q5(T:Txt K mg W):DC P w K mg base (CXG P w) 1 T.d_lasting_bits.f T.d_lasting_bits.fd ["field", "gone"] (spM K 2 (Jh W)):=by
 refine Ba (k:=0) T.d_lasting_bits.F Qx rfl λ_ _ _ _ _ _ hr hu nd=>?_
 exact(Ac (Bp (ZG rfl rfl T.b_sum (CM (EA (own:=["number"]) (N':=["number", "·1", "gone"]) rfl (DB (by kernel_rfl)) (Dc rfl T.b_range (AH (Hz rfl T.b_len (DP T.c_Field.cl T.n_Field_everything (AA (pv 0)) rfl)) Al)) (λ_ _ _ _ _ _=>(Br 0 (by decide +kernel:(["number", "·1", "gone"]:List Str).Nodup))) (λ_ _ _ _ _ _=>(Gp (Go hu (AA (pv 0)) (AA (pv 2))))) (λ_ _ _ _ _ _=>(BK ON ge_int (AA (pv 0)))))))))
theorem Yn:Bg ["web", "guards", "kind", "field"] ["web", "guards", "kind"] (BE P7):=FH
theorem Yv(T:Txt K mg W):DC P w K mg base (CXG P w) 17 T.d_lasting.f T.d_lasting.fd ["web", "guards", "kind"] (spM K 3 (QO W)):=by
 refine Ba (k:=16) T.d_lasting.F Yn rfl λ_ _ _ _ _ _ hr hu nd=>?_
 exact(AN (CC 3 nd (WA T.c_Field.mk' (N3 T) (good_none rfl).pass (hr.mono (by decide)) rfl T.c_Field.m T.d_Field_init.b (AH (AA (pv 0)) (AH (AA (pv 1)) (AH (AA (pv 2)) Al)))))
  (Ac (Bp (CM (EA (own:=["number"]) (N':=["number", "·1", "·2", "·3", "field"]) rfl (DB (by kernel_rfl)) (DA (gcl T.d_members (SV T) hr (AH (gcl T.d_lasting_bits (Q5 T) hr (AH (AA (pv 3)) (AH (gcl T.d_fallen (UV T) hr (AH (AA (pv 3)) Al)) Al))) Al))) (λ_ _ _ _ _ _=>(Br 0 (by decide +kernel:(["number", "·1", "·2", "·3", "field"]:List Str).Nodup))) (λ_ _ _ _ _ _=>EL) (λ_ _ _ _ _ _=>(Cm hu (DP T.c_Field.cl T.n_Field_everything (AA (pv 4)) rfl) (AA (pv 0)))))))))
theorem dy:Bg ["web", "guards", "kind", "field", "gone"] ["web", "guards", "kind"] (BE Vm):=FH
theorem fA(T:Txt K mg W):DC P w K mg base (CXG P w) 17 T.d_falls.f T.d_falls.fd ["web", "guards", "kind"] (spM K 3 (WD W)):=by
 refine Ba (k:=16) T.d_falls.F dy rfl λ_ _ _ _ _ _ hr hu nd=>?_
 exact(AN (CC 3 nd (WA T.c_Field.mk' (N3 T) (good_none rfl).pass (hr.mono (by decide)) rfl T.c_Field.m T.d_Field_init.b (AH (AA (pv 0)) (AH (AA (pv 1)) (AH (AA (pv 2)) Al)))))
  (AN (CC 4 nd (gcl T.d_fallen (UV T) hr (AH (AA (pv 3)) Al)))
  (Ac (Bp (CM (EA (own:=["number"]) (N':=["number", "·1", "·2", "·3", "field", "gone"]) rfl (DB (by kernel_rfl)) (DA (E1 rfl rfl T.b_sorted (AA (pv 4)))) (λ_ _ _ _ _ _=>(Br 0 (by decide +kernel:(["number", "·1", "·2", "·3", "field", "gone"]:List Str).Nodup))) (λ_ _ _ _ _ _=>EL) (λ_ _ _ _ _ _=>(BK Dw (FB (AH (Cm hu (DP T.c_Field.cl T.n_Field_everything (AA (pv 4)) rfl) (AA (pv 0))) Al)) (Cm hu (AA (pv 5)) (AA (pv 0)))))))))))
theorem Qz:Bg ["script", "k"] ["script", "k"] (BE JS):=FH
theorem FG(T:Txt K mg W):DC P w K mg base (CXG P w) 1 T.d__law_cell_at.f T.d__law_cell_at.fd ["script", "k"] (spM K 2 (EM W)):=by
 refine Ba (k:=0) T.d__law_cell_at.F Qz rfl λ_ _ _ _ _ _ hr hu nd=>?_
 exact(AN (D2 (Ec Z2 (AA (pv 1)) (Hz rfl T.b_len (AA (pv 0))) (Eb _)) (Ac (Bp (Cm hu (AA (pv 0)) (AA (pv 1))))) CL)
  (Ac (Bp ge_int)))
theorem Tn:Bg ["places", "found", "one", "other"] ["places"] (BE LR):=FH
theorem N2(T:Txt K mg W):DC P w K mg base (CXG P w) 1 T.d__law_pairs.f T.d__law_pairs.fd ["places"] (spM K 1 (JC W)):=by
 refine Ba (k:=0) T.d__law_pairs.F Tn rfl λ_ _ _ _ _ _ hr hu nd=>?_
 exact(AN (CC 1 nd (CM (Ez Al)))
  (AN (DF (good_none rfl).own rfl (Dc rfl T.b_range (AH (AA (pv 0)) Al)) (Br 2 nd)
  (Ac (DF (good_none rfl).own rfl (Kz rfl T.b_range (AH (BK Dw (AA (pv 2)) ge_int) (AH (AA (pv 0)) Al))) (Br 3 nd)
  (Ac (JB (JL (AA (pv 1)) (FB (AH (AA (pv 2)) (AH (AA (pv 3)) Al)))))))))
  (Ac (Bp (AA (pv 1))))))
theorem OG:Bg ["places", "style"] ["places", "style"] (BE HE):=FH
theorem OM(T:Txt K mg W):DC P w K mg base (CXG P w) 2 T.d__law_first_ties.f T.d__law_first_ties.fd ["places", "style"] (spM K 2 (HX W)):=by
 refine Ba (k:=1) T.d__law_first_ties.F OG rfl λ_ _ _ _ _ _ hr hu nd=>?_
 exact(AN (D2 (Ec (Kv hu) (AA (pv 1)) ge_int (Eb _)) (Ac (Bp (CM (EA (own:=["k"]) (N':=["k", "·1", "·2"]) rfl (DB (by kernel_rfl)) (Dc rfl T.b_range (AH (BK Ja (AA (pv 0)) ge_int) Al)) (λ_ _ _ _ _ _=>(Br 0 (by decide +kernel:(["k", "·1", "·2"]:List Str).Nodup))) (λ_ _ _ _ _ _=>EL) (λ_ _ _ _ _ _=>(FB (AH (AA (pv 0)) (AH (BK Dw (AA (pv 0)) ge_int) Al)))))))) CL)
  (AN (D2 (Ec (Kv hu) (AA (pv 1)) ge_int (Eb _)) (Ac (Bp (BK Dw (CM (EA (own:=["k"]) (N':=["k", "·1", "·2"]) rfl (DB (by kernel_rfl)) (Dc rfl T.b_range (AH (BK Ja (AA (pv 0)) ge_int) Al)) (λ_ _ _ _ _ _=>(Br 0 (by decide +kernel:(["k", "·1", "·2"]:List Str).Nodup))) (λ_ _ _ _ _ _=>EL) (λ_ _ _ _ _ _=>(FB (AH (AA (pv 0)) (AH (BK Dw (AA (pv 0)) ge_int) Al)))))) (CM (Ez (AH (FB (AH ge_int (AH (BK Ja (AA (pv 0)) ge_int) Al))) Al)))))) CL)
  (AN (D2 (Ec (Kv hu) (AA (pv 1)) ge_int (Eb _)) (Ac (Bp (gcl T.d__law_pairs (N2 T) hr (AH (AA (pv 0)) Al)))) CL)
  (AN (D2 (Ec (Kv hu) (AA (pv 1)) ge_int (Eb _)) (Ac (Bp (CM (EA (own:=["k"]) (N':=["k", "·1", "·2"]) rfl (DB (by kernel_rfl)) (Kz rfl T.b_range (AH ge_int (AH (AA (pv 0)) Al))) (λ_ _ _ _ _ _=>(Br 0 (by decide +kernel:(["k", "·1", "·2"]:List Str).Nodup))) (λ_ _ _ _ _ _=>EL) (λ_ _ _ _ _ _=>(FB (AH ge_int (AH (AA (pv 0)) Al)))))))) CL)
  (Ac (Bp (CM (Ez Al))))))))
theorem Vj:Bg ["script", "first", "places", "pairs", "there", "tie", "k"] ["script", "first", "places"] (BE Mm):=FH
theorem Vw(T:Txt K mg W):DC P w K mg base (CXG P w) 3 T.d__law_ties.f T.d__law_ties.fd ["script", "first", "places"] (spM K 3 (NC W)):=by
 refine Ba (k:=2) T.d__law_ties.F Vj rfl λ_ _ _ _ _ _ hr hu nd=>?_
 exact(AN (CC 3 nd (gcl T.d__law_pairs (N2 T) hr (AH (AA (pv 2)) Al)))
  (AN (CC 4 nd PV)
  (AN (DF (good_none rfl).own rfl (DA (gcl T.d__law_first_ties (OM T) hr (AH (AA (pv 2)) (AH (BK Ii (BK O9 (gcl T.d__law_cell_at (FG T) hr (AH (AA (pv 0)) (AH ge_int Al))) ge_int) ge_int) Al)))) (Br 5 nd)
  (Ac (Gw (Ax (B1 (by decide:1<=64) _) hu) (AA (pv 4)) (AA (pv 5)) Ip rfl)))
  (AN (DF (good_none rfl).own rfl (Kz rfl T.b_range (AH (AA (pv 1)) (AH (Rc rfl rfl T.b_min (AH (Hz rfl T.b_len (AA (pv 0))) (AH ge_int Al))) Al))) (Br 6 nd)
  (AN (CC 5 nd (Cm hu (AA (pv 3)) (BK Ii (Cm hu (AA (pv 0)) (AA (pv 6))) (Hz rfl T.b_len (AA (pv 3))))))
  (Ac (Gw (Ax (B1 (by decide:1<=64) _) hu) (AA (pv 4)) (AA (pv 5)) (L2.tI (gN hu (AA (pv 5)) (AA (pv 4))) (pV (pW (Cm hu (AA (pv 4)) (AA (pv 5)))))) rfl))))
  (Ac (Bp (CM (EA (own:=["tie"]) (N':=["tie", "·1", "·2", "·3", "·4", "there", "·6", "·7"]) rfl (DB (by kernel_rfl)) (DA (AA (pv 3))) (λ_ _ _ _ _ _=>(Br 0 (by decide +kernel:(["tie", "·1", "·2", "·3", "·4", "there", "·6", "·7"]:List Str).Nodup))) (λ_ _ _ _ _ _=>(Gp (gH (ZD (Sr hu (AA (pv 0)) (AA (pv 5))) (V6 (Ey (Cm hu (AA (pv 5)) (AA (pv 0))))))))) (λ_ _ _ _ _ _=>(AA (pv 0)))))))))))
theorem SH:Bg ["script", "ties"] ["script", "ties"] (BE KM):=FH
theorem SW(T:Txt K mg W):DC P w K mg base (CXG P w) 2 T.d__law_handed.f T.d__law_handed.fd ["script", "ties"] (spM K 2 (KU W)):=by
 refine Ba (k:=1) T.d__law_handed.F SH rfl λ_ _ _ _ _ _ hr hu nd=>?_
 exact(AN (D2 (Ec (Kv hu) (BK Ii (BK O9 (gcl T.d__law_cell_at (FG T) hr (AH (AA (pv 0)) (AH ge_int Al))) ge_int) ge_int) ge_int (Eb _)) (Ac (Bp (kg rfl T.b_list (AA (pv 1))))) CL)
  (Ac (Bp (CM (EA (own:=["tie"]) (N':=["tie", "·1", "·2"]) rfl (DB (by kernel_rfl)) (pS rfl T.b_reversed (AA (pv 1))) (λ_ _ _ _ _ _=>(Br 0 (by decide +kernel:(["tie", "·1", "·2"]:List Str).Nodup))) (λ_ _ _ _ _ _=>EL) (λ_ _ _ _ _ _=>(FB (AH (Cm hu (AA (pv 0)) ge_int) (AH (Cm hu (AA (pv 0)) ge_int) Al)))))))))
theorem Vl:Bg ["ties", "place", "found", "tie"] ["ties", "place"] (BE Mo):=FH
theorem O8(T:Txt K mg W):DC P w K mg base (CXG P w) 1 T.d__law_near.f T.d__law_near.fd ["ties", "place"] (spM K 2 (KB W)):=by
 refine Ba (k:=0) T.d__law_near.F Vl rfl λ_ _ _ _ _ _ hr hu nd=>?_
 exact(AN (CC 2 nd (CM (Ez Al)))
  (AN (DF (good_none rfl).own rfl (DA (AA (pv 0))) (Br 3 nd)
  (Ac (D2 (Sr hu (AA (pv 1)) (AA (pv 3))) (Ac (JB (JL (AA (pv 2)) (BK Ja (BK Dw (Cm hu (AA (pv 3)) ge_int) (Cm hu (AA (pv 3)) ge_int)) (AA (pv 1)))))) CL)))
  (Ac (Bp (E1 rfl rfl T.b_sorted (AA (pv 2)))))))
theorem Vk:Bg ["places", "guards", "rows", "k", "longer", "row", "least"] ["places", "guards"] (BE Mn):=FH
theorem Vx(T:Txt K mg W):DC P w K mg base (CXG P w) 1 T.d__law_sets.f T.d__law_sets.fd ["places", "guards"] (spM K 2 (ND W)):=by
 refine Ba (k:=0) T.d__law_sets.F Vk rfl λ_ _ _ _ _ _ hr hu nd=>?_
 exact(AN (CC 2 nd (CM (Ez (AH (FB Al) Al))))
  (AN (DF (good_none rfl).own rfl (Dc rfl T.b_range (AH (AA (pv 1)) Al)) (Br 3 nd)
  (AN (CC 4 nd (CM (Ez Al)))
  (AN (DF (good_none rfl).own rfl (DA (AA (pv 2))) (Br 5 nd)
  (AN (CC 6 nd ge_int)
  (AN (D2 (Ec (fB hu) (AA (pv 5)) (FB Al) (Eb _)) (Ac (CC 6 nd (BK Dw (Cm hu (AA (pv 5)) (V9 ge_int)) ge_int))) CL)
  (Ac (JB (Ue (AA (pv 4)) (CM (EA (own:=["place"]) (N':=["place", "·1", "·2", "·3", "·4", "·5", "row", "·7"]) rfl (DB (by kernel_rfl)) (Kz rfl T.b_range (AH (AA (pv 6)) (AH (BK Dw (BK Dw (BK Ja (AA (pv 0)) (AA (pv 1))) (AA (pv 3))) ge_int) Al))) (λ_ _ _ _ _ _=>(Br 0 (by decide +kernel:(["place", "·1", "·2", "·3", "·4", "·5", "row", "·7"]:List Str).Nodup))) (λ_ _ _ _ _ _=>EL) (λ_ _ _ _ _ _=>(BK Dw (AA (pv 6)) (FB (AH (AA (pv 0)) Al))))))))))))
  (Ac (CC 2 nd (AA (pv 4)))))))
  (Ac (Bp (AA (pv 2))))))
theorem Q0:Bg ["ties", "standing", "call", "kind", "some", "rows", "guard", "steps", "longer", "row"] ["ties", "standing", "call", "kind"] (BE JT):=FH
theorem MF(T:Txt K mg W):DC P w K mg base (CXG P w) 2 T.d__law_answers.f T.d__law_answers.fd ["ties", "standing", "call", "kind"] (spM K 4 (HY W)):=by
 refine Ba (k:=1) T.d__law_answers.F Q0 rfl λ_ _ _ _ _ _ hr hu nd=>?_
 exact(AN (D2 (Ec (Kv hu) (AA (pv 3)) V8 (Eb _)) (AN (Nc (i:=4) (own:=["k"]) (N':=["k", "ties", "standing", "call", "·4", "·5", "·6", "·7", "·8", "·9", "·10"]) rfl rfl nd rfl (by first | exact NQ rfl | exact L8 rfl) (DB (by kernel_rfl)) (Dc rfl T.b_range (AH (Hz rfl T.b_len (AA (pv 1))) Al)) (λ_ _ _ _ _ _=>(Br 0 (by decide +kernel:(["k", "ties", "standing", "call", "·4", "·5", "·6", "·7", "·8", "·9", "·10"]:List Str).Nodup))) (λ_ _ _ _ _ _=>(Gp (Sr hu (AA (pv 3)) (gcl T.d__law_near (O8 T) hr (AH (AA (pv 1)) (AH (Cm hu (AA (pv 2)) (AA (pv 0))) Al)))))) (λ_ _ _ _ _ _=>(AA (pv 0))))
  (Ac (Bp (E1 rfl rfl T.b_sorted (CM (EA (own:=["k"]) (N':=["k", "·1", "standing", "call", "·4", "·5", "·6", "·7", "·8", "·9", "·10"]) rfl (DB (by kernel_rfl)) (DA (AA (pv 4))) (λ_ _ _ _ _ _=>(Br 0 (by decide +kernel:(["k", "·1", "standing", "call", "·4", "·5", "·6", "·7", "·8", "·9", "·10"]:List Str).Nodup))) (λ_ _ _ _ _ _=>EL) (λ_ _ _ _ _ _=>(BK Dw (BK Dw (Ud (AA (pv 2)) V7 (Rb (AA (pv 0)))) (FB (AH (AA (pv 3)) Al))) (Ud (AA (pv 2)) (Rb (BK Dw (AA (pv 0)) ge_int)) V7))))))))) CL)
  (AN (CC 5 nd (CM (Ez (AH (FB Al) Al))))
  (AN (DF (good_none rfl).own rfl (DA (AA (pv 1))) (Br 6 nd)
  (AN (CC 7 nd (BK Dw (CM (Ez (AH (AA (pv 6)) Al))) (gcl T.d__law_near (O8 T) hr (AH (AA (pv 0)) (AH (AA (pv 6)) Al)))))
  (AN (CC 8 nd (CM (Ez Al)))
  (AN (DF (good_none rfl).own rfl (DA (AA (pv 5))) (Br 9 nd)
  (Ac (JB (Ue (AA (pv 8)) (CM (EA (own:=["place"]) (N':=["place", "·1", "·2", "·3", "·4", "·5", "·6", "·7", "·8", "·9", "row"]) rfl (DB (by kernel_rfl)) (DA (AA (pv 7))) (λ_ _ _ _ _ _=>(Br 0 (by decide +kernel:(["place", "·1", "·2", "·3", "·4", "·5", "·6", "·7", "·8", "·9", "row"]:List Str).Nodup))) (λ_ _ _ _ _ _=>(Gp (Go hu (AA (pv 0)) (AA (pv 10))))) (λ_ _ _ _ _ _=>(BK Dw (AA (pv 10)) (FB (AH (AA (pv 0)) Al))))))))))
  (Ac (CC 5 nd (AA (pv 8))))))))
  (Ac (Bp (E1 rfl rfl T.b_sorted (CM (EA (own:=["row"]) (N':=["row", "·1", "·2", "call", "·4", "·5", "·6", "·7", "·8", "·9", "·10"]) rfl (DB (by kernel_rfl)) (DA (AA (pv 5))) (λ_ _ _ _ _ _=>(Br 0 (by decide +kernel:(["row", "·1", "·2", "call", "·4", "·5", "·6", "·7", "·8", "·9", "·10"]:List Str).Nodup))) (λ_ _ _ _ _ _=>(Gp (Sr hu (AA (pv 3)) (AA (pv 0))))) (λ_ _ _ _ _ _=>(AA (pv 0)))))))))))
theorem Tl:Bg ["script", "start", "most", "many"] ["script", "start", "most"] (BE LQ):=FH
theorem Ts(T:Txt K mg W):DC P w K mg base (CXG P w) 1 T.d__law_turns.f T.d__law_turns.fd ["script", "start", "most"] (spM K 3 (Lm W)):=by
 refine Ba (k:=0) T.d__law_turns.F Tl rfl λ_ _ _ _ _ _ hr hu nd=>?_
 exact(AN (CC 3 nd (Rc rfl rfl T.b_min (AH (AA (pv 2)) (AH (aM rfl rfl T.b_max (AH ge_int (AH (BK Ja (Hz rfl T.b_len (AA (pv 0))) (AA (pv 1))) Al))) Al))))
  (Ac (Bp (CM (EA (own:=["k"]) (N':=["k", "script", "start", "most", "·4"]) rfl (DB (by kernel_rfl)) (Dc rfl T.b_range (AH (AA (pv 3)) Al)) (λ_ _ _ _ _ _=>(Br 0 (by decide +kernel:(["k", "script", "start", "most", "·4"]:List Str).Nodup))) (λ_ _ _ _ _ _=>EL) (λ_ _ _ _ _ _=>(ZG rfl rfl T.b_sum (cG (AA (pv 1)) (Rb (BK Dw (AA (pv 2)) (AA (pv 0)))) V7 (Rb (AA (pv 3)))))))))))
theorem To:Bg ["ties", "places", "stay", "standing", "cells", "kind", "cell", "free", "rows", "good"] ["ties", "places", "stay", "standing", "cells", "kind"] (BE LS):=FH
theorem Tt(T:Txt K mg W):DC P w K mg base (CXG P w) 3 T.d__law_lasts.f T.d__law_lasts.fd ["ties", "places", "stay", "standing", "cells", "kind"] (spM K 6 (Ln W)):=by
 refine Ba (k:=2) T.d__law_lasts.F To rfl λ_ _ _ _ _ _ hr hu nd=>?_
 exact(AN (DF (good_none rfl).own rfl (DA (AA (pv 4))) (Br 6 nd)
  (AN (Nc (i:=7) (own:=["place"]) (N':=["place", "·1", "·2", "·3", "standing", "·5", "·6", "·7", "·8", "·9", "·10"]) rfl rfl nd rfl (by first | exact NQ rfl | exact L8 rfl) (DB (by kernel_rfl)) (Dc rfl T.b_range (AH (AA (pv 1)) Al)) (λ_ _ _ _ _ _=>(Br 0 (by decide +kernel:(["place", "·1", "·2", "·3", "standing", "·5", "·6", "·7", "·8", "·9", "·10"]:List Str).Nodup))) (λ_ _ _ _ _ _=>(Gp (Go hu (AA (pv 0)) (AA (pv 4))))) (λ_ _ _ _ _ _=>(AA (pv 0))))
  (Ac (D2 (Ec (fB hu) (AA (pv 7)) (CM (Ez Al)) (Eb _)) (AN (CC 8 nd (gcl T.d__law_answers (MF T) hr (AH (AA (pv 0)) (AH (AA (pv 3)) (AH (Cm hu (AA (pv 7)) (BK Ii (AA (pv 6)) (Hz rfl T.b_len (AA (pv 7))))) (AH (AA (pv 5)) Al))))))
  (AN (Nc (i:=9) (own:=["row"]) (N':=["row", "·1", "·2", "stay", "·4", "·5", "·6", "·7", "·8", "·9", "·10"]) rfl rfl nd rfl (by first | exact NQ rfl | exact L8 rfl) (DB (by kernel_rfl)) (DA (AA (pv 8))) (λ_ _ _ _ _ _=>(Br 0 (by decide +kernel:(["row", "·1", "·2", "stay", "·4", "·5", "·6", "·7", "·8", "·9", "·10"]:List Str).Nodup))) (λ_ _ _ _ _ _=>(Gp (Sr hu (HS rfl T.b_tuple (E1 rfl rfl T.b_sorted (AA (pv 0)))) (AA (pv 3))))) (λ_ _ _ _ _ _=>(AA (pv 0))))
  (AN (D2 (Ec (Kv hu) (AA (pv 9)) (CM (Ez Al)) (Eb _)) (Ac (Bp Ip)) CL)
  (Ac (CC 3 nd (HS rfl T.b_tuple (E1 rfl rfl T.b_sorted (Cm hu (AA (pv 9)) (BK Ii (BK O9 (AA (pv 6)) ge_int) (Hz rfl T.b_len (AA (pv 9)))))))))))) CL))))
  (Ac (Bp Ip)))
theorem Tp:Bg ["ties", "gone", "standing", "cells", "kind", "told", "one", "turn", "call", "k", "rows", "cell"] ["ties", "gone", "standing", "cells", "kind"] (BE LU):=FH
theorem Tu(T:Txt K mg W):DC P w K mg base (CXG P w) 3 T.d__law_falls.f T.d__law_falls.fd ["ties", "gone", "standing", "cells", "kind"] (spM K 5 (Lp W)):=by
 refine Ba (k:=2) T.d__law_falls.F Tp rfl λ_ _ _ _ _ _ hr hu nd=>?_
 exact(AN (CC 5 nd PV)
  (AN (DF (good_none rfl).own rfl (DA (AA (pv 1))) (QK rfl (E0 (Br 6 nd) (E0 (Br 7 nd) (E0 (Br 8 nd) Nd))))
  (Ac (Gw (Ax (B1 (by decide:1<=64) _) hu) (AA (pv 5)) (AA (pv 6)) (FB (AH (AA (pv 7)) (AH (AA (pv 8)) Al))) rfl)))
  (AN (DF (good_none rfl).own rfl (Dc rfl T.b_range (AH (Cm hu (Cm hu (AA (pv 5)) (AA (pv 2))) ge_int) Al)) (Br 9 nd)
  (AN (pQ (Cm hu (AA (pv 5)) (AA (pv 2))) (QK rfl (E0 (Br 7 nd) (E0 (Br 8 nd) Nd))))
  (AN (CC 10 nd (gcl T.d__law_answers (MF T) hr (AH (AA (pv 0)) (AH (AA (pv 2)) (AH (AA (pv 8)) (AH (AA (pv 4)) Al))))))
  (AN (D2 (Ec (Kv hu) (AA (pv 10)) (CM (Ez Al)) (Eb _)) (Ac (Bp Ip)) CL)
  (AN (CC 11 nd (BK fC ge_int (AA (pv 9))))
  (AN (D2 (Ec (fB hu) (AA (pv 3)) (CM (Ez Al)) (Eb _)) (Ac (CC 11 nd (Cm hu (AA (pv 3)) (BK Ii (AA (pv 9)) (Hz rfl T.b_len (AA (pv 3))))))) CL)
  (AN (CC 2 nd (HS rfl T.b_tuple (E1 rfl rfl T.b_sorted (Cm hu (AA (pv 10)) (BK Ii (AA (pv 11)) (Hz rfl T.b_len (AA (pv 10))))))))
  (Ac (D2 (gH (mG (Go hu (AA (pv 2)) (AA (pv 5))) (gF (Ec lw (Cm hu (Cm hu (AA (pv 5)) (AA (pv 2))) ge_int) (AA (pv 7)) (Eb _))))) (Ac (Bp Ip)) CL)))))))))
  (Ac (Bp Ip)))))
theorem nh:Bg ["script", "head", "places", "ties", "web", "guards", "kind", "some", "stay", "gone", "cells", "start"] ["script"] (BE Zs):=FH
theorem oj(T:Txt K mg W):DC P w K mg base (CXG P w) 18 T.d_law.f T.d_law.fd ["script"] (spM K 1 (aR W)):=by
 refine Ba (k:=17) T.d_law.F nh rfl λ_ _ _ _ _ _ hr hu nd=>?_
 exact(AN (CC 1 nd (gcl T.d__law_cell_at (FG T) hr (AH (AA (pv 0)) (AH ge_int Al))))
  (AN (CC 2 nd (BK Dw (BK Dw ge_int (BK Ii (AA (pv 1)) ge_int)) (aN rfl T.b_int (ZH (Kv hu) (BK Ii (BK O9 (AA (pv 1)) ge_int) ge_int) ge_int (Eb _)))))
  (AN (CC 3 nd (gcl T.d__law_ties (Vw T) hr (AH (AA (pv 0)) (AH ge_int (AH (AA (pv 2)) Al)))))
  (AN (CC 4 nd (WA T.c_Web.mk' (XW T) (good_none rfl).pass (hr.mono (by decide)) rfl T.c_Web.m T.d_Web_init.b (AH (AA (pv 2)) (AH (gcl T.d__law_handed (SW T) hr (AH (AA (pv 0)) (AH (AA (pv 3)) Al))) Al))))
  (AN (CC 5 nd (BK Dw ge_int (BK Ii (gcl T.d__law_cell_at (FG T) hr (AH (AA (pv 0)) (AH ge_int Al))) (Rc rfl rfl T.b_min (AH (AA (pv 2)) (AH (Cm hu (CM (Ez (AH ge_int (AH ge_int Al)))) (aN rfl T.b_int (ZH Z2 (AA (pv 2)) ge_int (Eb _)))) Al))))))
  (AN (CC 6 nd (Cm hu (CM (Ez (AH V8 (AH V8 Al)))) (BK Ii (gcl T.d__law_cell_at (FG T) hr (AH (AA (pv 0)) (AH ge_int Al))) ge_int)))
  (AN (CC 7 nd (gcl T.d__law_sets (Vx T) hr (AH (AA (pv 2)) (AH (AA (pv 5)) Al))))
  (AN (CC 8 nd (gcl T.d_lasting (Yv T) hr (AH (AA (pv 4)) (AH (AA (pv 5)) (AH (AA (pv 6)) Al)))))
  (AN (CC 9 nd (gcl T.d_falls (fA T) hr (AH (AA (pv 4)) (AH (AA (pv 5)) (AH (AA (pv 6)) Al)))))
  (AN (CC 10 nd (gcl T.d__law_turns (Ts T) hr (AH (AA (pv 0)) (AH ge_int (AH ge_int Al)))))
  (AN (DF (good_none rfl).own rfl (DA (CM (Ez (AH (Cm hu (AA (pv 7)) (BK Ii (ZG rfl rfl T.b_sum (AA (pv 0))) (Hz rfl T.b_len (AA (pv 7))))) (AH (Cm hu (AA (pv 7)) ge_int) (AH (Cm hu (AA (pv 7)) (V9 ge_int)) Al)))))) (Br 11 nd)
  (Ac (D2 (Sr hu (AA (pv 11)) (AA (pv 8))) (Ac (D2 (OR (Ey (gcl T.d__law_lasts (Tt T) hr (AH (AA (pv 3)) (AH (AA (pv 2)) (AH (AA (pv 8)) (AH (AA (pv 11)) (AH (AA (pv 10)) (AH (AA (pv 6)) Al))))))))) (Ac (Bp Ip)) CL)) (Ac (D2 (OR (Ey (gcl T.d__law_falls (Tu T) hr (AH (AA (pv 3)) (AH (AA (pv 9)) (AH (AA (pv 11)) (AH (AA (pv 10)) (AH (AA (pv 6)) Al)))))))) (Ac (Bp Ip)) CL)))))
  (Ac (Bp Ip)))))))))))))
end
open PySem L2
open Srt (ltL)
def pairD(x:Int×Int):D:=.tup [.int x.1,.int x.2]
def nrm(x:Int×Int):Int×Int:=(if x.2 < x.1 then x.2 else x.1,if x.2 > x.1 then x.2 else x.1)
def Vn(x:Int×Int):ZLi:=[x.1,x.2]
def PN(x:Int×Int):List Key:=[.inl x.1,.inl x.2]
theorem Xn(h:PN x=PN y):x=y:=by
 unfold PN at h;simp at h;exact UF h.1 h.2
theorem OQ:∀ns:ZLi,Je (ns.map D.int)=some ns
 | []=>rfl
 | n :: ns=>by
  rw[BG];unfold Je;rw[OQ ns];rfl
theorem SN:∀rs:List ZLi,(∀r∈rs,r≠[])->N1 (rs.map Nl)=some rs
 | [],_=>rfl
 | [] :: rs,h=>zX rfl (h [] Af)
 | (n :: ns) :: rs,h=>by
  rw[BG];unfold Nl N1;rw[OQ,show Qa (λr:ZLi=>D.tup (r.map D.int)) rs=rs.map Nl from rfl,SN rs λr hr=>h r (AY _ hr)]
theorem Yh(rs:List ZLi)(h:∀r∈rs,r≠[]):Kr (rs.map Nl)=some ((J1 rs).map Nl):=by
 unfold Kr
 cases rs with
 | nil=>simp[Je,J1]
 | cons r rs=>
  have:Je ((r :: rs).map Nl)=none:=rfl;rw[this,SN _ h]
theorem Yi(ns:ZLi):Kr (ns.map D.int)=some ((B2 ns).map D.int):=by
 unfold Kr;rw[OQ]
def Mz(ps:List ZPi):List (List Key×D):=ps.map λx=>(PN (nrm x),.bl true)
theorem fO(ps:List ZPi)(x:Int×Int):(Ai (Mz ps) (PN (nrm x))).isSome=decide (nrm x∈ps.map nrm):=by
 unfold Ai Mz
 induction ps with
 | nil=>rfl
 | cons y ps ih=>
  rw[BG,Cb]
  by_cases e:PN (nrm y)=PN (nrm x)
  ·rw[wX e]
   simp[Xn e]
  ·rw[wY e]
   have e':nrm x≠nrm y:=λz=>e (by rw[z])
   simp only[BG,Ap,e',false_or];exact ih
theorem fN(ps:List ZPi)(x:Int×Int)(h:nrm x∉ps.map nrm):CG (Mz ps) (PN (nrm x)) (.bl true)=Mz (ps++[x]):=by
 unfold CG;rw[qY]
 ·simp[Mz]
 ·intro z
  obtain⟨y,hy,e⟩:=Ge.mp z;obtain⟨a,ha,rfl⟩:=BO.mp hy;exact h (by rw[<-Xn (of_decide_eq_true e)];exact az ha)
theorem sv(h:S[n]?=some (.dT f'))(neg:Bool):inA neg (pairD x) (.ref n) S=.ok (.bl (if neg then !(Ai f' (PN x)).isSome else(Ai f' (PN x)).isSome)) S:=by
 show JZ (inD neg (pairD x) (.ref n) S) (Nq neg (pairD x) (.ref n) S)=_
 have e:inD neg (pairD x) (.ref n) S=.bad:=by
  unfold inD Ga;dsimp only;rw[h]
 have e2:MP (.ref n) (pairD x) S=some (Ai f' (PN x)):=by
  unfold MP pairD;dsimp only;rw[h];rfl
 rw[e];show Nq neg (pairD x) (.ref n) S=_;unfold Nq;rw[e2]
theorem gi(hv:mv e S=.ok v S)(ho:mo e S=.ok (.ref d) S)(hi:mi e S=.ok (pairD x) S)(h:S[d]?=some (.dT f'))(hl:f'.length < sizeLine) :
  Cv mo mi mv e S=.ok (.nx e) (S.set d (.dT (CG f' (PN x) v))):=by
 unfold Cv;rw[hv];dsimp only[Res.lift];rw[ho];dsimp only[Res.lift];rw[hi];dsimp only[Res.lift]
 have:QS (.ref d) (pairD x) v S=some (S.set d (.dT (CG f' (PN x) v))):=by
  unfold QS pairD;dsimp only;rw[h];show(if f'.length < sizeLine then some (S.set d (.dT (CG f' (PN x) v)))else none)=_;rw[qX hl]
 rw[this]
theorem ix0(x:Int×Int)(S:Sto):ixA (pairD x) (.int 0) S=.ok (.int x.1) S:=rfl
theorem ix1(x:Int×Int)(S:Sto):ixA (pairD x) (.int 1) S=.ok (.int x.2) S:=rfl
def Fit(p:Int)(x:Int×Int):Prop:=(nrm x).1≠(nrm x).2/\0<=(nrm x).1/\(nrm x).2 < p
abbrev qE(W:Wd):MS:=BJ (CT 5 (Hi (AM (mQ N4 (AM (AD 3) (AM (AD 4) BI))) (AM (mQ Qk (AM (AD 3) (AM (AD 4) BI))) BI))))
  (BJ (sIf (mB (m2 (eqD false) (m2 ixA (AD 5) (mC (.int 0))) (m2 ixA (AD 5) (mC (.int 1))))) SL sNx)
  (BJ (sIf (mOr (mB (m2 ltD (m2 ixA (AD 5) (mC (.int 0))) (mC (.int 0)))) (mB (m2 geD (m2 ixA (AD 5) (mC (.int 1))) (AD 0)))) SL sNx)
  (BJ (sIf (mB (m2 (inA false) (AD 5) (AD 2))) SL sNx)
  (Cv (AD 2) (AD 5) (mC (.bl true))))))
theorem Vy(h:t e S=.ok false S):sIf t a sNx e S=.ok (.nx e) S:=(Hq (a:=a) (b:=sNx) h).trans rfl
theorem di(hn:S[n]?=some (.dT (Mz ps)))(hl:ps.length<=100000)(hf:Fit p x)(f4:nrm x∉ps.map nrm) :
  qE W [sI p,some t,sR n,sI x.1,sI x.2,z5] S=oN [sI p,some t,sR n,sI x.1,sI x.2,some (pairD (nrm x))] (S.set n (.dT (Mz (ps++[x])))):=by
 have e0:CT 5 (Hi (AM (mQ N4 (AM (AD 3) (AM (AD 4) BI))) (AM (mQ Qk (AM (AD 3) (AM (AD 4) BI))) BI))) [sI p,some t,sR n,sI x.1,sI x.2,z5] S =
   oN [sI p,some t,sR n,sI x.1,sI x.2,some (pairD (nrm x))] S:=
  Mi (i:=5) (Yc (ds:=[.int (nrm x).1,.int (nrm x).2]) (C0 (jh (ds:=[.int x.1,.int x.2]) (S1:=S) rfl rfl) (C0 (jh (ds:=[.int x.1,.int x.2]) (S1:=S) rfl rfl) rfl)) (by simp))
 obtain⟨f1,f2,f3⟩:=hf;refine(CS e0).trans ((CS (Vy (WS (Em (Em rfl rfl (ix0 _ _)) (Em rfl rfl (ix1 _ _)) (pz (wY f1)))))).trans ((CS (Vy ((eu (WS (Em (Em rfl rfl (ix0 _ _)) rfl (ou (wY (by lia)))))).trans (WS (Em (Em rfl rfl (ix1 _ _)) rfl (pX (wY (by lia)))))))).trans ((CS (Vy (WS (Em rfl rfl ?_)))).trans ?_)))
 ·rw[sv hn,fO,wY f4]
  rfl
 ·rw[gi (x:=nrm x) rfl rfl rfl hn (by unfold Mz;rw[AF];exact Ax hl (by decide)),fN _ _ f4]
theorem cC(h:m e S=.ok d S1)(hx:Fm d S1=some xs):D1 m e S=.ok (Fm d) S1:=by
 unfold D1;rw[h];dsimp only[Res.bind];rw[hx]
def GC(p:Int)(ps:List ZPi):Prop:=(∀x∈ps,Fit p x)/\(ps.map nrm).Nodup
theorem GC.snoc:GC p (ps++[x])↔GC p ps/\Fit p x/\nrm x∉ps.map nrm:=by
 unfold GC;rw[Ca,Fg]
 constructor
 ·rintro⟨h1,h2,h3,h4⟩
  exact⟨⟨λy hy=>h1 y (by simp[hy]),h2⟩,h1 x (by simp),λz=>h4 _ z _ (by simp) rfl⟩
 ·rintro⟨⟨h1,h2⟩,h3,h4⟩
  refine⟨λy hy=>?_,h2,by simp,λa ha b hb e=>?_⟩
  ·rcases A9.mp hy with hy | hy
   ·exact h1 y hy
   ·rw[Aa.mp hy];exact h3
  ·simp at hb
   subst hb;subst e;exact h4 ha
theorem GC.take(h:GC p ps)(i:Nat):GC p (ps.take i):=by
 refine⟨λx hx=>h.1 x (List.mem_of_mem_take hx),?_⟩;rw[mU];exact h.2.sublist (cr _ _)
theorem take_snoc{α:Type}{l:List α}{i:Nat}{x:α}(h:l[i]?=some x):l.take (i+1)=l.take i++[x]:=by
 rw[Ff,h];rfl
theorem WH(W:Wd){p:Int}{d:D}{S:Sto}{ps:List ZPi}(hv:∀S',Keeps S S'->Fm d S'=some (ps.map pairD))(hl:ps.length<=90000)(hf:GC p ps) :
  ∃z3 z4 z5,FF (D1 (AD 1)) (Io 2 (DE (tgN 3) (DE (tgN 4) JO))) (qE W) [sI p,some d,sR S.length,none,none,none] (S++[.dT []])=oN [sI p,some d,sR S.length,z3,z4,z5] (S++[.dT (Mz ps)]):=by
 rw[KR (cC (m:=AD 1) (d:=d) (S1:=S++[.dT []]) rfl (hv _ (Keeps.app _ _)))]
 obtain⟨f,S',h,z3,z4,z5,rfl,rfl⟩:=M9 (v:=Fm d) (g:=Io 2 (DE (tgN 3) (DE (tgN 4) JO))) (b:=qE W) (xs:=ps.map pairD) (e:=[sI p,some d,sR S.length,none,none,none]) (S:=S++[.dT []]) (λi e S'=>(∃z3 z4 z5,e=[sI p,some d,sR S.length,z3,z4,z5])/\S'=S++[.dT (Mz (ps.take i))]) (λf S'=>∃z3 z4 z5,f=.nx [sI p,some d,sR S.length,z3,z4,z5]/\S'=S++[.dT (Mz ps)]) ⟨⟨none,none,none,rfl⟩,by simp[Mz]⟩ (by rintro i e S' ⟨_,rfl⟩;exact hv _ (Keeps.app _ _))
  (by
   rintro i y e S' hy ⟨⟨z3,z4,z5,rfl⟩,rfl⟩;rw[Ak]at hy
   cases hx:ps[i]? with
   | none=>rw[hx]at hy;cases hy
   | some x=>
    rw[hx]at hy;cases hy;have uw:=(AE.mp hx).1;have af:=hf.take (i+1);rw[take_snoc hx]at af;obtain⟨_,c1,c2⟩:=GC.snoc.mp af;refine⟨[sI p,some d,sR S.length,sI x.1,sI x.2,z5],_,rfl,_,_,di (W:=W) (p:=p) (t:=d) (z5:=z5) (x:=x) (Ed S (.dT (Mz (ps.take i)))) (by rw[Di];lia) c1 c2,⟨_,_,_,rfl⟩,?_⟩;rw[take_snoc hx]
    simp)
  (by
   rintro e S' ⟨⟨z3,z4,z5,rfl⟩,rfl⟩;rw[AF,L9]
   exact⟨_,_,_,rfl,rfl⟩)
 exact⟨z3,z4,z5,h⟩
def LL(ps:List ZPi):List ZLi:=J1 (ps.map λx=>Vn (nrm x))
theorem WI(W:Wd){p:Int}{d:D}{S:Sto}{ps:List ZPi}(hv:∀S',Keeps S S'->Fm d S'=some (ps.map pairD))(hl:ps.length<=90000)(hf:GC p ps) :
  ∃S',HW W [.int p,d] S=.ok (.tup ((LL ps).map Nl)) S'/\Keeps S S':=by
 obtain⟨z3,z4,z5,h1⟩:=WH W hv hl hf
 ·have hi:KP (.ref S.length) (S++[.dT (Mz ps)])=some ((ps.map λx=>Vn (nrm x)).map Nl):=by
   unfold KP;dsimp only;rw[Ed];dsimp only;unfold Mz;rw[BP,BP];rfl
  have hs:=JK (m:=AD 2) (e:=[sI p,some d,sR S.length,z3,z4,z5]) (S:=S++[.dT (Mz ps)]) rfl hi (Yh _ (by intro r hr;obtain⟨x,_,rfl⟩:=BO.mp hr;simp[Vn]));refine⟨S++[.dT (Mz ps)]++[.lst ((LL ps).map Nl)],Mp ?_,(Keeps.app S _).trans (Keeps.app _ _)⟩;refine IH (CS (e:=[sI p,some d,none,none,none,none]) (e1:=[sI p,some d,sR S.length,none,none,none]) (S:=S) (S1:=S++[.dT []]) rfl) ?_;refine IH (CS h1) ?_;exact Mr (Ov hs (Gk (Ed _ _)))
open PySem L2
def DO(ts:List ZPi)(x:Nat):ZLi:=ts.flatMap λt=>(if t.1=(x:Int)then[t.2]else[])++(if t.2=(x:Int)then[t.1]else[])
theorem Xc(ts:List ZPi)(t:Int×Int)(x:Nat):DO (ts++[t]) x=DO ts x++((if t.1=(x:Int)then[t.2]else[])++(if t.2=(x:Int)then[t.1]else[])):=by
 unfold DO;rw[bB];simp
def HF(p:Nat)(F:Nat->ZLi):Sto:=(D4 p).map λx=>Ob.lst ((F x).map D.int)
def Fq(k p:Nat):List D:=(D4 p).map λx=>D.ref (k+x)
def stN(S:Sto)(p:Nat)(F:Nat->ZLi):Sto:=S++HF p F++[.lst (Fq S.length p)]
theorem JW(p:Nat)(F:Nat->ZLi):(HF p F).length=p:=by simp[HF]
theorem Ve(S:Sto)(p:Nat)(F:Nat->ZLi):(stN S p F).length=S.length+p+1:=by simp[stN,JW];lia
theorem P3(S:Sto)(p:Nat)(F:Nat->ZLi):Keeps S (stN S p F):=(Keeps.app S _).trans (Keeps.app _ _)
theorem Mh(S:Sto)(p:Nat)(F:Nat->ZLi):(stN S p F)[S.length+p]?=some (.lst (Fq S.length p)):=by
 have:S.length+p=(S++HF p F).length:=by simp[JW]
 unfold stN;rw[this];exact Ed _ _
theorem LN(S:Sto)(F:Nat->ZLi)(h:a < p):(stN S p F)[S.length+a]?=some (.lst ((F a).map D.int)):=by
 unfold stN;rw[Bu,Bn (by lia),Av (by rw[JW];lia),show S.length+a - S.length=a by lia];unfold HF;rw[Ak,E3 h];rfl
theorem Zr(S:Sto)(F:Nat->ZLi)(ys:ZLi)(h:a < p):(stN S p F).set (S.length+a) (.lst (ys.map D.int))=stN S p (λx=>if x=a then ys else F x):=by
 apply Hl
 intro j
 by_cases e:S.length+a=j
 ·subst e
  rw[At (by rw[Ve];lia),LN _ _ h,qX rfl]
 ·rw[Ah e]
  by_cases h1:j < S.length
  ·rw[(P3 S p F).2 j h1,(P3 S p _).2 j h1]
  by_cases h2:j - S.length < p
  ·have e2:j=S.length+(j - S.length):=by lia
   rw[e2,LN S F h2,LN S _ h2,qY (by lia)]
  by_cases h3:j=S.length+p
  ·subst h3
   rw[Mh,Mh]
  ·rw[CI (by rw[Ve];lia),CI (by rw[Ve];lia)]
theorem aF(F:Nat->ZLi)(h:a < p):ixA (.ref (S.length+p)) (.int a) (stN S p F)=.ok (.ref (S.length+a)) (stN S p F):=by
 show JZ (ixD _ _ _) _=_;have e1:Ga (.ref (S.length+p)) (stN S p F)=some (Fq S.length p):=Gk (Mh S p F)
 have e2:atI (Fq S.length p) (a:Int)=some (.ref (S.length+a)):=by
  unfold atI ixN;rw[show(Fq S.length p).length=p by simp[Fq],qX (by lia),qX (by lia)];simp only[AB,As];unfold Fq;rw[Ak,E3 h];rfl
 have:ixD (.ref (S.length+p)) (.int a) (stN S p F)=.ok (.ref (S.length+a)) (stN S p F):=by
  unfold ixD;rw[e1];dsimp only;rw[e2]
 rw[this];rfl
theorem dq(S:Sto):∀p:Nat,S++HF (p+1) (λ_=>[])=S++HF p (λ_=>[])++[.lst []]:=λp=>by
 unfold HF;rw[Mb,Ca,Bu];rfl
theorem bb(hp:p<=60)(h0:mp e S=.ok (.int p) S) :
  Dt 1 (iR1 (AM mp BI)) (tgN 0) Gr (Db (Dy BI)) e S=.ok (Fq S.length p) (S++HF p λ_=>[]):=by
 have hi:iR1 (AM mp BI) e S=.ok (Hm (JX 0 p)) S:=by
  have:=fx (ml:=AM mp BI) (e:=e) (S:=S) (S1:=S) (j:=p) (C0 h0 rfl) (by lia) (by lia);simpa using this
 obtain⟨r,S1,q1,e',⟨z,_⟩,rfl,rfl⟩:=aZ (v:=Hm (JX 0 p)) (g:=tgN 0) (c:=Gr) (m:=Db (Dy BI)) (xs:=JX 0 p) (e:=none :: e) (S:=S)
  (λi e' S' acc=>(∃z,e'=z :: e)/\S'=S++HF i (λ_=>[])/\acc=Fq S.length i)
  ⟨⟨none,rfl⟩,by simp[HF],rfl⟩ (λ_ _ _ _ _=>rfl)
  (by
   rintro i d e' S' acc hd ⟨⟨z,rfl⟩,rfl,rfl⟩;obtain⟨hi,rfl⟩:=eG hd;refine⟨by simp[Fq];exact Ax (m:=60) (by lia) (by decide),some (.int (0+i)) :: e,_,rfl,true,_,rfl,.inl ⟨rfl,.ref (S++HF i λ_=>[]).length,_,rfl,⟨_,rfl⟩,(dq S i).symm,?_⟩⟩;unfold Fq;rw[Mb,Ca,AX,JW]
   rfl)
 rw[be]at q1;exact(WF hi).trans q1
abbrev ag:MS:=BJ (IU (RA (m2 ixA (AD 2) (AD 3)) (AD 4))) (IU (RA (m2 ixA (AD 2) (AD 4)) (AD 3)))
def In(p:Nat)(t:Int×Int):Prop:=0<=t.1/\t.1 < p/\0<=t.2/\t.2 < p/\t.1≠t.2
theorem ba(ht:In p t)(hF:∀x,(F x).length < 200000) :
  ag [some d0,some d1,sR (S.length+p),sI t.1,sI t.2] (stN S p F)=.ok (.nx [some d0,some d1,sR (S.length+p),sI t.1,sI t.2])
   (stN S p λx=>F x++((if t.1=(x:Int)then[t.2]else[])++(if t.2=(x:Int)then[t.1]else[]))):=by
 obtain⟨a,ha⟩:∃a:Nat,t.1=a:=⟨t.1.toNat,by have:=ht.1;lia⟩
 obtain⟨b,hb⟩:∃b:Nat,t.2=b:=⟨t.2.toNat,by have:=ht.2.2.1;lia⟩
 obtain⟨_,h2,_,h4,h5⟩:=ht
 have xF:a≠b:=λe=>h5 (by rw[ha,hb,e])
 rw[ha,hb]
 have hz:∀x,((F x).map D.int).length < sizeLine:=λx=>by rw[AF];exact qm (hF x) (by decide)
 have s1:=ZS (mo:=m2 ixA (AD 2) (AD 3)) (ma:=AD 4) (e:=[some d0,some d1,sR (S.length+p),sI a,sI b]) (S:=stN S p F) (S1:=stN S p F) (S2:=stN S p F) (n:=S.length+a) (y:=.int b) (Em rfl rfl (aF F (by lia))) (LN S F (by lia)) rfl (LN S F (by lia)) (hz a);rw[show(F a).map D.int++[D.int b]=(F a++[(b:Int)]).map D.int by simp,Zr S F _ (by lia)]at s1
 have z9:(stN S p λx=>if x=a then F a++[(b:Int)]else F x)[S.length+b]?=some (.lst ((F b).map D.int)):=by
  rw[LN S _ (by lia),qY (Ci xF)]
 have s2:=ZS (mo:=m2 ixA (AD 2) (AD 4)) (ma:=AD 3) (e:=[some d0,some d1,sR (S.length+p),sI a,sI b]) (S:=stN S p λx=>if x=a then F a++[(b:Int)]else F x) (S1:=stN S p λx=>if x=a then F a++[(b:Int)]else F x) (S2:=stN S p λx=>if x=a then F a++[(b:Int)]else F x) (n:=S.length+b) (y:=.int a) (Em rfl rfl (aF _ (by lia))) z9 rfl z9 (hz b);rw[show(F b).map D.int++[D.int a]=(F b++[(a:Int)]).map D.int by simp,Zr S _ _ (by lia)]at s2;unfold ag;rw[CS (Pa s1),Pa s2]
 congr 2
 funext x
 by_cases e1:x=b
 ·subst e1
  have:¬((a:Int)=(x:Int)):=by lia
  simp[this]
 ·by_cases e2:x=a
  ·subst e2
   have:¬((b:Int)=(x:Int)):=by lia
   simp[e1,this]
  ·have h1:¬((a:Int)=(x:Int)):=by lia
   have h2:¬((b:Int)=(x:Int)):=by lia
   simp[e1,e2,h1,h2]
theorem Y0(ts:List ZPi)(x:Nat):(DO ts x).length<=2 * ts.length:=by
 unfold DO
 induction ts with
 | nil=>simp
 | cons t ts ih=>
  rw[Kl,AX,BB]
  have:((if t.1=(x:Int)then[t.2]else[])++(if t.2=(x:Int)then[t.1]else[])).length<=2:=by split <;> split <;> simp
  lia
def P4(p:Nat)(ts:List ZPi):List D:=(D4 p).map λx=>.tup ((B2 (DO ts x)).map D.int)
theorem kI(W:Wd)(hp:p<=60)(ht:∀t∈ts,In p t)(hl:ts.length<=90000)(S:Sto) :
  ∃S',HV W [.int p,.tup (ts.map pairD)] S=.ok (.tup (P4 p ts)) S'/\Keeps S S':=by
 have a1:=Mi (i:=2) (Yz (bb hp (mp:=AD 0) (e:=[sI p,some (.tup (ts.map pairD)),none,none,none]) (S:=S) rfl));have e1:(S++HF p λ_=>[])++[.lst (Fq S.length p)]=stN S p (DO []):=rfl
 have e2:(S++HF p λ_=>[]).length=S.length+p:=by simp[JW]
 rw[e1,e2]at a1
 obtain⟨f,S1,h1,⟨z3,z4,rfl⟩,rfl⟩:=M9 (v:=Hm (ts.map pairD)) (g:=Io 2 (DE (tgN 3) (DE (tgN 4) JO))) (b:=ag) (xs:=ts.map pairD) (e:=[sI p,some (.tup (ts.map pairD)),sR (S.length+p),none,none]) (S:=stN S p (DO []))
  (λi e S'=>(∃z3 z4,e=[sI p,some (.tup (ts.map pairD)),sR (S.length+p),z3,z4])/\S'=stN S p (DO (ts.take i)))
  (λf S'=>(∃z3 z4,f=.nx [sI p,some (.tup (ts.map pairD)),sR (S.length+p),z3,z4])/\S'=stN S p (DO ts))
  ⟨⟨none,none,rfl⟩,rfl⟩ (λ_ _ _ _=>rfl)
  (by
   rintro i y e S' hy ⟨⟨z3,z4,rfl⟩,rfl⟩;rw[Ak]at hy
   cases hx:ts[i]? with
   | none=>rw[hx]at hy;cases hy
   | some t=>
    rw[hx]at hy;cases hy;refine⟨[sI p,some (.tup (ts.map pairD)),sR (S.length+p),sI t.1,sI t.2],_,rfl,_,_,ba (ht t (BL hx)) (λx=>?_),⟨_,_,rfl⟩,?_⟩
    ·have:=Y0 (ts.take i) x
     rw[Di]at this;exact Ax (Aw this (Nat.mul_le_mul_left 2 (Aw (iS _ _) hl))) (by decide)
    ·rw[take_snoc hx,show DO (ts.take i++[t])=_ from funext λx=>Xc _ _ x])
  (by
   rintro e S' ⟨⟨z3,z4,rfl⟩,rfl⟩;rw[AF,L9]
   exact⟨⟨_,_,rfl⟩,rfl⟩)
 have a2:=(KR (g:=Io 2 (DE (tgN 3) (DE (tgN 4) JO))) (b:=ag) (Sq (m:=AD 1) (e:=[sI p,some (.tup (ts.map pairD)),sR (S.length+p),none,none]) (S:=stN S p (DO [])) (S1:=stN S p (DO [])) (xs:=ts.map pairD) rfl)).trans h1
 obtain⟨r,S2,q1,e',⟨z,_⟩,K,rfl⟩:=aZ (v:=Fm (.ref (S.length+p))) (g:=tgN 0) (c:=Gr) (m:=Gz (Ds (AD 0))) (xs:=Fq S.length p) (e:=[none,sI p,some (.tup (ts.map pairD)),sR (S.length+p),z3,z4]) (S:=stN S p (DO ts))
  (λi e' S' acc=>(∃z,e'=[z,sI p,some (.tup (ts.map pairD)),sR (S.length+p),z3,z4])/\Keeps (stN S p (DO ts)) S'/\acc=(D4 i).map λx=>.tup ((B2 (DO ts x)).map D.int))
  ⟨⟨none,rfl⟩,.refl _,rfl⟩ (λi e' S' acc h=>ED (h.2.1.at (Mh S p _)))
  (by
   rintro i d e' S' acc hd ⟨⟨z,rfl⟩,K,rfl⟩
   have hi:i < p:=by
    have:=(AE.mp hd).1;simpa[Fq]using this
   unfold Fq at hd;rw[Ak,E3 hi]at hd;cases hd;have hit:KP (.ref (S.length+i)) S'=some ((DO ts i).map D.int):=OP (K.at (LN S _ hi));have hs:=JK (m:=AD 0) (e:=[sR (S.length+i),sI p,some (.tup (ts.map pairD)),sR (S.length+p),z3,z4]) (S:=S') (S1:=S') rfl hit (Yi _);refine⟨by simp;exact Ax (m:=60) (by lia) (by decide),[sR (S.length+i),sI p,some (.tup (ts.map pairD)),sR (S.length+p),z3,z4],_,rfl,true,_,rfl,.inl ⟨rfl,_,_,Ov hs (Gk (Ed _ _)),⟨_,rfl⟩,K.trans (Keeps.app _ _),?_⟩⟩;rw[Mb,Ca]
   rfl)
 have a3:=(WF (n:=1) (g:=tgN 0) (c:=Gr) (m:=Gz (Ds (AD 0))) (Ky (m:=AD 2) (e:=[sI p,some (.tup (ts.map pairD)),sR (S.length+p),z3,z4]) (S:=stN S p (DO ts)) (S1:=stN S p (DO ts)) rfl (Mh S p _))).trans q1;rw[show(Fq S.length p).length=p by simp[Fq]]at a3;refine⟨S2++[.lst (P4 p ts)],Mp ?_,((P3 S p _).trans K).trans (Keeps.app _ _)⟩;unfold NK;refine IH (CS a1) ?_;refine IH (CS a2) ?_;exact Mr (Ov (Yz a3) (Gk (Ed _ _)))
open PySem L2
open Srt (ltL)
def toP(r:ZLi):Int×Int:=(r.getD 0 0,r.getD 1 0)
def Gj(ps:List ZPi):List ZPi:=(LL ps).map toP
theorem R8(h:r∈LL ps):∃x∈ps,r=Vn (nrm x):=by
 have:=(FA _).mem_iff.mp h;obtain⟨x,hx,rfl⟩:=BO.mp this;exact⟨x,hx,rfl⟩
theorem bM(ps:List ZPi):(Gj ps).map Vn=LL ps:=by
 unfold Gj;rw[BP]
 conv=>rhs;rw[<-Rp (LL ps)]
 refine E2 λr hr=>?_
 obtain⟨x,_,rfl⟩:=R8 hr;rfl
theorem Yd(ps:List ZPi):(LL ps).map Nl=(Gj ps).map pairD:=by
 rw[<-bM,BP];rfl
theorem df(h:t∈Gj ps):∃x∈ps,t=nrm x:=by
 obtain⟨r,hr,rfl⟩:=BO.mp h;obtain⟨x,hx,rfl⟩:=R8 hr;exact⟨x,hx,rfl⟩
theorem P1(ps:List ZPi):(Gj ps).Perm (ps.map nrm):=by
 unfold Gj LL;have:=(FA (ps.map λx=>Vn (nrm x))).map toP;refine this.trans ?_;rw[BP];exact Zd rfl
theorem om(x:Int×Int):(nrm x).1<=(nrm x).2:=by
 unfold nrm;dsimp only
 split <;> split <;> lia
theorem Fit.in{p:Nat}{x:Int×Int}(h:Fit p x):In p (nrm x):=by
 obtain⟨h1,h2,h3⟩:=h;have:=om x;exact⟨h2,by lia,by lia,h3,h1⟩
theorem sW:¬(("places" : Str) = "ties"):=by decide +kernel
theorem sX:¬(("places" : Str) = "near_sets"):=by decide +kernel
theorem sV:¬(("ties" : Str) = "near_sets"):=by decide +kernel
theorem put2(a b:D):Jt "ties" b [(("places" : Str),a)]=([("places",a),("ties",b)]:List (Str×D)):=by
 show(if ("places" : Str) = "ties" then _ else _)=_;rw[qY sW];rfl
theorem put3(a b c:D):Jt "near_sets" c [(("places" : Str),a),("ties",b)]=([("places",a),("ties",b),("near_sets",c)]:List (Str×D)):=by
 show(if ("places" : Str) = "near_sets" then _ else _)=_;rw[qY sX]
 have:Jt "near_sets" c [(("ties" : Str),b)]=([("ties",b),("near_sets",c)]:List (Str×D)):=by
  show(if ("ties" : Str) = "near_sets" then _ else _)=_;rw[qY sV];rfl
 rw[this]
theorem sf(a b c:D):([("places",a),("ties",b),("near_sets",c)]:List (Str×D)).lookup ("places" : Str)=some a:=by
 rw[Bf,show(("places" : Str)=="places")=true by decide +kernel]
theorem se(a b c:D):([("places",a),("ties",b),("near_sets",c)]:List (Str×D)).lookup ("near_sets" : Str)=some c:=by
 rw[Bf,show(("near_sets" : Str)=="places")=false by decide +kernel];dsimp only;rw[Bf,show(("near_sets" : Str)=="ties")=false by decide +kernel];dsimp only;rw[Bf,show(("near_sets" : Str)=="near_sets")=true by decide +kernel]
theorem ox(a b:D):([("places",a),("ties",b)]:List (Str×D)).lookup ("ties" : Str)=some b:=by
 rw[Bf,show(("ties" : Str)=="places")=false by decide +kernel];dsimp only;rw[Bf,show(("ties" : Str)=="ties")=true by decide +kernel]
open PySem L2 L4
def HA(W:Wd)(w:Nat×List ZPi):Ob:=.ins W.Web [("places",.int w.1),("ties",.tup (w.2.map pairD)),("near_sets",.tup (P4 w.1 w.2))]
def QF(p:Nat)(ts:List ZPi):List ZLi:=(D4 p).map λx=>B2 (DO ts x)
theorem fL(p:Nat)(ts:List ZPi):D.tup (P4 p ts)=eT (eT D.int) (QF p ts):=by
 unfold P4 QF eT;rw[BP];rfl
open Classical in
def c9(x:Int)(l:List ZPi):Option (Nat×List ZPi):=if 1<=x/\x<=60/\GC x l/\l.length<=90000 then some (x.toNat,Gj l)else none
section
variable{W:Wd}{A:List Sl}{a b m:ME}{p:Option (Nat×List ZPi)}
theorem Zl{α:Type}{f:Str}{enc:α->D}{g:Nat×List ZPi->α}(h:VE A m (rO (HA W)) p)(hl:∀w,([("places",D.int w.1),("ties",.tup (w.2.map pairD)),("near_sets",.tup (P4 w.1 w.2))]:List (Str×D)).lookup f=some (enc (g w))):VE A (D0 W.Web f m) (rV enc) (p.bind λw=>some (g w)):=λv hv S0 e F S hs=>by
 obtain⟨w,h1,h2⟩:=BC hv;cases h2;obtain⟨d,S',h3,h4,n,rfl,hn⟩:=h w h1 S0 e F S hs;exact⟨_,S',KS h3 hn (hl w),h4,rfl⟩
theorem JJ(h:VE A m (rO (HA W)) p):VE A (D0 W.Web "places" m) (rV D.int) (p.bind λw=>some (w.1:Int)):=Zl h λw=>sf _ _ _
theorem i7(h:VE A m (rO (HA W)) p):VE A (D0 W.Web "near_sets" m) (rV (eT (eT D.int))) (p.bind λw=>some (QF w.1 w.2)):=Zl h λw=>by rw[<-fL];exact se _ _ _
theorem md(W:Wd){p:Nat}(h1:1<=p)(hp:p<=60){d:D}{S:Sto}{ps:List ZPi}(hv:∀S',Keeps S S'->Fm d S'=some (ps.map pairD))(hl:ps.length<=90000)(hf:GC p ps){e:Lo}{ml:ML}{S0:Sto}(ha:ml e S0=.ok [.int p,d] S) :
  ∃S',PH W.Web 3 (Lq W) ml e S0=.ok (.ref S.length) S'/\Keeps S S'/\S'[S.length]?=some (HA W (p,Gj ps)):=by
 have t0:PF (mB (m3 leD leD (mC (.int 1)) (AD 1) (mC (.int 60)))) [sR S.length,sI p,some d] (S++[.ins W.Web []])=.ok false (S++[.ins W.Web []]):=
  OO (b:=true) (WS (l8 (S3:=S++[.ins W.Web []]) rfl rfl (fW (wX (by lia))) rfl (fW (wX (by lia)))))
 have xE:(S++[Ob.ins W.Web []])[S.length]?=some (.ins W.Web []):=Ed _ _;have e1:=RQ (C:=W.Web) (f:="places") (mo:=AD 0) (mv:=AD 1) (e:=[sR S.length,sI p,some d]) (S:=S++[.ins W.Web []]) (v:=.int p) rfl rfl xE (by decide);have K1:Keeps S ((S++[Ob.ins W.Web []]).set S.length (.ins W.Web (Jt "places" (.int p) []))):=(Keeps.app S _).set (AL _) _;generalize hS1:(S++[Ob.ins W.Web []]).set S.length (.ins W.Web (Jt "places" (.int p) []))=S1 at e1 K1
 have wo:S1[S.length]?=some (.ins W.Web [("places",.int p)]):=by rw[<-hS1];exact At (by simp)
 obtain⟨S2,c2,K2⟩:=WI W (p:=p) (d:=d) (S:=S1) (ps:=ps) (λS' k=>hv S' (K1.trans k)) hl hf;rw[Yd]at c2;have e2:=RQ (C:=W.Web) (f:="ties") (mo:=AD 0) (mv:=CP 2 (HW W) (AM (AD 1) (AM (AD 2) BI))) (e:=[sR S.length,sI p,some d]) (S:=S1) ((Lu rfl rfl).trans c2) rfl (K2.at wo) (by simp);have K3:Keeps S (S2.set S.length (.ins W.Web (Jt "ties" (.tup ((Gj ps).map pairD)) [("places",.int p)]))):=(K1.trans K2).set (AL _) _;rw[put2]at e2 K3;have Ψ:S.length < S2.length:=(AE.mp (K2.at wo)).1;generalize hS3:S2.set S.length (.ins W.Web [("places",.int p),("ties",.tup ((Gj ps).map pairD))])=S3 at e2 K3
 have xM:S3[S.length]?=some (.ins W.Web [("places",.int p),("ties",.tup ((Gj ps).map pairD))]):=by rw[<-hS3];exact At Ψ
 obtain⟨S4,c4,K4⟩:=kI W hp (ts:=Gj ps) (λt ht=>by
  obtain⟨x,hx,rfl⟩:=df ht
  exact(hf.1 x hx).in) (by rw[(P1 ps).length_eq,AF];exact hl) S3
 have e3:=RQ (C:=W.Web) (f:="near_sets") (mo:=AD 0) (mv:=CP 2 (HV W) (AM (AD 1) (AM (D0 W.Web "ties" (AD 0)) BI))) (e:=[sR S.length,sI p,some d]) (S:=S3)
  ((Lu (C0 (S1:=S3) rfl (C0 (KS rfl xM (ox _ _)) rfl)) rfl).trans c4) rfl (K4.at xM) (by simp)
 have Ω:S.length < S4.length:=(AE.mp (K4.at xM)).1;rw[put3]at e3;refine⟨_,Z5 ha rfl (Yr (e:=[sR S.length,sI p,some d]) ?_),(K3.trans K4).set (AL _) _,At Ω⟩;unfold TF;refine IH (CS (e:=[sR S.length,sI p,some d]) (e1:=[sR S.length,sI p,some d]) (S1:=S++[.ins W.Web []]) (IH (Hq t0) rfl)) ?_;rw[CS e1,CS e2];exact e3
theorem mw{pa:Option Int}{pl:Option (List ZPi)}(ha:VE A a (rV D.int) pa)(hb:VE A b (rO (oL (eP D.int D.int))) pl):VE A (PH W.Web 3 (Lq W) (AM a (AM b BI))) (rN (HA W)) (pa.bind λx=>pl.bind λl=>c9 x l):=λv hv S0 e F S hs=>by
 obtain⟨x,h1,hv⟩:=BC hv;obtain⟨l,h2,h3⟩:=BC hv;obtain⟨d1,S1,q1,k1,rfl⟩:=ha x h1 S0 e F S hs;obtain⟨d2,S2,q2,k2,n,rfl,hn⟩:=hb l h2 S0 e _ S1 (hs.grow k1);unfold c9 at h3;split at h3
 ·rename_i hc
  cases h3;obtain⟨c1,c2,c3,c4⟩:=hc;have hx:((x.toNat:Nat):Int)=x:=BR (by lia);obtain⟨S3,h5,h6,h7⟩:=md W (p:=x.toNat) (d:=.ref n) (S:=S2) (ps:=l) (by lia) (by lia) (λS' k=>ED (k.at hn)) c4 (by rw[hx];exact c3) (ml:=AM a (AM b BI)) (e:=e) (S0:=S) (by rw[hx];exact C0 q1 (C0 q2 rfl));exact⟨_,S3,h5,(k1.trans k2).trans h6,_,rfl,(k1.trans k2).1,h7⟩
 ·cases h3
end
def K2(h s:Nat)(S S':Sto):Prop:=S.length<=S'.length/\∀j,j < S.length->j≠h->j≠s->S'[j]?=S[j]?
theorem K2.trans(a:K2 h s S S1)(b:K2 h s S1 S2):K2 h s S S2:=⟨Aw a.1 b.1,λj q q1 q2=>(b.2 j (AV q a.1) q1 q2).trans (a.2 j q q1 q2)⟩
theorem K2.of{h s:Nat}{S S1:Sto}(a:Keeps S S1):K2 h s S S1:=⟨a.1,λj q _ _=>a.2 j q⟩
theorem K2.seth(a:K2 h s S S1)(o:Ob):K2 h s S (S1.set h o):=⟨by rw[D5];exact a.1,λj q q1 q2=>by rw[Ah (Ci q1)];exact a.2 j q q1 q2⟩
theorem K2.sets(a:K2 h s S S1)(o:Ob):K2 h s S (S1.set s o):=⟨by rw[D5];exact a.1,λj q q1 q2=>by rw[Ah (Ci q2)];exact a.2 j q q1 q2⟩
theorem K2.at(a:K2 h s S S1)(hj:S[j]?=some o)(h1:j≠h)(h2:j≠s):S1[j]?=some o:=by rw[a.2 j (BW hj) h1 h2];exact hj
def Tk(ξ:List ZLi)(g:Int):ZLi:=(atI ξ g).getD []
theorem p7{κv}{enc}{l}{S}{n}(hn:S[n]?=some (oDK enc l))(hl:l.length < 1000000)(k:Int)(v:κv):QS (.ref n) (.int k) (enc v) S=some (S.set n (oDK enc (CG l k v))):=by
 unfold QS;dsimp only;rw[hn];show(if (l.map _).length < sizeLine then some (S.set n (.dK (CG (l.map λx=>(Dd x.1,enc x.2)) (Dd k) (enc v))))else none)=_;rw[qX (by rw[AF];exact Y6 hl),O3 Ra];rfl
theorem Rg{κv:Type}{enc:κv->D}{l:List (Int×κv)}{mo mi mv:ME}{e:Lo}{S:Sto}{n:Nat}{k:Int}{v:κv}(hv:mv e S=.ok (enc v) S)(ho:mo e S=.ok (.ref n) S)(hi:mi e S=.ok (.int k) S)(hn:S[n]?=some (oDK enc l))(hl:l.length < 1000000):Cv mo mi mv e S=.ok (.nx e) (S.set n (oDK enc (CG l k v))):=by
 unfold Cv;rw[hv];dsimp only[Res.lift];rw[ho];dsimp only;rw[hi];dsimp only;rw[p7 hn hl]
theorem LY{κ α:Type}[DecidableEq κ]{l l':List (κ×α)}{k:κ}{v:α}(h:Gy l k v=some l'):l.length < 1000000/\l'=CG l k v:=by
 unfold Gy at h;split at h
 ·rename_i c;cases h;exact⟨c,rfl⟩
 ·cases h
theorem bE(ht:S[tN]?=some (oL (eT D.int) ξ))(hh:S[hN]?=some (oDK D.int H))(hs:S[sN]?=some (oDK D.bl Q))(um:hN≠sN) :
  ∃F,Vs [] [.z (oL (eT D.int) ξ),.v (D.int bits),.w 2 (oDK D.int H),.v (D.int g),.w 4 (oDK D.bl Q),.u,.u] [sR tN,sI bits,sR hN,sI g,sR sN,none,none] F S:=by
 have t1:tN≠hN:=λc=>by rw[c,hh]at ht;cases ht
 have t2:tN≠sN:=λc=>by rw[c,hs]at ht;cases ht
 refine⟨λn=>if n=hN then .ow 2 else if n=sN then .ow 4 else match S[n]? with | some o=>.fz o | none=>.no,⟨Dv _,λj h=>(nomatch h)⟩,λn o q=>?_,λn i q=>?_,λn hn=>?_,λi a ha=>?_⟩
 ·split at q
  ·cases q
  ·split at q
   ·cases q
   ·cases w:S[n]? with
    | none=>rw[w]at q;cases q
    | some o'=>rw[w]at q;cases q;rfl
 ·refine⟨Dv _,?_⟩
  split at q
  ·rename_i c;rw[c];exact BW hh
  ·split at q
   ·rename_i c;rw[c];exact BW hs
   ·cases w:S[n]? with
    | none=>rw[w]at q;cases q
    | some o'=>rw[w]at q;cases q
 ·show(if n=hN then Cel.ow 2 else if n=sN then .ow 4 else match S[n]? with | some o=>.fz o | none=>.no)=_
  rw[qY λc=>zX (BW hh) (by rw[<-c];lia),qY λc=>zX (BW hs) (by rw[<-c];lia),CI hn]
 ·match i,ha with
  | 0,ha=>cases ha;exact⟨_,rfl,tN,rfl,by show(if tN=hN then Cel.ow 2 else if tN=sN then .ow 4 else match S[tN]? with | some o=>.fz o | none=>.no)=_;rw[qY t1,qY t2,ht]⟩
  | 1,ha=>cases ha;exact⟨_,rfl,rfl⟩
  | 2,ha=>cases ha;exact⟨_,rfl,hN,rfl,qX rfl,hh⟩
  | 3,ha=>cases ha;exact⟨_,rfl,rfl⟩
  | 4,ha=>cases ha;exact⟨_,rfl,sN,rfl,by show(if sN=hN then Cel.ow 2 else if sN=sN then .ow 4 else match S[sN]? with | some o=>.fz o | none=>.no)=_;rw[qY (Ci um),qX rfl],hs⟩
  | 5,ha=>cases ha;exact⟨_,rfl,trivial⟩
  | 6,ha=>cases ha;exact⟨_,rfl,trivial⟩
  | i+7,ha=>cases ha
abbrev ly:ME:=Db (Dt 1 (D1 (m2 ixA (AD 0) (AD 3))) (tgN 0) (RB (Fx (m2 TK (m2 XA (AD 2) (AD 0)) (mC (.int 1)))) (mB (m2 (inA true) (AD 0) (AD 5)))) (AD 0))
theorem io{S:Sto}{tN hN sN:Nat}{ξ:List ZLi}{bits g:Int}{H:HL}{Q:QL}(ht:S[tN]?=some (oL (eT D.int) ξ))(hh:S[hN]?=some (oDK D.int H))(hs:S[sN]?=some (oDK D.bl Q))(um:hN≠sN)(hg:0<=g/\g < ξ.length)(hT:∀t∈ξ,t.length<=1000/\∀x∈t,0<=x) :
  ∃n S',ly [sR tN,sI bits,sR hN,sI g,sR sN,none,none] S=.ok (.ref n) S'/\Keeps S S'/\S.length<=n/\S'[n]?=some (oL D.int ((Tk ξ g).filter λx=>hb bits x&&!(Ai Q x).isSome)):=by
 obtain⟨F,V⟩:=bE (bits:=bits) (g:=g) ht hh hs um;obtain⟨t,e1,-⟩:=ZR (l:=ξ) hg.1 hg.2;have tm:=hT t (ah e1)
 have key:=CD (Ck (enc:=D.int) (eb:=D.int) (A:=[.z (oL (eT D.int) ξ),.v (D.int bits),.w 2 (oDK D.int H),.v (D.int g),.w 4 (oDK D.bl Q),.u,.u]) (VI.k (Pv (E9 (DI (v:=ξ) (i:=0) rfl) (AI (v:=g) (i:=3) rfl))))
  (λx=>dY (Zo (RP (my (AI (v:=bits) (i:=2) rfl) (AI (v:=x) (i:=0) rfl)) (CQ (v:=1) rfl))) (Gi (Wv (AI (v:=x) (i:=0) rfl) (HB (v:=Q) (i:=5) rfl)))) (λx=>AI (v:=x) (i:=0) rfl))
 simp only[AB]at key;rw[e1]at key;simp only[AB]at key
 have ec:D3 t (λx=>((jX bits x).bind λx_1=>some (Bh x_1 1)).bind (λx=>some (x != 0)) |>.bind λb=>if b=true then some (!(Ai Q x).isSome)else some false) (λx=>some x)=some (t.filter λx=>hb bits x&&!(Ai Q x).isSome):=F9 (by lia) λx hx=>by
  rw[show jX bits x=some (bits / 2 ^ x.toNat)from qX (tm.2 x hx)];show(if (Bh (bits / 2 ^ x.toNat) 1 != 0)=true then _ else _)=_;show(if hb bits x=true then _ else _)=_
  cases hb bits x <;> rfl
 obtain⟨d,S',h1,h2,n,rfl,h3,h4⟩:=key _ ec [] _ F S V;refine⟨n,S',h1,h2,h3,?_⟩;unfold Tk;rw[e1];exact h4
theorem k6{w:ZLi}{p:Int->Bool}{i:Nat}{x:Int}(h:∀j,j < i->∀y,w[j]?=some y->p y=false)(hx:w[i]?=some x)(hp:p x=true):w.find? p=some x:=by
 rw[List.find?_eq_some_iff_getElem];obtain⟨hi,e⟩:=AE.mp hx;refine⟨hp,i,hi,e,λj hj=>?_⟩;rw[h j hj _ (AU (by lia))];rfl
theorem kz{w:ZLi}{p:Int->Bool}(h:∀j,j < w.length->∀y,w[j]?=some y->p y=false):w.find? p=none:=by
 rw[Jw];intro x hx hp;obtain⟨i,hi,e⟩:=C2 hx;rw[h i hi x (by rw[AU hi,e])]at hp;cases hp
abbrev e7(tN:Nat)(bits:Int)(hN:Nat)(g:Int)(sN:Nat)(z5 z6:Option D):Lo:=[sR tN,sI bits,sR hN,sI g,sR sN,z5,z6]
abbrev bS1:MS:=sIf (mB (m2 (inA true) (AD 6) (AD 2))) (BJ (Cv (AD 2) (AD 6) (AD 3)) (DL (mC (.bl true)))) sNx
abbrev bS2(fr:List D->Sto->Res D):MS:=sIf (mB (m2 (inA true) (AD 6) (AD 4))) (BJ (Cv (AD 4) (AD 6) (mC (.bl true)))
  (sIf (Fx (CP 5 fr (AM (AD 0) (AM (AD 1) (AM (AD 2) (AM (m2 ixA (AD 2) (AD 6)) (AM (AD 4) BI))))))) (BJ (Cv (AD 2) (AD 6) (AD 3)) (DL (mC (.bl true)))) sNx)) sNx
theorem mE(hn:S[n]?=some (oDK enc l))(x:Int):inA true (.int x) (.ref n) S=.ok (.bl (!(Ai l x).isSome)) S:=by
 rw[QR (jZ hn) (aY hn x)];simp
theorem su(hn:S[n]?=some (oDK enc l))(hv:Ai l x=some v):ixA (.ref n) (.int x) S=.ok (enc v) S:=OU (jZ hn) (by rw[aY hn x,hv];rfl)
theorem bV(W:Wd){ξ:List ZLi}{bits:Int}(hT:∀t∈ξ,t.length<=1000/\∀x∈t,0<=x):∀(n:Nat) (H:HL) (g:Int) (Q:QL) (z:Bool×HL×QL),II (Tk ξ) bits n H g Q=some z->0<=g/\g < ξ.length->(∀x a,Ai H x=some a->0<=a/\a < ξ.length)->(∀x a,Ai z.2.1 x=some a->0<=a/\a < ξ.length) /\
  ∀(S:Sto) (tN hN sN:Nat),S[tN]?=some (oL (eT D.int) ξ)->S[hN]?=some (oDK D.int H)->S[sN]?=some (oDK D.bl Q)->hN≠sN->∃S',Gq W n [.ref tN,.int bits,.ref hN,.int g,.ref sN] S=.ok (.bl z.1) S'/\S'[hN]?=some (oDK D.int z.2.1)/\S'[sN]?=some (oDK D.bl z.2.2)/\K2 hN sN S S':=by
 intro n
 induction n with
 | zero=>intro H g Q z hz;cases hz
 | succ n ih=>
  intro H g Q z hz hg hG;unfold II at hz
  have vH:∀(H:HL) (x:Int),(∀x a,Ai H x=some a->0<=a/\a < ξ.length)->∀y a,Ai (CG H x g) y=some a->0<=a/\a < ξ.length:=λH x hG y a e=>by
   rw[C9]at e;split at e
   ·cases e;exact hg
   ·exact hG y a e
  have lp:∀(r:ZLi) (Hc:HL) (Qc:QL),(∀x a,Ai Hc x=some a->0<=a/\a < ξ.length)->N5 (II (Tk ξ) bits n) g r Hc Qc=some z->∀x a,Ai z.2.1 x=some a->0<=a/\a < ξ.length:=by
   intro r
   induction r with
   | nil=>intro Hc Qc hc e;cases e;exact hc
   | cons x r ih2=>
    intro Hc Qc hc e;unfold N5 at e;split at e
    ·exact ih2 Hc Qc hc e
    ·obtain⟨Q1,-,e⟩:=BC e
     obtain⟨g2,e2,e⟩:=BC e;obtain⟨z2,e3,e⟩:=BC e;have:=(ih Hc g2 Q1 z2 e3 (hc x g2 e2) hc).1;split at e
     ·obtain⟨H',e4,e5⟩:=BC e
      cases e5;rw[(LY e4).2];exact vH _ x this
     ·exact ih2 _ _ this e
  refine⟨?_,λS tN hN sN ht hh hs um=>?_⟩
  ·split at hz
   ·obtain⟨H',e4,e5⟩:=BC hz
    cases e5;rw[(LY e4).2];exact vH _ _ hG
   ·exact lp _ _ _ hG hz
  ·have t1:tN≠hN:=λc=>by rw[c,hh]at ht;cases ht
   have t2:tN≠sN:=λc=>by rw[c,hs]at ht;cases ht
   obtain⟨wN,S1,w1,w2,w3,w4⟩:=io (bits:=bits) ht hh hs um hg hT;generalize (Tk ξ g).filter (λx=>hb bits x&&!(Ai Q x).isSome)=w at hz w4
   have wh:wN≠hN:=λc=>zX (BW hh) (by lia)
   have ws:wN≠sN:=λc=>zX (BW hs) (by lia)
   have s5:CT 5 ly (Ig 7 [.ref tN,.int bits,.ref hN,.int g,.ref sN]) S=.ok (.nx (e7 tN bits hN g sN (some (.ref wN)) none)) S1:=Mi (i:=5) w1;have zO:=w2.at hh;have wk:=w2.at hs;have ht1:=w2.at ht;have k1:K2 hN sN S S1:=K2.of w2
   have it:∀z6 S',S'[wN]?=some (oL D.int w)->D1 (AD 5) (e7 tN bits hN g sN (some (.ref wN)) z6) S'=.ok (Fm (.ref wN)) S':=λz6 S' h=>Ky (n:=wN) rfl h
   obtain⟨f,S2,q1,q2⟩:=M9 (v:=Fm (.ref wN)) (g:=tgN 6) (b:=bS1) (xs:=w.map D.int) (e:=e7 tN bits hN g sN (some (.ref wN)) none) (S:=S1)
    (λi e S'=>(∃z6,e=e7 tN bits hN g sN (some (.ref wN)) z6)/\S'=S1/\∀j,j < i->∀y,w[j]?=some y->(!(Ai H y).isSome)=false)
    (λf S'=>((∃z6,f=.nx (e7 tN bits hN g sN (some (.ref wN)) z6))/\S'=S1/\w.find? (λx=>!(Ai H x).isSome)=none)∨∃x,w.find? (λx=>!(Ai H x).isSome)=some x/\f=.rt (.bl true)/\S'=S1.set hN (oDK D.int (CG H x g)))
    ⟨⟨none,rfl⟩,rfl,λj hj=>zX hj (NR j)⟩ (by rintro i e S' ⟨_,rfl,_⟩;exact ED w4)
    (by
     rintro i d e S' hd ⟨⟨z6,rfl⟩,rfl,uf⟩;rw[Ak]at hd
     cases hx:w[i]? with
     | none=>rw[hx]at hd;cases hd
     | some x=>
      rw[hx]at hd;cases hd;refine⟨e7 tN bits hN g sN (some (.ref wN)) (some (.int x)),S',rfl,?_⟩;have uL:mB (m2 (inA true) (AD 6) (AD 2)) (e7 tN bits hN g sN (some (.ref wN)) (some (.int x))) S'=.ok (!(Ai H x).isSome) S':=WS (Em rfl rfl (mE zO x))
      cases c:(Ai H x).isSome with
      | true=>
       rw[c]at uL;refine⟨_,S',(Hq uL).trans rfl,⟨_,rfl⟩,rfl,λj hj y hy=>?_⟩
       by_cases q:j=i
       ·subst q;rw[hx]at hy;cases hy;rw[c];rfl
       ·exact uf j (by lia) y hy
      | false=>
       rw[c]at uL;have hf:w.find? (λx=>!(Ai H x).isSome)=some x:=k6 uf hx (by rw[c];rfl);rw[hf]at hz;obtain⟨H',e4,e5⟩:=BC hz;obtain⟨hl,-⟩:=LY e4;have dp:=Rg (mo:=AD 2) (mi:=AD 6) (mv:=AD 3) (e:=e7 tN bits hN g sN (some (.ref wN)) (some (.int x))) (k:=x) (v:=g) rfl rfl rfl zO hl
       exact⟨.rt (.bl true),_,(Hq uL).trans ((qX rfl).trans ((CS dp).trans rfl)),.inr ⟨x,hf,rfl,rfl⟩⟩)
    (by
     rintro e S' ⟨⟨z6,rfl⟩,rfl,uf⟩;rw[AF]at uf
     exact .inl ⟨⟨z6,rfl⟩,rfl,kz uf⟩)
   have run:∀{S':Sto} {d:D},Xy W (Gq W n) (Ig 7 [.ref tN,.int bits,.ref hN,.int g,.ref sN]) S=.ok (.rt d) S'->Gq W (n+1) [.ref tN,.int bits,.ref hN,.int g,.ref sN] S=.ok d S':=λh=>Mp h
   rcases q2 with⟨⟨z6,rfl⟩,rfl,hf⟩ | ⟨x,hf,rfl,rfl⟩
   ·rw[hf]at hz
    dsimp only at hz
    obtain⟨f,S3,p1,p2⟩:=M9 (v:=Fm (.ref wN)) (g:=tgN 6) (b:=bS2 (Gq W n)) (xs:=w.map D.int) (e:=e7 tN bits hN g sN (some (.ref wN)) z6) (S:=S2)
     (λi e S'=>(∃z6,e=e7 tN bits hN g sN (some (.ref wN)) z6)/\S'[wN]?=some (oL D.int w)/\K2 hN sN S S'/\∃Hc Qc,S'[hN]?=some (oDK D.int Hc)/\S'[sN]?=some (oDK D.bl Qc)/\(∀x a,Ai Hc x=some a->0<=a/\a < ξ.length)/\N5 (II (Tk ξ) bits n) g (w.drop i) Hc Qc=some z)
     (λf S'=>K2 hN sN S S'/\S'[hN]?=some (oDK D.int z.2.1)/\S'[sN]?=some (oDK D.bl z.2.2)/\((f=.rt (.bl true)/\z.1=true)∨((∃z6,f=.nx (e7 tN bits hN g sN (some (.ref wN)) z6))/\z.1=false)))
     ⟨⟨z6,rfl⟩,w4,k1,H,Q,zO,wk,hG,hz⟩ (by rintro i e S' ⟨_,h,_⟩;exact ED h)
     (by
      rintro i d e S' hd ⟨⟨z6,rfl⟩,a1,a2,Hc,Qc,a3,a4,a5,a6⟩;rw[Ak]at hd
      cases hx:w[i]? with
      | none=>rw[hx]at hd;cases hd
      | some x=>
       rw[hx]at hd;cases hd;obtain⟨hi,ex⟩:=AE.mp hx;rw[DZ hi,ex]at a6;unfold N5 at a6;refine⟨e7 tN bits hN g sN (some (.ref wN)) (some (.int x)),S',rfl,?_⟩;have uL:mB (m2 (inA true) (AD 6) (AD 4)) (e7 tN bits hN g sN (some (.ref wN)) (some (.int x))) S'=.ok (!(Ai Qc x).isSome) S':=WS (Em rfl rfl (mE a4 x))
       cases c:(Ai Qc x).isSome with
       | true=>
        rw[c]at uL;rw[qX c]at a6;exact⟨_,S',(Hq uL).trans rfl,⟨_,rfl⟩,a1,a2,Hc,Qc,a3,a4,a5,a6⟩
       | false=>
        rw[c]at uL;rw[qY (by rw[c];exact AK)]at a6;obtain⟨Q1,b1,a7⟩:=BC a6;obtain⟨g2,b2,a8⟩:=BC a7;obtain⟨z2,b3,a9⟩:=BC a8;obtain⟨hl,rfl⟩:=LY b1
        clear a6 a7 a8
        have dp:=Rg (enc:=D.bl) (mo:=AD 4) (mi:=AD 6) (mv:=mC (.bl true)) (e:=e7 tN bits hN g sN (some (.ref wN)) (some (.int x))) (k:=x) (v:=true) rfl rfl rfl a4 hl;have za:=BW a4
        have c3:(S'.set sN (oDK D.bl (CG Qc x true)))[hN]?=some (oDK D.int Hc):=by rw[Ah (Ci um)];exact a3
        have c4:(S'.set sN (oDK D.bl (CG Qc x true)))[sN]?=some (oDK D.bl (CG Qc x true)):=At za
        have c5:(S'.set sN (oDK D.bl (CG Qc x true)))[tN]?=some (oL (eT D.int) ξ):=by rw[Ah (Ci t2)];exact a2.at ht t1 t2
        have c1:(S'.set sN (oDK D.bl (CG Qc x true)))[wN]?=some (oL D.int w):=by rw[Ah (Ci ws)];exact a1
        have c2:=a2.sets (oDK D.bl (CG Qc x true));generalize S'.set sN (oDK D.bl (CG Qc x true))=S4 at dp c1 c2 c3 c4 c5;obtain⟨r1,r2⟩:=ih Hc g2 (CG Qc x true) z2 b3 (a5 x g2 b2) a5;obtain⟨S5,r3,r4,r5,r6⟩:=r2 S4 tN hN sN c5 c3 c4 um;have arg:AM (AD 0) (AM (AD 1) (AM (AD 2) (AM (m2 ixA (AD 2) (AD 6)) (AM (AD 4) BI)))) (e7 tN bits hN g sN (some (.ref wN)) (some (.int x))) S4=.ok [.ref tN,.int bits,.ref hN,.int g2,.ref sN] S4:=C0 rfl (C0 rfl (C0 rfl (C0 (Em (x:=.ref hN) (y:=.int x) rfl rfl (su c3 b2)) (C0 rfl rfl))))
        have wK:Fx (CP 5 (Gq W n) (AM (AD 0) (AM (AD 1) (AM (AD 2) (AM (m2 ixA (AD 2) (AD 6)) (AM (AD 4) BI)))))) (e7 tN bits hN g sN (some (.ref wN)) (some (.int x))) S4=.ok z2.1 S5:=by
         unfold Fx;rw[(Lu (n:=5) arg rfl).trans r3];rfl
        have d1:=r6.at c1 wh ws;have d2:=c2.trans r6
        cases hb2:z2.1 with
        | true=>
         rw[hb2]at wK;rw[qX hb2]at a9;obtain⟨H',e4,e5⟩:=BC a9;obtain⟨vy,rfl⟩:=LY e4;cases e5;have dp2:=Rg (mo:=AD 2) (mi:=AD 6) (mv:=AD 3) (e:=e7 tN bits hN g sN (some (.ref wN)) (some (.int x))) (k:=x) (v:=g) rfl rfl rfl r4 vy;refine⟨.rt (.bl true),_,(Hq uL).trans ((qX rfl).trans ((CS dp).trans ((Hq wK).trans ((qX rfl).trans ((CS dp2).trans rfl))))),d2.seth _,At (BW r4),?_,.inl ⟨rfl,rfl⟩⟩;rw[Ah um];exact r5
        | false=>
         rw[hb2]at wK;rw[qY (by rw[hb2];exact AK)]at a9
         exact⟨_,S5,(Hq uL).trans ((qX rfl).trans ((CS dp).trans ((Hq wK).trans rfl))),⟨_,rfl⟩,d1,d2,z2.2.1,z2.2.2,r4,r5,r1,a9⟩)
     (by
      rintro e S' ⟨⟨z6,rfl⟩,a1,a2,Hc,Qc,a3,a4,a5,a6⟩;rw[AF,MW (AL _)]at a6;unfold N5 at a6;cases a6
      exact⟨a2,a3,a4,.inr ⟨⟨z6,rfl⟩,rfl⟩⟩)
    obtain⟨p3,p4,p5,p6⟩:=p2;have l1:=(KR (g:=tgN 6) (b:=bS1) (it none S2 w4)).trans q1;have l2:=(KR (g:=tgN 6) (b:=bS2 (Gq W n)) (it z6 S2 w4)).trans p1
    rcases p6 with⟨rfl,p6⟩ | ⟨⟨z7,rfl⟩,p6⟩
    ·rw[p6]
     exact⟨S3,run ((CS s5).trans ((CS l1).trans (Vf l2))),p4,p5,p3⟩
    ·rw[p6]
     exact⟨S3,run ((CS s5).trans ((CS l1).trans ((CS l2).trans rfl))),p4,p5,p3⟩
   ·rw[hf]at hz
    obtain⟨H',e4,e5⟩:=BC hz;obtain⟨hl,rfl⟩:=LY e4;cases e5;have l1:=(KR (g:=tgN 6) (b:=bS1) (it none S1 w4)).trans q1;refine⟨_,run ((CS s5).trans (Vf l1)),At (BW zO),?_,k1.seth _⟩;rw[Ah um];exact wk
abbrev e5(tN:Nat)(gs:ZLi)(bits:Int)(hN:Nat)(z:Option D):Lo:=[sR tN,some (eT D.int gs),sI bits,sR hN,z]
abbrev ot:MT:=Fx (m2 TK (m2 XA (AD 2) (AD 4)) (mC (.int 1)))
theorem rG(h:m e S=.ok (.bl b) S1):Fx m e S=.ok b S1:=by
 unfold Fx;rw[h];rfl
theorem rF(h:m e S=.ok (.int i) S1):Fx m e S=.ok (i != 0) S1:=by
 unfold Fx;rw[h];rfl
theorem g7(h:0<=g):ot (e5 tN gs bits hN (some (.int g))) S=.ok (hb bits g) S:=by
 have h1:m2 XA (AD 2) (AD 4) (e5 tN gs bits hN (some (.int g))) S=.ok (.int (bits / 2 ^ g.toNat)) S:=Em rfl rfl (qX h);exact rF (Em (f:=TK) (mb:=mC (.int 1)) (y:=.int 1) h1 rfl rfl)
abbrev bF1:MS:=sIf ot (Cv (AD 3) (AD 4) (AD 4)) sNx
abbrev sZ(W:Wd)(n:Nat):ME:=CP 5 (Gq W n) (AM (AD 0) (AM (AD 2) (AM (AD 3) (AM (AD 4) (AM Jc BI)))))
abbrev bF2(W:Wd)(n:Nat):MS:=sIf (RB (PF ot) (PF (Fx (sZ W n)))) (DL (mC (.bl false))) sNx
theorem kx(W:Wd)(hT:∀t∈ξ,t.length<=1000/\∀x∈t,0<=x)(hg:∀g∈gs,0<=g/\g < ξ.length)(uf:Uf (Tk ξ) bits 9 gs=some b)(ht:S[tN]?=some (oL (eT D.int) ξ)) :
  ∃S',WC W [.ref tN,eT D.int gs,.int bits] S=.ok (.bl b) S'/\Keeps S S':=by
 unfold Uf at uf;obtain⟨Hf,hs,hr⟩:=BC uf;have s3:CT 3 Jc (Ig 5 [.ref tN,eT D.int gs,.int bits]) S=.ok (.nx (e5 tN gs bits S.length none)) (S++[.dK []]):=rfl;have h0:(S++[Ob.dK []])[S.length]?=some (oDK D.int []):=Ed _ _;have k0:=Keeps.app S [.dK []];have tl:=BW ht;generalize S++[Ob.dK []]=S0 at s3 h0 k0
 obtain⟨f,S1,q1,⟨z1,rfl⟩,q2,q3,q4⟩:=M9 (v:=Hm (gs.map D.int)) (g:=tgN 4) (b:=bF1) (xs:=gs.map D.int) (e:=e5 tN gs bits S.length none) (S:=S0)
  (λi e S'=>(∃z,e=e5 tN gs bits S.length z)/\Keeps S S'/\∃Hc,S'[S.length]?=some (oDK D.int Hc)/\(∀x a,Ai Hc x=some a->0<=a/\a < ξ.length)/\SB bits (gs.drop i) Hc=some Hf)
  (λf S'=>(∃z,f=.nx (e5 tN gs bits S.length z))/\Keeps S S'/\S'[S.length]?=some (oDK D.int Hf)/\∀x a,Ai Hf x=some a->0<=a/\a < ξ.length)
  ⟨⟨none,rfl⟩,k0,[],h0,λx a e=>(nomatch e),hs⟩ (λ_ _ _ _=>rfl)
  (by
   rintro i d e S' hd ⟨⟨z,rfl⟩,a1,Hc,a2,a3,a4⟩;rw[Ak]at hd
   cases hx:gs[i]? with
   | none=>rw[hx]at hd;cases hd
   | some g=>
    rw[hx]at hd;cases hd;have zb:=hg g (BL hx);obtain⟨hi,ex⟩:=AE.mp hx;rw[DZ hi,ex]at a4;unfold SB at a4;refine⟨e5 tN gs bits S.length (some (.int g)),S',rfl,?_⟩;have uL:=g7 (tN:=tN) (hN:=S.length) (gs:=gs) (bits:=bits) (S:=S') zb.1
    cases c:hb bits g with
    | true=>
     rw[c]at uL;rw[qX c]at a4;obtain⟨H',e1,e2⟩:=BC a4;obtain⟨hl,rfl⟩:=LY e1;have dp:=Rg (mo:=AD 3) (mi:=AD 4) (mv:=AD 4) (e:=e5 tN gs bits S.length (some (.int g))) (k:=g) (v:=g) rfl rfl rfl a2 hl;refine⟨_,_,(Hq uL).trans ((qX rfl).trans dp),⟨_,rfl⟩,a1.set (AL _) _,_,At (BW a2),λx a e=>?_,e2⟩;rw[C9]at e;split at e
     ·cases e;exact zb
     ·exact a3 x a e
    | false=>
     rw[c]at uL;rw[qY (by rw[c];exact AK)]at a4
     exact⟨_,S',(Hq uL).trans rfl,⟨_,rfl⟩,a1,Hc,a2,a3,a4⟩)
  (by
   rintro e S' ⟨⟨z,rfl⟩,a1,Hc,a2,a3,a4⟩;rw[AF,MW (AL _)]at a4;cases a4
   exact⟨⟨z,rfl⟩,a1,a2,a3⟩)
 obtain⟨f,S2,p1,p2,p3⟩:=M9 (v:=Hm (gs.map D.int)) (g:=tgN 4) (b:=bF2 W 9) (xs:=gs.map D.int) (e:=e5 tN gs bits S.length z1) (S:=S1)
  (λi e S'=>(∃z,e=e5 tN gs bits S.length z)/\Keeps S S'/\∃Hc,S'[S.length]?=some (oDK D.int Hc)/\(∀x a,Ai Hc x=some a->0<=a/\a < ξ.length)/\SO (Tk ξ) bits 9 (gs.drop i) Hc=some b)
  (λf S'=>Keeps S S'/\((f=.rt (.bl false)/\b=false)∨((∃z,f=.nx (e5 tN gs bits S.length z))/\b=true)))
  ⟨⟨z1,rfl⟩,q2,Hf,q3,q4,hr⟩ (λ_ _ _ _=>rfl)
  (by
   rintro i d e S' hd ⟨⟨z,rfl⟩,a1,Hc,a2,a3,a4⟩;rw[Ak]at hd
   cases hx:gs[i]? with
   | none=>rw[hx]at hd;cases hd
   | some g=>
    rw[hx]at hd;cases hd;have zb:=hg g (BL hx);obtain⟨hi,ex⟩:=AE.mp hx;rw[DZ hi,ex]at a4;unfold SO at a4;refine⟨e5 tN gs bits S.length (some (.int g)),S',rfl,?_⟩;have uL:=g7 (tN:=tN) (hN:=S.length) (gs:=gs) (bits:=bits) (S:=S') zb.1
    cases c:hb bits g with
    | true=>
     rw[c]at uL;rw[qX c]at a4;exact⟨_,S',(Hq (am (OO uL))).trans rfl,⟨_,rfl⟩,a1,Hc,a2,a3,a4⟩
    | false=>
     rw[c]at uL;rw[qY (by rw[c];exact AK)]at a4;obtain⟨w,e1,e2⟩:=BC a4
     clear a4
     have hl:=BW a2;have b0:(S'++[Ob.dK []])[S'.length]?=some (oDK D.bl []):=Ed _ _;have kk:=Keeps.app S' [.dK []];have arg:AM (AD 0) (AM (AD 2) (AM (AD 3) (AM (AD 4) (AM Jc BI)))) (e5 tN gs bits S.length (some (.int g))) S'=.ok [.ref tN,.int bits,.ref S.length,.int g,.ref S'.length] (S'++[.dK []]):=rfl;generalize S'++[Ob.dK []]=S4 at b0 kk arg;obtain⟨r1,r2⟩:=bV W (bits:=bits) hT 9 Hc g [] w e1 zb a3;obtain⟨S5,r3,r4,r5,r6⟩:=r2 S4 tN S.length S'.length (kk.at (a1.at ht)) (kk.at a2) b0 (by lia);have wK:Fx (sZ W 9) (e5 tN gs bits S.length (some (.int g))) S'=.ok w.1 S5:=rG ((Lu (n:=5) arg rfl).trans r3)
     have kS:Keeps S S5:=⟨Aw (Aw a1.1 kk.1) r6.1,λj hj=>by
      have h4:j < S4.length:=AV hj (Aw a1.1 kk.1)
      rw[r6.2 j h4 (by lia) (by have:=a1.1;lia),kk.2 j (AV hj a1.1),a1.2 j hj]⟩
     cases hw:w.1 with
     | true=>
      rw[hw]at wK;rw[qX hw]at e2;exact⟨_,S5,(Hq ((WO (OO uL)).trans (OO wK))).trans rfl,⟨_,rfl⟩,kS,w.2.1,r4,r1,e2⟩
     | false=>
      rw[hw]at wK;rw[qY (by rw[hw];exact AK)]at e2;cases e2
      exact⟨.rt (.bl false),S5,(Hq ((WO (OO uL)).trans (OO wK))).trans rfl,kS,.inl ⟨rfl,rfl⟩⟩)
  (by
   rintro e S' ⟨⟨z,rfl⟩,a1,Hc,a2,a3,a4⟩;rw[AF,MW (AL _)]at a4;cases a4
   exact⟨a1,.inr ⟨⟨z,rfl⟩,rfl⟩⟩)
 have it:∀z S',D1 (AD 1) (e5 tN gs bits S.length z) S'=.ok (Hm (gs.map D.int)) S':=λz S'=>Sq (xs:=gs.map D.int) rfl
 have l1:=(KR (g:=tgN 4) (b:=bF1) (it none S0)).trans q1;have l2:=(KR (g:=tgN 4) (b:=bF2 W 9) (it z1 S1)).trans p1;refine⟨S2,Mp (n:=5) (mb:=ZQ W) ?_,p2⟩;unfold ZQ
 rcases p3 with⟨rfl,rfl⟩ | ⟨⟨z,rfl⟩,rfl⟩
 ·exact(CS s3).trans ((CS l1).trans (Vf l2))
 ·exact(CS s3).trans ((CS l1).trans ((CS l2).trans rfl))
open Classical in
def SU(ξ:List ZLi)(gs:ZLi)(bits:Int):Option Bool:=if (∀t∈ξ,t.length<=1000/\∀x∈t,0<=x)/\∀g∈gs,0<=g/\g < ξ.length then Uf (Tk ξ) bits 9 gs else none
theorem nF(W:Wd)(ξ:List ZLi)(gs:ZLi)(bits:Int):VF (WC W) [.z (oL (eT D.int) ξ),.v (eT D.int gs),.v (D.int bits)] (rV D.bl) (SU ξ gs bits):=λv hv S ds ha=>by
 unfold SU at hv;split at hv
 ·rename_i hc
  match ds,ha with
  | [d1,d2,d3],⟨⟨n,h1,h2⟩,h3,h4,_⟩=>
   cases h1;cases h3;cases h4;obtain⟨S',h5,h6⟩:=kx W hc.1 hc.2 hv h2;exact⟨_,S',h5,h6,rfl⟩
 ·cases hv
def HI(Ay:ZLi)(iG:Int):Option (Fw Int Unit):=
 BF (if (decide (iG < (Ay.length:Int)))=true then(atI Ay iG).bind λx6=>some (.rt x6)else some (.nx ())) λ_=>some (.rt (0:Int))
def CK(Ay:ZLi)(iG:Int):Option Int:=GM (HI Ay iG)
theorem Fo(W:Wd)(Ay:ZLi)(iG:Int):VF (EM W) [.v (eF Ay),.v (D.int iG)] (rV D.int) (CK Ay iG):=by
 refine EZ (n:=2) (b:=Jl W) (p:=HI Ay iG) (B:=λ_=>[]) ?_;show VS [.v (eF Ay),.v (D.int iG)] _ _ _ _;unfold Jl HI;exact(BA (Fj (B:=(λ(_:Unit)=>[.v (eF Ay),.v (D.int iG)])) (Gi (lg (AI rfl) (VV (AI rfl)))) (E8 (dM (AI rfl) (AI rfl))) (GV (.refl _))) (λ_=>(E8 (CQ rfl))))
def LX(Ae:Int):Option (Fw (List ZPi) Unit):=
 BF (((some []).bind FP).bind λx2=>some (.nx x2)) λv1=>BF (((some Ae).bind MK).bind λε=>Er ε v1 λ(s3:(List ZPi)) x4=>Dx (λyh=>yh) ((XN (x4+(1:Int)) Ae).bind λl17=>Er l17 s3 λ(zc:(List ZPi)) yi=>Dx (λv12=>v12) ((WM zc (x4,yi)).bind λl14=>some (.nx l14)))) λxP=>some (.rt xP)
def HP(Ae:Int):Option (List ZPi):=GM (LX Ae)
theorem Ot(W:Wd)(Ae:Int):VF (JC W) [.v (D.int Ae)] (rN (oL (eP D.int D.int))) (HP Ae):=by
 refine EZ (n:=4) (b:=Lw W) (p:=LX Ae) (B:=λ_=>[]) ?_;show VS [.v (D.int Ae),.u,.u,.u] _ _ _ _;unfold Lw LX;exact(BA (Gu (CD (DN DV))) (λv1=>(BA (EJ (s0:=v1) (B:=(λ(zP:(List ZPi))=>[.v (D.int Ae),.w 1 ((oL (eP D.int D.int)) zP),.u,.u])) (Dr (AI rfl)) Dg (.refl _) (λs3 x4=>(Cp (EJ (s0:=s3) (B:=(λ(s19:(List ZPi))=>[.v (D.int Ae),.w 1 ((oL (eP D.int D.int)) s19),.v (D.int x4),.u])) (Ko (GZ (AI rfl) (CQ rfl)) (AI rfl)) Dg (.refl _) (λzc yi=>(Cp (VP rfl (Jz (AI rfl) (AI rfl)) rfl) (λv12=>(.same (.same (.same (.drop .nil)))))))) (λyh=>(.same (.same (.drop (.same .nil)))))))) (λxP=>(RM rfl)))))
def HH(Ae:Int)(FC:Int):Option (Fw (List ZPi) Unit):=
 BF (if (decide (FC=(1:Int)))=true then(((some (Ae - (1:Int))).bind MK).bind λl12=>D3 l12 (λx6=>some true) (λx6=>some (x6,(x6+(1:Int))))).bind λwL=>some (.rt wL)else some (.nx ())) λ_=>BF (if (decide (FC=(2:Int)))=true then((((some (Ae - (1:Int))).bind MK).bind λη=>D3 η (λvI=>some true) (λvI=>some (vI,(vI+(1:Int))))).bind λvJ=>((some (((0:Int),(Ae - (1:Int))) :: [])).bind FP).bind λxQ=>NE vJ xQ).bind λxi=>some (.rt xi)else some (.nx ())) λ_=>BF (if (decide (FC=(3:Int)))=true then(HP Ae).bind λθ=>some (.rt θ)else some (.nx ())) λ_=>BF (if (decide (FC=(4:Int)))=true then((XN (1:Int) Ae).bind λl58=>D3 l58 (λxj=>some true) (λxj=>some ((0:Int),xj))).bind λι=>some (.rt ι)else some (.nx ())) λ_=>((some []).bind FP).bind λν=>some (.rt ν)
def El(Ae:Int)(FC:Int):Option (List ZPi):=GM (HH Ae FC)
theorem Ou(W:Wd)(Ae:Int)(FC:Int):VF (HX W) [.v (D.int Ae),.v (D.int FC)] (rN (oL (eP D.int D.int))) (El Ae FC):=by
 refine EZ (n:=2) (b:=Hd W) (p:=HH Ae FC) (B:=λ_=>[]) ?_;show VS [.v (D.int Ae),.v (D.int FC)] _ _ _ _;unfold Hd HH;exact(BA (Fj (B:=(λ(_:Unit)=>[.v (D.int Ae),.v (D.int FC)])) (Gi (Nx Dh Mx (AI rfl) (CQ rfl))) (Ej (CD (Ck (VI.k (Dr (JN (AI rfl) (CQ rfl)))) (λx6=>GJ) (λx6=>(Jz (AI rfl) (GZ (AI rfl) (CQ rfl))))))) (GV (.refl _))) (λ_=>(BA (Fj (B:=(λ(_:Unit)=>[.v (D.int Ae),.v (D.int FC)])) (Gi (Nx Dh Mx (AI rfl) (CQ rfl))) (Ej (Zn (Fn (CD (Ck (VI.k (Dr (JN (AI rfl) (CQ rfl)))) (λvI=>GJ) (λvI=>(Jz (AI rfl) (GZ (AI rfl) (CQ rfl))))))) (Fn (CD (DN (Ek (Jz (CQ rfl) (JN (AI rfl) (CQ rfl))) DV)))))) (GV (.refl _))) (λ_=>(BA (Fj (B:=(λ(_:Unit)=>[.v (D.int Ae),.v (D.int FC)])) (Gi (Nx Dh Mx (AI rfl) (CQ rfl))) (Ej (B9 (Cu (AI rfl) CF) (λz46=>Ot W z46.1) (λ_=>rfl) Gm)) (GV (.refl _))) (λ_=>(BA (Fj (B:=(λ(_:Unit)=>[.v (D.int Ae),.v (D.int FC)])) (Gi (Nx Dh Mx (AI rfl) (CQ rfl))) (Ej (CD (Ck (VI.k (Ko (CQ rfl) (AI rfl))) (λxj=>GJ) (λxj=>(Jz (CQ rfl) (AI rfl)))))) (GV (.refl _))) (λ_=>(Ej (CD (DN DV)))))))))))
def J5(Ay:ZLi)(IR:Int)(Ae:Int):Option (Fw (List ZPi) Unit):=
 BF ((HP Ae).bind λx5=>some (.nx x5)) λv1=>BF (some (.nx [])) λv6=>BF (((((((CK Ay (0:Int)).bind λwL=>some (wL / 7)).bind λxR=>some (xR % 6)).bind λvh=>some (vh,())).bind λwt=>some (Ae,wt)).bind λw8=>El w8.1 w8.2.1).bind λl26=>Er l26 v6 λ(uM:(List (ZPi×Bool))) vi=>Dx (λzQ=>zQ) ((Gy uM vi true).bind λο=>some (.nx ο))) λς=>BF ((((some (Ay.length:Int)).bind λwu=>some (if (63:Int) < wu then(63:Int)else wu)).bind λwM=>XN IR wM).bind λl55=>Er l55 ς λ(wx:(List (ZPi×Bool))) xl=>BF ((((atI Ay xl).bind λυ=>QG υ (v1.length:Int)).bind λxS=>atI v1 xS).bind λχ=>some (.nx χ)) λxm=>Dx (λzR=>zR) ((if (!(Ai wx xm).isSome)=true then some true else(Ai wx xm).bind λxT=>some (!xT)).bind λxU=>(Gy wx xm xU).bind λψ=>some (.nx ψ))) λω=>(D3 v1 (λwy=>if ((Ai ω wy).isSome)=true then Ai ω wy else some false) (λwy=>some wy)).bind λx65=>some (.rt x65)
def IV(Ay:ZLi)(IR:Int)(Ae:Int):Option (List ZPi):=GM (J5 Ay IR Ae)
theorem W4(W:Wd)(Ay:ZLi)(IR:Int)(Ae:Int):VF (NC W) [.v (eF Ay),.v (D.int IR),.v (D.int Ae)] (rN (oL (eP D.int D.int))) (IV Ay IR Ae):=by
 refine EZ (n:=7) (b:=NM W) (p:=J5 Ay IR Ae) (B:=λ_=>[]) ?_;show VS [.v (eF Ay),.v (D.int IR),.v (D.int Ae),.u,.u,.u,.u] _ _ _ _;unfold NM J5;exact(BA (EO (B9 (Cu (AI rfl) CF) (λz4=>Ot W z4.1) (λ_=>rfl) Gm)) (λv1=>(BA (Gu dS) (λv6=>(BA (EJ (s0:=v6) (B:=(λ(s28:(List (ZPi×Bool)))=>[.v (eF Ay),.v (D.int IR),.v (D.int Ae),.y ((oL (eP D.int D.int)) v1),.w 4 ((oDP D.bl) s28),.u,.u])) (Pw (B9 (Cu (AI rfl) (Cu (Om rfl (Oo rfl (B9 (Cu (AI rfl) (Cu (CQ rfl) CF)) (λzS=>Fo W zS.1 zS.2.1) (λ_=>rfl) GX))) CF)) (λw8=>Ou W w8.1 w8.2.1) (λ_=>rfl) Gm)) Dg (.refl _) (λuM vi=>(Cp (Wq rfl (AI rfl) (CQ rfl) rfl) (λzQ=>(.same (.same (.same (.same (.same (.drop (.same .nil))))))))))) (λς=>(BA (EJ (s0:=ς) (B:=(λ(s57:(List (ZPi×Bool)))=>[.v (eF Ay),.v (D.int IR),.v (D.int Ae),.y ((oL (eP D.int D.int)) v1),.w 4 ((oDP D.bl) s57),.u,.u])) (Ko (AI rfl) (VU (VV (AI rfl)) (CQ rfl))) Dg (.refl _) (λwx xl=>(BA (D8 (E9 (CU rfl) (OD (dM (AI rfl) (AI rfl)) (Is (CU rfl))))) (λxm=>(Cp (Wq rfl (AI rfl) (mz (dQ (AI rfl) (HB rfl)) (i8 (Wx (HB rfl) (AI rfl)))) rfl) (λzR=>(.same (.same (.same (.same (.same (.drop (.drop .nil))))))))))))) (λω=>(Ej (CD (Ck (VI.k (Jy rfl)) (λwy=>(dY (Gi (jC (AI rfl) (HB rfl))) (VY (Wx (HB rfl) (AI rfl))))) (λwy=>(AI rfl)))))))))))))
def IK(Ay:ZLi)(BZ:(List ZPi)):Option (Fw (List ZPi) Unit):=
 BF (((((CK Ay (0:Int)).bind λx8=>some (x8 / 42)).bind λx9=>some (x9 % 2)).bind λx1=>some (decide (x1=(0:Int)))).bind λyi=>if yi=true then some (.rt BZ)else some (.nx ())) λ_=>(D3 BZ.reverse (λw9=>some true) (λw9=>some (w9.2,w9.1))).bind λvi=>some (.rt vi)
def IM(Ay:ZLi)(BZ:(List ZPi)):Option (List ZPi):=GM (IK Ay BZ)
theorem Ti(W:Wd)(Ay:ZLi)(BZ:(List ZPi)):VF (KU W) [.v (eF Ay),.z ((oL (eP D.int D.int)) BZ)] (rN (oL (eP D.int D.int))) (IM Ay BZ):=by
 refine EZ (n:=2) (b:=Kc W) (p:=IK Ay BZ) (B:=λ_=>[]) ?_;show VS [.v (eF Ay),.z ((oL (eP D.int D.int)) BZ)] _ _ _ _;unfold Kc IK;exact(BA (Fj (B:=(λ(_:Unit)=>[.v (eF Ay),.z ((oL (eP D.int D.int)) BZ)])) (Gi (Nx Dh Mx (Om rfl (Oo rfl (B9 (Cu (AI rfl) (Cu (CQ rfl) CF)) (λz7=>Fo W z7.1 z7.2.1) (λ_=>rfl) GX))) (CQ rfl))) (Ej (CD (iz (iy (DI rfl))))) (GV (.refl _))) (λ_=>(Ej (CD (Ck (me (DI rfl)) (λw9=>GJ) (λw9=>(Jz (dG (AI rfl)) (VX (AI rfl)))))))))
def J6(BZ:(List ZPi))(Bj:Int):Option (Fw ZLi Unit):=
 BF (((some []).bind FP).bind λx2=>some (.nx x2)) λv1=>BF (Er BZ v1 λ(s3:ZLi) x4=>Dx (λvK=>vK) (if (decide (Bj∈[x4.1,x4.2]))=true then Dx (λv7=>v7) ((WM s3 ((x4.1+x4.2) - Bj)).bind λl9=>some (.nx l9))else some (.nx s3))) λuM=>some (.rt (B2 uM))
def IX(BZ:(List ZPi))(Bj:Int):Option ZLi:=GM (J6 BZ Bj)
theorem Qi(W:Wd)(BZ:(List ZPi))(Bj:Int):VF (KB W) [.z ((oL (eP D.int D.int)) BZ),.v (D.int Bj)] (rN (oL D.int)) (IX BZ Bj):=by
 refine EZ (n:=4) (b:=NO W) (p:=J6 BZ Bj) (B:=λ_=>[]) ?_;show VS [.z ((oL (eP D.int D.int)) BZ),.v (D.int Bj),.u,.u] _ _ _ _;unfold NO J6;exact(BA (Gu (CD (DN DV))) (λv1=>(BA (EJ (s0:=v1) (B:=(λ(xP:ZLi)=>[.z ((oL (eP D.int D.int)) BZ),.v (D.int Bj),.w 2 ((oL D.int) xP),.u])) (YS rfl) Dg (.refl _) (λs3 x4=>(Cp (Fj (B:=(λ(yh:ZLi)=>[.z ((oL (eP D.int D.int)) BZ),.v (D.int Bj),.w 2 ((oL D.int) yh),.v ((eP D.int D.int) x4)])) (Gi (nA Dh (AI rfl) (AI rfl))) (Cp (VP rfl (JN (GZ (VX (AI rfl)) (dG (AI rfl))) (AI rfl)) rfl) (λv7=>(.refl _))) (GV (.refl _))) (λvK=>(.same (.same (.same (.drop .nil)))))))) (λuM=>(Ej (dF (HB rfl)))))))
def Mt(Ae:Int)(BD:Int):Option (Fw (List ZLi) Unit):=
 BF (((((some []).bind FP).bind λx2=>some (x2 :: [])).bind FP).bind λx4=>some (.nx x4)) λv1=>BF (((some BD).bind MK).bind λl48=>Er l48 v1 λ(s5:(List ZLi)) x6=>BF (((some []).bind FP).bind λx8=>some (.nx x8)) λv7=>BF (Er s5 v7 λ(s9:(List ZLi)) uU=>BF (some (.nx (0:Int))) λv11=>BF ((((some []).bind FP).bind λxR=>some (!decide (uU=xR))).bind λzd=>if zd=true then Dx (λv15=>v15) (((atI uU (-(1:Int))).bind λxV=>some (xV+(1:Int))).bind λvI=>some (.nx vI))else some (.nx v11)) λs24=>Dx (λv26=>v26) (((XN s24 (((Ae - BD)+x6)+(1:Int))).bind λl43=>D3 l43 (λxi=>some true) (λxi=>((some (xi :: [])).bind FP).bind λx42=>NE uU x42)).bind λx27=>(NE s9 x27).bind λη=>some (.nx η))) λs45=>Dx (λ_=>s45) (some (.nx ()))) λxW=>some (.rt xW)
def IW(Ae:Int)(BD:Int):Option (List ZLi):=GM (Mt Ae BD)
theorem W5(W:Wd)(Ae:Int)(BD:Int):VF (ND W) [.v (D.int Ae),.v (D.int BD)] (rN (oL (eT D.int))) (IW Ae BD):=by
 refine EZ (n:=7) (b:=NN W) (p:=Mt Ae BD) (B:=λ_=>[]) ?_;show VS [.v (D.int Ae),.v (D.int BD),.u,.u,.u,.u,.u] _ _ _ _;unfold NN Mt;exact(BA (EO (CD (DN (Ek (LJ DV) DV)))) (λv1=>(BA (EJ (s0:=v1) (B:=(λ(zT:(List ZLi))=>[.v (D.int Ae),.v (D.int BD),.y ((oL (eT D.int)) zT),.u,.u,.u,.u])) (Dr (AI rfl)) Dg (.refl _) (λs5 x6=>(BA (Gu (CD (DN DV))) (λv7=>(BA (EJ (s0:=v7) (B:=(λ(s46:(List ZLi))=>[.v (D.int Ae),.v (D.int BD),.y ((oL (eT D.int)) s5),.v (D.int x6),.w 4 ((oL (eT D.int)) s46),.u,.u])) (Jy rfl) Dg (.refl _) (λs9 uU=>(BA (D8 (CQ rfl)) (λv11=>(BA (Fj (B:=(λ(zU:Int)=>[.v (D.int Ae),.v (D.int BD),.y ((oL (eT D.int)) s5),.v (D.int x6),.w 4 ((oL (eT D.int)) s9),.v ((eT D.int) uU),.v (D.int zU)])) (Gi (q9 (Re Dh) oo (AI rfl) (LJ DV))) (Cp (D8 (GZ (VW (AI rfl) (VR (CQ rfl))) (CQ rfl))) (λv15=>(.refl _))) (GV (.refl _))) (λs24=>(Cp (dB rfl (CD (Ck (VI.k (Ko (AI rfl) (GZ (GZ (JN (AI rfl) (AI rfl)) (AI rfl)) (CQ rfl)))) (λxi=>GJ) (λxi=>(NV (AI rfl) (LJ (Ek (AI rfl) DV)))))) rfl) (λv26=>(.same (.same (.same (.same (.same (.drop (.drop .nil))))))))))))))) (λs45=>(Cp (YO 4 rfl rfl (Pu rfl)) (λ_=>(.same (.same (.same (.drop (.drop (.same (.same .nil))))))))))))))) (λxW=>(Zj rfl)))))
def FV(Bi:(Nat×List ZPi))(Bj:Int):Option (Fw Unit Unit):=
 ((if decide ((0:Int)<=Bj)=true then some (decide (Bj < (Bi.1:Int)))else some false).bind λx5=>some (!x5)).bind λx6=>if x6=true then none else some (.nx ())
def HM(Bi:(Nat×List ZPi))(Bj:Int):Option Unit:=j9 (FV Bi Bj)
theorem Os(W:Wd)(Bi:(Nat×List ZPi))(Bj:Int):VF (HU W) [.z ((HA W) Bi),.v (D.int Bj)] (rV eU) (HM Bi Bj):=by
 refine mq (n:=2) (b:=Ha W) (p:=FV Bi Bj) (B:=λ_=>[.z ((HA W) Bi),.v (D.int Bj)]) ?_;show VS [.z ((HA W) Bi),.v (D.int Bj)] _ _ _ _;unfold Ha FV;exact(Fj (B:=(λ(_:Unit)=>[.z ((HA W) Bi),.v (D.int Bj)])) (VZ (Gi (Wy gw tS (CQ rfl) (AI rfl) (JJ (DI rfl))))) YQ (GV (.refl _)))
def Vo(Bi:(Nat×List ZPi))(Bj:Int):Option (Fw ZLi Unit):=
 BF ((HM Bi Bj).bind λ_=>some (.nx ())) λ_=>(atI (QF Bi.1 Bi.2) Bj).bind λx9=>some (.rt x9)
def Vq(Bi:(Nat×List ZPi))(Bj:Int):Option ZLi:=GM (Vo Bi Bj)
theorem nE(W:Wd)(Bi:(Nat×List ZPi))(Bj:Int):VF (ZJ W) [.z ((HA W) Bi),.v (D.int Bj)] (rV (eT D.int)) (Vq Bi Bj):=by
 refine EZ (n:=2) (b:=ZP W) (p:=Vo Bi Bj) (B:=λ_=>[]) ?_;show VS [.z ((HA W) Bi),.v (D.int Bj)] _ _ _ _;unfold ZP Vo;exact(BA (iu (B9 (Kq (DI rfl) (Cu (AI rfl) CF)) (λz5=>Os W z5.1 z5.2.1) (λ_=>rfl) GX)) (λ_=>(E8 (VW (i7 (DI rfl)) (AI rfl)))))
def LW(Bi:(Nat×List ZPi)):Option (Fw (List ZLi) Unit):=
 (((some (Bi.1:Int)).bind MK).bind λl18=>D3 l18 (λx2=>some true) (λx2=>(((some (x2 :: [])).bind FP).bind λw9=>(Vq Bi x2).bind λvh=>NE w9 vh).bind λwa=>some (B2 wa))).bind λxX=>some (.rt xX)
def La(Bi:(Nat×List ZPi)):Option (List ZLi):=GM (LW Bi)
theorem YU(W:Wd)(Bi:(Nat×List ZPi)):VF (Ll W) [.z ((HA W) Bi)] (rN (oL (eT D.int))) (La Bi):=by
 refine EZ (n:=1) (b:=OV W) (p:=LW Bi) (B:=λ_=>[]) ?_;show VS [.z ((HA W) Bi)] _ _ _ _;unfold OV LW;exact(Ej (CD (Ck (VI.k (Dr (JJ (DI rfl)))) (λx2=>GJ) (λx2=>(JI (Fn (Kp (NV (LJ (Ek (AI rfl) DV)) (B9 (Kq (DI rfl) (Cu (AI rfl) CF)) (λwb=>nE W wb.1 wb.2.1) (λ_=>rfl) GX)))))))))
def NY(L0:ZLi):Option (Fw Int Unit):=
 BF (some (.nx (0:Int))) λv1=>BF (Er L0 v1 λ(s3:Int) x4=>Dx (λv7=>v7) ((Oz (1:Int) x4).bind λx8=>some (.nx (Cn s3 x8)))) λzc=>some (.rt zc)
def G2(L0:ZLi):Option Int:=GM (NY L0)
theorem bJ(W:Wd)(L0:ZLi):VF (QP W) [.v ((eT D.int) L0)] (rV D.int) (G2 L0):=by
 refine EZ (n:=3) (b:=QW W) (p:=NY L0) (B:=λ_=>[]) ?_;show VS [.v ((eT D.int) L0),.u,.u] _ _ _ _;unfold QW NY;exact(BA (D8 (CQ rfl)) (λv1=>(BA (EJ (s0:=v1) (B:=(λ(ze:Int)=>[.v ((eT D.int) L0),.v (D.int ze),.u])) (Pv (AI rfl)) Dg (.refl _) (λs3 x4=>(Cp (Pt rfl (Px (CQ rfl) (AI rfl))) (λv7=>(.same (.same (.drop .nil))))))) (λzc=>(E8 (AI rfl))))))
def NW(L3:Int):Option (Fw ZLi Unit):=
 BF (((some []).bind FP).bind λx2=>some (.nx x2)) λv1=>BF (some (.nx L3)) λv3=>BF (whF (λ(s5:ZLi×Int)=>some (s5.2 != 0)) (λ(s5:ZLi×Int)=>BF ((WM s5.1 ((Dp (Bh s5.2 (-s5.2)):Int) - (1:Int))).bind λxY=>some (.nx xY)) λv8=>Dx (λvQ=>(v8,vQ)) (some (.nx (Bh s5.2 (s5.2 - (1:Int)))))) wN (v1,v3)) λs6=>some (.rt s6.1)
def Ku(L3:Int):Option ZLi:=GM (NW L3)
theorem UN(W:Wd)(L3:Int):VF (Nf W) [.v (D.int L3)] (rN (oL D.int)) (Ku L3):=by
 refine EZ (n:=3) (b:=QU W) (p:=NW L3) (B:=λ_=>[]) ?_;show VS [.v (D.int L3),.u,.u] _ _ _ _;unfold QU NW;exact(BA (Gu (CD (DN DV))) (λv1=>(BA (D8 (AI rfl)) (λv3=>(BA (Wp (s0:=(v1,v3)) (B:=(λ(vj:ZLi×Int)=>[.v (D.int L3),.w 1 ((oL D.int) vj.1),.v (D.int vj.2)])) (.refl _) (λs5=>(Zo (AI rfl))) (λs5=>(BA (VP rfl (JN (jD (RP (AI rfl) (VR (AI rfl)))) (CQ rfl)) rfl) (λv8=>(Cp (Pt rfl (JN (AI rfl) (CQ rfl))) (λvQ=>(.refl _))))))) (λs6=>(RM rfl)))))))
def J4(Az:ZLi)(KC:Int)(Bj:Int):Option (Fw ZLi Unit):=
 (D3 Az (λx1=>some true) (λx1=>if (decide (x1=KC))=true then some Bj else some x1)).bind λx6=>some (.rt x6)
def J7(Az:ZLi)(KC:Int)(Bj:Int):Option ZLi:=GM (J4 Az KC Bj)
theorem W1(W:Wd)(Az:ZLi)(KC:Int)(Bj:Int):VF (NB W) [.v ((eT D.int) Az),.v (D.int KC),.v (D.int Bj)] (rV (eT D.int)) (J7 Az KC Bj):=by
 refine EZ (n:=3) (b:=NI W) (p:=J4 Az KC Bj) (B:=λ_=>[]) ?_;show VS [.v ((eT D.int) Az),.v (D.int KC),.v (D.int Bj)] _ _ _ _;unfold NI J4;exact(E8 (JI (Fn (CD (Ck (VI.k (Pv (AI rfl))) (λx1=>GJ) (λx1=>(YT (Gi (Nx Dh Mx (AI rfl) (AI rfl))) (AI rfl) (AI rfl) GX)))))))
def P9(Ae:Int)(Ee:Int):Option (Fw (List ZLi) Unit):=
 BF (((((some []).bind FP).bind λx2=>some (x2 :: [])).bind FP).bind λx4=>some (.nx x4)) λv1=>BF (((some Ee).bind MK).bind λl46=>Er l46 v1 λ(s5:(List ZLi)) x6=>BF (((some []).bind FP).bind λx8=>some (.nx x8)) λv7=>BF (Er s5 v7 λ(s9:(List ZLi)) uU=>BF ((if (!uU.isEmpty)=true then(atI uU (-(1:Int))).bind λwa=>some (wa+(1:Int))else some (0:Int)).bind λxV=>some (.nx xV)) λv11=>Dx (λs40=>s40) ((XN v11 (((Ae - Ee)+x6)+(1:Int))).bind λl39=>Er l39 s9 λ(zf:(List ZLi)) x31=>Dx (λv32=>v32) ((((some (x31 :: [])).bind FP).bind λxi=>NE uU xi).bind λwM=>(WM zf wM).bind λϐ=>some (.nx ϐ)))) λs43=>Dx (λ_=>s43) (some (.nx ()))) λs47=>some (.rt s47)
def UT(Ae:Int)(Ee:Int):Option (List ZLi):=GM (P9 Ae Ee)
theorem bH(W:Wd)(Ae:Int)(Ee:Int):VF (QN W) [.v (D.int Ae),.v (D.int Ee)] (rN (oL (eT D.int))) (UT Ae Ee):=by
 refine EZ (n:=8) (b:=QT W) (p:=P9 Ae Ee) (B:=λ_=>[]) ?_;show VS [.v (D.int Ae),.v (D.int Ee),.u,.u,.u,.u,.u,.u] _ _ _ _;unfold QT P9;exact(BA (EO (CD (DN (Ek (LJ DV) DV)))) (λv1=>(BA (EJ (s0:=v1) (B:=(λ(s48:(List ZLi))=>[.v (D.int Ae),.v (D.int Ee),.y ((oL (eT D.int)) s48),.u,.u,.u,.u,.u])) (Dr (AI rfl)) Dg (.refl _) (λs5 x6=>(BA (Gu (CD (DN DV))) (λv7=>(BA (EJ (s0:=v7) (B:=(λ(zg:(List ZLi))=>[.v (D.int Ae),.v (D.int Ee),.y ((oL (eT D.int)) s5),.v (D.int x6),.w 4 ((oL (eT D.int)) zg),.u,.u,.u])) (Jy rfl) Dg (.refl _) (λs9 uU=>(BA (D8 (YT (jE (AI rfl)) (GZ (VW (AI rfl) (VR (CQ rfl))) (CQ rfl)) (CQ rfl) GX)) (λv11=>(Cp (EJ (s0:=s9) (B:=(λ(s41:(List ZLi))=>[.v (D.int Ae),.v (D.int Ee),.y ((oL (eT D.int)) s5),.v (D.int x6),.w 4 ((oL (eT D.int)) s41),.v ((eT D.int) uU),.v (D.int v11),.u])) (Ko (AI rfl) (GZ (GZ (JN (AI rfl) (AI rfl)) (AI rfl)) (CQ rfl))) Dg (.refl _) (λzf x31=>(Cp (VP rfl (NV (AI rfl) (LJ (Ek (AI rfl) DV))) rfl) (λv32=>(.same (.same (.same (.same (.same (.same (.same (.drop .nil)))))))))))) (λs40=>(.same (.same (.same (.same (.same (.drop (.drop (.same .nil)))))))))))))) (λs43=>(Cp (YO 4 rfl rfl (Pu rfl)) (λ_=>(.same (.same (.same (.drop (.drop (.same (.same (.same .nil)))))))))))))))) (λs47=>(Zj rfl)))))
def Hw(Ae:Int)(Ee:Int):Option (Fw Int Unit):=
 BF (some (.nx (1:Int))) λv1=>BF (((some Ee).bind MK).bind λl16=>Er l16 v1 λ(s3:Int) x4=>Dx (λv5=>v5) (((fM s3 (Ae - x4)).bind λwL=>gZ wL (x4+(1:Int))).bind λw9=>some (.nx w9))) λvK=>some (.rt vK)
def Kt(Ae:Int)(Ee:Int):Option Int:=GM (Hw Ae Ee)
theorem Pz(W:Wd)(Ae:Int)(Ee:Int):VF (IA W) [.v (D.int Ae),.v (D.int Ee)] (rV D.int) (Kt Ae Ee):=by
 refine EZ (n:=4) (b:=IB W) (p:=Hw Ae Ee) (B:=λ_=>[]) ?_;show VS [.v (D.int Ae),.v (D.int Ee),.u,.u] _ _ _ _;unfold IB Hw;exact(BA (D8 (CQ rfl)) (λv1=>(BA (EJ (s0:=v1) (B:=(λ(yh:Int)=>[.v (D.int Ae),.v (D.int Ee),.v (D.int yh),.u])) (Dr (AI rfl)) Dg (.refl _) (λs3 x4=>(Cp (D8 (jB (dJ (AI rfl) (JN (AI rfl) (AI rfl))) (GZ (AI rfl) (CQ rfl)))) (λv5=>(.same (.same (.same (.drop .nil)))))))) (λvK=>(E8 (AI rfl))))))
def OK(Bi:(Nat×List ZPi))(BD:Int):Option (Fw Int Unit):=
 BF (((if decide ((1:Int)<=BD)=true then some (decide (BD<=(Bi.1:Int)))else some false).bind λx5=>some (!x5)).bind λx6=>if x6=true then none else some (.nx ())) λ_=>(Kt (Bi.1:Int) BD).bind λw9=>some (.rt w9)
def SS(Bi:(Nat×List ZPi))(BD:Int):Option Int:=GM (OK Bi BD)
theorem YV(W:Wd)(Bi:(Nat×List ZPi))(BD:Int):VF (OS W) [.z ((HA W) Bi),.v (D.int BD)] (rV D.int) (SS Bi BD):=by
 refine EZ (n:=2) (b:=OW W) (p:=OK Bi BD) (B:=λ_=>[]) ?_;show VS [.z ((HA W) Bi),.v (D.int BD)] _ _ _ _;unfold OW OK;exact(BA (Fj (B:=(λ(_:Unit)=>[.z ((HA W) Bi),.v (D.int BD)])) (VZ (Gi (Wy gw gw (CQ rfl) (AI rfl) (JJ (DI rfl))))) YQ (GV (.refl _))) (λ_=>(E8 (B9 (Cu (JJ (DI rfl)) (Cu (AI rfl) CF)) (λwb=>Pz W wb.1 wb.2.1) (λ_=>rfl) GX))))
def Ms(Bi:(Nat×List ZPi))(BD:Int):Option (Fw (List ZLi) Unit):=
 BF (((SS Bi BD).bind λx1=>some (decide ((400:Int) < x1))).bind λx8=>if x8=true then none else some (.nx ())) λ_=>(UT (Bi.1:Int) BD).bind λwa=>some (.rt wa)
def Ft(Bi:(Nat×List ZPi))(BD:Int):Option (List ZLi):=GM (Ms Bi BD)
theorem W2(W:Wd)(Bi:(Nat×List ZPi))(BD:Int):VF (KA W) [.z ((HA W) Bi),.v (D.int BD)] (rN (oL (eT D.int))) (Ft Bi BD):=by
 refine EZ (n:=2) (b:=NJ W) (p:=Ms Bi BD) (B:=λ_=>[]) ?_;show VS [.z ((HA W) Bi),.v (D.int BD)] _ _ _ _;unfold NJ Ms;exact(BA (Fj (B:=(λ(_:Unit)=>[.z ((HA W) Bi),.v (D.int BD)])) (Gi (rA (B9 (Kq (DI rfl) (Cu (AI rfl) CF)) (λz7=>YV W z7.1 z7.2.1) (λ_=>rfl) GX) (CQ rfl))) YQ (GV (.refl _))) (λ_=>(Ej (B9 (Cu (JJ (DI rfl)) (Cu (AI rfl) CF)) (λyj=>bH W yj.1 yj.2.1) (λ_=>rfl) Gm))))
structure Fp where
 ev:List ZLi
 kd:Str
 tk:List ZLi
 nu:List (ZLi×Int)
 hv:ZLi
 pb:ZLi
abbrev fdF(a b c h k m:Nat)(kd:Str):List (Str×D):=[("everything",.ref a),("kind",.str kd),("takes",.ref b),("numbers",.ref c),("having",.ref h),("place_bits",.ref k),("known",.ref m)]
def X1(W:Wd)(f:Fp)(L:Nat->Option Ob)(q m:Nat):Prop:=∃a b c h k,L q=some (.ins W.Field (fdF a b c h k m f.kd))/\L a=some (oL (eT D.int) f.ev)/\L b=some (oL (eT D.int) f.tk)/\L c=some (oDR D.int f.nu)/\L h=some (oL D.int f.hv)/\L k=some (oL D.int f.pb)
def ID(W:Wd)(f:Fp)(L:Nat->Option Ob)(d:D):Prop:=∃q m,d=.ref q/\X1 W f L q m
section
variable{W:Wd}{f:Fp}{P P':Pq}{C:Ab}{x:Str}{d:D}{o:Ob}
theorem AtO.of(h:∀L d,P L d->P' L d)(z:AtO P' C x o):AtO P C x o:=λL d q=>z L d (h L d q)
theorem AtN.of(h:∀L d,P L d->P' L d)(z:AtN P' C x):AtN P C x:=λL d q=>z L d (h L d q)
theorem ko:AtV (ID W f) W.Field "kind" (D.str f.kd):=λL d ⟨q,m,e,a,b,c,h,k,g,_⟩=>⟨q,_,e,g,rfl⟩
theorem IN:AtO (ID W f) W.Field "everything" (oL (eT D.int) f.ev):=λL d ⟨q,m,e,a,b,c,h,k,g,g1,_⟩=>⟨q,_,a,e,g,rfl,g1⟩
theorem Sv:AtO (ID W f) W.Field "takes" (oL (eT D.int) f.tk):=λL d ⟨q,m,e,a,b,c,h,k,g,g1,g2,_⟩=>⟨q,_,b,e,g,rfl,g2⟩
theorem ZI:AtO (ID W f) W.Field "numbers" (oDR D.int f.nu):=λL d ⟨q,m,e,a,b,c,h,k,g,g1,g2,g3,_⟩=>⟨q,_,c,e,g,rfl,g3⟩
theorem cI:AtO (ID W f) W.Field "having" (oL D.int f.hv):=λL d ⟨q,m,e,a,b,c,h,k,g,g1,g2,g3,g4,_⟩=>⟨q,_,h,e,g,rfl,g4⟩
theorem T9:AtO (ID W f) W.Field "place_bits" (oL D.int f.pb):=λL d ⟨q,m,e,a,b,c,h,k,g,g1,g2,g3,g4,g5⟩=>⟨q,_,k,e,g,rfl,g5⟩
theorem gU(hx:∀a b c h k m kd,(fdF a b c h k m kd).lookup x=none):AtN (ID W f) W.Field x:=λL d ⟨q,m,e,a,b,c,h,k,g,_⟩=>⟨q,_,e,g,hx ..⟩
end
def IL(Bv:Fp)(BX:Int):Option (Fw ZLi Unit):=
 BF ((atI Bv.ev BX).bind λx4=>some (.nx x4)) λv1=>(((some (Bv.tk.length:Int)).bind MK).bind λl9=>D3 l9 (λx6=>some (!decide (x6∈v1))) (λx6=>some x6)).bind λuU=>some (.rt uU)
def Gn(Bv:Fp)(BX:Int):Option ZLi:=GM (IL Bv BX)
theorem Tj(W:Wd)(Bv:Fp)(BX:Int):VF (KW W) [.q (ID W Bv),.v (D.int BX)] (rN (oL D.int)) (Gn Bv BX):=by
 refine EZ (n:=3) (b:=Kd W) (p:=IL Bv BX) (B:=λ_=>[]) ?_;show VS [.q (ID W Bv),.v (D.int BX),.u] _ _ _ _;unfold Kd IL;exact(BA (D8 (E9 (Gv IN rfl) (AI rfl))) (λv1=>(Ej (CD (Ck (VI.k (Dr (Is (Gv Sv rfl)))) (λx6=>(Gi (RO Dh (AI rfl) (AI rfl)))) (λx6=>(AI rfl)))))))
def ER(Bv:Fp)(BX:Int):Option (Fw Int Unit):=
 BF ((atI Bv.ev BX).bind λx4=>some (.nx x4)) λv1=>BF (some (.nx (0:Int))) λv5=>BF (Er v1 v5 λ(s7:Int) x8=>Dx (λzV=>zV) ((atI Bv.tk x8).bind λwO=>Er wO s7 λ(ze:Int) wz=>Dx (λzf=>zf) (if (!decide (wz∈v1))=true then Dx (λwc=>wc) (((((J7 v1 x8 wz).bind λvI=>some (B2 vI)).bind λuV=>Ai Bv.nu uV).bind λϑ=>Oz (1:Int) ϑ).bind λuZ=>some (.nx (Cn ze uZ)))else some (.nx ze)))) λzW=>some (.rt zW)
def ET(Bv:Fp)(BX:Int):Option Int:=GM (ER Bv BX)
theorem Hn(W:Wd)(Bv:Fp)(BX:Int):VF (DX W) [.q (ID W Bv),.v (D.int BX)] (rV D.int) (ET Bv BX):=by
 refine EZ (n:=6) (b:=FQ W) (p:=ER Bv BX) (B:=λ_=>[]) ?_;show VS [.q (ID W Bv),.v (D.int BX),.u,.u,.u,.u] _ _ _ _;unfold FQ ER;exact(BA (D8 (E9 (Gv IN rfl) (AI rfl))) (λv1=>(BA (D8 (CQ rfl)) (λv5=>(BA (EJ (s0:=v5) (B:=(λ(s37:Int)=>[.q (ID W Bv),.v (D.int BX),.v ((eT D.int) v1),.v (D.int s37),.u,.u])) (Pv (AI rfl)) Dg (.refl _) (λs7 x8=>(Cp (EJ (s0:=s7) (B:=(λ(wx:Int)=>[.q (ID W Bv),.v (D.int BX),.v ((eT D.int) v1),.v (D.int wx),.v (D.int x8),.u])) (Pv (E9 (Gv Sv rfl) (AI rfl))) Dg (.refl _) (λze wz=>(Cp (Fj (B:=(λ(s31:Int)=>[.q (ID W Bv),.v (D.int BX),.v ((eT D.int) v1),.v (D.int s31),.v (D.int x8),.v (D.int wz)])) (Gi (RO Dh (AI rfl) (AI rfl))) (Cp (Pt rfl (Px (CQ rfl) (Op (Gv ZI rfl) (JI (Fn (Kp (B9 (Cu (AI rfl) (Cu (AI rfl) (Cu (AI rfl) CF))) (λϒ=>W1 W ϒ.1 ϒ.2.1 ϒ.2.2.1) (λ_=>rfl) GX))))))) (λwc=>(.refl _))) (GV (.refl _))) (λzf=>(.same (.same (.same (.same (.same (.drop .nil)))))))))) (λzV=>(.same (.same (.same (.same (.drop (.same .nil)))))))))) (λzW=>(E8 (AI rfl))))))))
def ES(Bv:Fp)(BX:Int):Option (Fw Int Unit):=
 BF ((atI Bv.ev BX).bind λx4=>some (.nx x4)) λv1=>BF (some (.nx (0:Int))) λv5=>BF (Er (De Bv.pb) v5 λ(s8:Int) x9=>Dx (λzP=>zP) ((SU Bv.tk v1 x9.2).bind λvi=>if vi=true then Dx (λv19=>v19) ((Oz (1:Int) x9.1).bind λxV=>some (.nx (Cn s8 xV)))else some (.nx s8))) λzU=>some (.rt zU)
def EU(Bv:Fp)(BX:Int):Option Int:=GM (ES Bv BX)
theorem Ho(W:Wd)(Bv:Fp)(BX:Int):VF (DY W) [.q (ID W Bv),.v (D.int BX)] (rV D.int) (EU Bv BX):=by
 refine EZ (n:=6) (b:=FR W) (p:=ES Bv BX) (B:=λ_=>[]) ?_;show VS [.q (ID W Bv),.v (D.int BX),.u,.u,.u,.u] _ _ _ _;unfold FR ES;exact(BA (D8 (E9 (Gv IN rfl) (AI rfl))) (λv1=>(BA (D8 (CQ rfl)) (λv5=>(BA (EJ (s0:=v5) (B:=(λ(s26:Int)=>[.q (ID W Bv),.v (D.int BX),.v ((eT D.int) v1),.v (D.int s26),.u,.u])) (i5 T9 rfl) iq (.refl _) (λs8 x9=>(Cp (Fj (B:=(λ(vj:Int)=>[.q (ID W Bv),.v (D.int BX),.v ((eT D.int) v1),.v (D.int vj),.v (D.int x9.1),.v (D.int x9.2)])) (VY (B9 (Kq (Gv Sv rfl) (Cu (AI rfl) (Cu (AI rfl) CF))) (λyj=>nF W yj.1 yj.2.1 yj.2.2.1) (λ_=>rfl) GX)) (Cp (Pt rfl (Px (CQ rfl) (AI rfl))) (λv19=>(.refl _))) (GV (.refl _))) (λzP=>(.same (.same (.same (.same (.drop (.drop .nil)))))))))) (λzU=>(E8 (AI rfl))))))))
def Lb(f:Fp)(n:Int):Option Int:=if decide (f.kd = "one")=true then ET f n else EU f n
def FD(W:Wd)(f:Fp)(L:Nat->Option Ob)(d:D):Prop:=∃q m lk,d=.ref q/\X1 W f L q m/\L m=some (.mem lk)/\∀n z:Int,0<=n->n < 1000->Lb f n=some z->lk (.inl n)=z
section
variable{W:Wd}{f:Fp}{x:Str}{L L':Nat->Option Ob}{qn m:Nat}
theorem FD.q:∀L d,FD W f L d->ID W f L d:=λL d ⟨q,m,lk,e,h,_⟩=>⟨q,m,e,h⟩
theorem IP:AtO (FD W f) W.Field "everything" (oL (eT D.int) f.ev):=AtO.of FD.q IN
theorem cJ:AtO (FD W f) W.Field "having" (oL D.int f.hv):=AtO.of FD.q cI
theorem gV(hx:∀a b c h k m kd,(fdF a b c h k m kd).lookup x=none):AtN (FD W f) W.Field x:=AtN.of FD.q (gU hx)
theorem X1.mono(h:∀n o,L n=some o->L' n=some o):X1 W f L qn m->X1 W f L' qn m:=λ⟨a,b,c,d,k,g0,g1,g2,g3,g4,g5⟩=>⟨a,b,c,d,k,h _ _ g0,h _ _ g1,h _ _ g2,h _ _ g3,h _ _ g4,h _ _ g5⟩
end
abbrev Y5(W:Wd):ME:=Xi (mB (m2 (eqD false) (D0 W.Field "kind" (AD 0)) (mC (.str "one")))) (M1 W.Field "linked_by_one" 2 (DX W) (AD 0) (AM (AD 1) BI)) (M1 W.Field "linked_by_all" 2 (DY W) (AD 0) (AM (AD 1) BI))
theorem dL(W:Wd)(f:Fp)(n:Int):VE [.q (ID W f),.v (D.int n)] (Y5 W) (rV D.int) (Lb f n):=
 YT (Gi (Nx aV fH (nD ko rfl) (CQ rfl)))
  (On (Pf:=ID W) (Pg:=ID W) (gU λ_ _ _ _ _ _ _=>rfl) (λ_ _ h=>h) rfl (Cu (AI rfl) CF) (λz=>Hn W f z.1) (λ_=>rfl) GX)
  (On (Pf:=ID W) (Pg:=ID W) (gU λ_ _ _ _ _ _ _=>rfl) (λ_ _ h=>h) rfl (Cu (AI rfl) CF) (λz=>Ho W f z.1) (λ_=>rfl) GX) GX
def Fu(f:Fp)(n:Int):Option Int:=if 0<=n/\n < 1000 then Lb f n else none
theorem jG{κ α:Type}[DecidableEq κ]{l:List (κ×α)}{k:κ}{v:α}(h:Ai l k=some v):(k,v)∈l:=by
 unfold Ai at h
 cases hf:l.find? λkv=>decide (kv.1=k)with
 | none=>rw[hf]at h;cases h
 | some x=>
  rw[hf]at h;cases h
  have h1:x.1=k:=by have:=iY hf;exact of_decide_eq_true this
  subst h1;exact U6 hf
theorem Y7{W:Wd}{f:Fp}{n z:Int}{S:Sto}{q m:Nat}{lk:Key->Int}(yD:0<=n)(yM:n < 1000)(hz:Lb f n=some z)(hl:lk (.inl n)=z)(hC:X1 W f (λk=>S[k]?) q m)(hm:S[m]?=some (.mem lk)):mK (Ij W) [.ref q,.int n] S m lk z:=by
 intro f' hk;obtain⟨a,b,c,h,k,g0,g1,g2,g3,g4,g5⟩:=hC
 have ne:∀j o,S[j]?=some o->o≠Ob.mem lk->j≠m:=λj o h1 h2 e=>by
  subst e;rw[hm]at h1;cases h1;exact h2 rfl
 have xn:(S.set m (.dK f'))[m]?=some (.dK f'):=At (BW hm)
 have yk:∀j o,S[j]?=some o->o≠Ob.mem lk->(S.set m (.dK f'))[j]?=some o:=λj o h1 h2=>by rw[Ah (Ci (ne j o h1 h2))];exact h1
 have wo:=yk q _ g0 (λz=>nomatch z);have C1:X1 W f (λk=>(S.set m (.dK f'))[k]?) q m:=⟨a,b,c,h,k,wo,yk a _ g1 (λz=>nomatch z),yk b _ g2 (λz=>nomatch z),yk c _ g3 (λz=>nomatch z),yk h _ g4 (λz=>nomatch z),yk k _ g5 (λz=>nomatch z)⟩
 have st:∀j,j < S.length->j≠m->(S.set m (.dK f'))[j]?=S[j]?:=λj _ hj=>Ah (Ci hj)
 generalize hS1:S.set m (.dK f')=S1 at xn wo C1 st
 have fk:∀S2:Sto,S2[q]?=some (.ins W.Field (fdF a b c h k m f.kd))->D0 W.Field "known" (AD 0) [sR q,sI n] S2=.ok (.ref m) S2:=λS2 h2=>KS (n:=q) (by rfl) h2 rfl
 have sq:∀(S2:Sto) l,S2[m]?=some (.dK l)->Ga (.ref m) S2=none:=λS2 l h2=>by unfold Ga;dsimp only;rw[h2];try rfl
 have dg:∀(S2:Sto) l,S2[m]?=some (.dK l)->MP (.ref m) (.int n) S2=some (Ai l (.inl n)):=λS2 l h2=>by unfold MP;dsimp only;rw[h2];try rfl
 have uL:mB (m2 (inA true) (AD 1) (D0 W.Field "known" (AD 0))) [sR q,sI n] S1=.ok (!(Ai f' (.inl n)).isSome) S1:=
  WS (Em (x:=.int n) (S1:=S1) (by rfl) (fk S1 wo) (QR (sq S1 f' xn) (dg S1 f' xn) true))
 cases hv:Ai f' (.inl n)with
 | some d=>
  have hd:d=.int z:=by rw[<-hl];exact(hk.2 _ (jG hv)).2
  subst hd;rw[hv]at uL;refine⟨S1,f',?_,xn,hk,st⟩;refine _root_.M.Mp ?_;unfold Jn;refine IH (CS (e1:=[sR q,sI n]) (S1:=S1) (IH (Hq uL) rfl)) ?_;exact Mr (Em (fk S1 wo) (y:=.int n) (by rfl) (OU (sq S1 f' xn) (by rw[dg S1 f' xn,hv])))
 | none=>
  rw[hv]at uL;have hQ:MJ S1 [.q (ID W f),.v (D.int n)] [.ref q,.int n]:=⟨λL hL=>⟨q,m,rfl,C1.mono hL⟩,rfl,trivial⟩;obtain⟨d,S2,hE,kS,rfl⟩:=dL W f n z hz S1 _ _ S1 (Vs.start (n:=2) hQ);have u7:=kS.at xn;have hq2:=kS.at wo
  have hlen:f'.length < sizeLine:=by
   have h1:=Jb hk.1 (k:=Vz) λx hx=>by
    obtain⟨y,hy,rfl⟩:=BO.mp hx;exact(hk.2 y hy).1
   rw[AF]at h1
   have h2:Vz.length=1000:=by unfold Vz;rw[AF,cw]
   rw[h2]at h1;exact Y6 (Ax h1 (by decide))
  have nk:Dd n∉f'.map (·.1):=λhx=>by
   have:=(DH f' (.inl n)).mpr hx;rw[hv]at this;cases this
  have pe:CG f' (.inl n) (D.int z)=f'++[(.inl n,D.int z)]:=by
   unfold CG;rw[qY];intro c;obtain⟨y,hy,h2⟩:=Ge.mp c;exact nk (BO.mpr ⟨y,hy,of_decide_eq_true h2⟩)
  have hk2:lS lk (f'++[(.inl n,D.int z)]):=by
   refine⟨?_,λx hx=>?_⟩
   ·rw[Ca]
    exact Fg.mpr ⟨hk.1,(Bt.mpr ⟨MA,EX⟩),λx hx y hy=>by
     rw[Aa.mp hy];intro e;subst e
     exact nk hx⟩
   ·rcases A9.mp hx with h1 | h1
    ·exact hk.2 x h1
    ·rw[Aa.mp h1]
     refine⟨?_,by rw[hl]⟩;unfold Vz;exact BO.mpr ⟨n.toNat,Nv.mpr (by lia),by show Dd ((n.toNat:Nat):Int)=_;rw[BR yD]⟩
  have vH:Cv (D0 W.Field "known" (AD 0)) (AD 1) (Y5 W) [sR q,sI n] S1=oN [sR q,sI n] (S2.set m (.dK (f'++[(.inl n,D.int z)]))):=by
   unfold Cv;rw[show Y5 W [sR q,sI n] S1=.ok (.int z) S2 from hE];dsimp only[Res.lift];rw[fk S2 hq2];dsimp only;rw[show AD 1 [sR q,sI n] S2=.ok (.int n) S2 from rfl];dsimp only
   rw[show QS (.ref m) (.int n) (.int z) S2=some (S2.set m (.dK (f'++[(.inl n,D.int z)]))) by
    unfold QS;dsimp only;rw[u7];show(if f'.length < sizeLine then some (S2.set m (.dK (CG f' (Dd n) (D.int z))))else none)=_
    rw[qX hlen,pe]]
  have ϓ:(S2.set m (.dK (f'++[(.inl n,D.int z)])))[m]?=some (.dK (f'++[(.inl n,D.int z)])):=At (BW u7)
  have xM:(S2.set m (.dK (f'++[(.inl n,D.int z)])))[q]?=some (.ins W.Field (fdF a b c h k m f.kd)):=by
   rw[Ah]
   ·exact hq2
   ·intro e
    subst e;rw[xn]at wo;cases wo
  have vp:∀j,j < S.length->j≠m->(S2.set m (.dK (f'++[(.inl n,D.int z)])))[j]?=S[j]?:=λj hj um=>by
   rw[Ah (Ci um),kS.2 j (by rw[<-hS1,D5];exact hj)];exact st j hj um
  refine⟨_,f'++[(.inl n,D.int z)],?_,ϓ,hk2,vp⟩;refine Mp ?_;unfold Jn;refine IH (CS (e1:=[sR q,sI n]) (IH (Hq uL) vH)) ?_;refine Mr (Em (fk _ xM) (y:=.int n) (by rfl) (OU (sq _ _ ϓ) ?_));rw[dg _ _ ϓ,<-pe,C9,qX rfl]
theorem R6(W:Wd)(f:Fp)(n:Int):VF (HZ W) [.q (FD W f),.v (D.int n)] (rV D.int) (Fu f n):=λz hz S ds ha=>by
 match ds,ha with
 | [d,x],⟨h1,h2,_⟩=>
  cases h2
  obtain⟨q,m,lk,rfl,hC,hm,hlk⟩:=h1 (λk=>S[k]?) λ_ _ h=>h
  unfold Fu at hz;split at hz
  ·rename_i hn
   have key:=Y7 hn.1 hn.2 hz (hlk n z hn.1 hn.2 hz) hC hm;refine⟨.int z,S,?_,Keeps.refl S,rfl⟩;unfold HZ lQ
   rw[show UZ "known" [.ref q,.int n] S=some m by
    obtain⟨a,b,c,h,k,g0,_⟩:=hC;unfold UZ;dsimp only;rw[show S[q]?=_ from g0]
    rfl]
   dsimp only;rw[show S[m]?=_ from hm];dsimp only;obtain⟨S0,k0,e0,_⟩:=key [] ⟨EX,λ_ hx=>nomatch hx⟩;rw[e0];dsimp only;rw[qX key]
  ·cases hz
def nuS(l:List (ZLi×Int))(x:Int×ZLi):List (ZLi×Int):=CG l x.2 x.1
def hvP(k:Int)(h:ZLi)(p:Int):ZLi:=h.set p.toNat (Cn (h.getD p.toNat 0) (1 * 2 ^ k.toNat))
def hvS(h:ZLi)(x:Int×ZLi):ZLi:=x.2.foldl (hvP x.1) h
def nuF(ev:List ZLi):List (ZLi×Int):=(De ev).foldl nuS []
def hv0(n:Nat):ZLi:=(DW 0 n).map λ_=>0
def hvF(n:Nat)(ev:List ZLi):ZLi:=(De ev).foldl hvS (hv0 n)
def Lc(w:Nat×List ZPi)(g:Int)(kd:Str):Option Fp:=
 (Ft w g).bind λev=>(La w).bind λtk=>(D3 ev (λ_=>some true) G2).bind λpb=>
  if ev.length<=1000/\w.1<=1000/\∀r∈ev,∀x∈r,0<=x/\x < (w.1:Int)then some ⟨ev,kd,tk,nuF ev,hvF w.1 ev,pb⟩else none
structure Fc(W:Wd)(S1:Sto)(fs:List (Str×D))(T:Sto):Prop where
 kp:Keeps S1 T
 at':T[S1.length]?=some (.ins W.Field fs)
section
variable{W:Wd}{S1 T T':Sto}{fs:List (Str×D)}{x:Str}{d:D}{e:Lo}{m:ME}{j:Nat}{o:Ob}
theorem Fc.put(h:Fc W S1 fs T)(k:Keeps T T'):Fc W S1 (Jt x d fs) (T'.set S1.length (.ins W.Field (Jt x d fs))):=⟨(h.kp.trans k).set (AL _) _,At (BW (k.at h.at'))⟩
theorem Fc.set(h:Fc W S1 fs T)(hj:S1.length < j):Fc W S1 fs (T.set j o):=⟨h.kp.set (Ma hj) _,by rw[Ah (FL hj)];exact h.at'⟩
theorem Fc.step(h:Fc W S1 fs T)(he:e[0]?=some (some (.ref S1.length)))(hm:m e T=.ok d T')(k:Keeps T T')(hl:fs.length < 1000):J2 W.Field x (AD 0) m e T=.ok (.nx e) (T'.set S1.length (.ins W.Field (Jt x d fs))):=RQ hm (Mf he) (k.at h.at') hl
theorem FU(h:T[j]?=some o)(hq:q < j):(T.set q o')[j]?=some o:=by rw[Ah (BN hq)];exact h
theorem Vs.all(h:∀(i:Nat) (a:Sl),A[i]?=some a->∃x,e[i]?=some x/\a.ok T (K0 T) T x):Vs T A e (K0 T) T:=by
 refine⟨Keeps.refl T,λn o q=>?_,λn i q=>?_,λn hn=>by unfold K0;rw[CI hn],h⟩
 ·unfold K0 at q
  split at q
  ·rename_i o' ho;cases q;exact ho
  ·cases q
 ·unfold K0 at q
  split at q <;> cases q
theorem ZU(h:T[j]?=some o):K0 T j=.fz o:=by unfold K0;rw[h]
theorem lK(ho:mo e T=.ok (.ref n) T)(hi:mi e T=.ok (.int p) T)(hv:mv e T=.ok (.int y) T)(hn:T[n]?=some (.lst xs))(hp:0<=p)(hx:xs[p.toNat]?=some (.int z)):XH g mo mi mv e T=.ok (.nx e) (T.set n (.lst (xs.set p.toNat (.int (g z y))))):=by
 have ha:atL (.ref n) T=some (n,xs):=by unfold atL;dsimp only;rw[hn]
 unfold XH;rw[ho];dsimp only[Res.lift];rw[hi];dsimp only;rw[ha];dsimp only;rw[qX hp,hx];dsimp only;rw[hv];dsimp only;rw[ha];dsimp only;rw[qX (AE.mp hx).1]
end
theorem V4(k:Int):∀(r h:ZLi),(r.foldl (hvP k) h).length=h.length
 | [],h=>rfl
 | p :: r,h=>by
  show(r.foldl (hvP k) (hvP k h p)).length=_;rw[V4 k r];exact D5
theorem fy:∀(l:List (Int×ZLi)) (h:ZLi),(l.foldl hvS h).length=h.length
 | [],h=>rfl
 | x :: l,h=>by
  show(l.foldl hvS (hvS h x)).length=_;rw[fy l];exact V4 _ _ _
theorem fD:∀(l:List (Int×ZLi)) (h:List (ZLi×Int)),(l.foldl nuS h).length<=h.length+l.length
 | [],h=>AL _
 | x :: l,h=>by
  have h1:=fD l (nuS h x)
  have h2:(nuS h x).length<=h.length+1:=by
   unfold nuS CG;split
   ·rw[AF];exact OC _
   ·rw[AX];exact AL _
  show(l.foldl nuS (nuS h x)).length<=_;rw[BB]
  lia
theorem cP(ev:List α)(i:Nat):(De ev)[i]?=(ev[i]?).map λr=>((i:Int),r):=by
 unfold De;rw[Ak,Im]
 cases ev[i]? <;> simp
abbrev eF7(q wn:Nat)(g:Int)(kd:Str)(a b c:Option D):Lo:=[sR q,sR wn,sI g,some (.str kd),a,b,c]
abbrev nlA(W:Wd):MS:=XH (λa b=>Cn a b) (D0 W.Field "having" (AD 0)) (AD 6) (m2 Qv (mC (.int 1)) (AD 4))
abbrev nlB(W:Wd):MS:=BJ (Cv (D0 W.Field "numbers" (AD 0)) (AD 5) (AD 4)) (FF (D1 (AD 5)) (tgN 6) (nlA W))
abbrev nlG:MG:=Io 2 (DE (tgN 4) (DE (tgN 5) JO))
abbrev eF8(q wn:Nat)(g:Int)(kd:Str)(i:Nat)(r:ZLi)(z:Option D):Lo:=eF7 q wn g kd (some (.int (i:Int))) (some (eT D.int r)) z
theorem Xa(W:Wd)(hF:Fc W S1 fs T)(fa:fs.lookup ("everything" : Str)=some (.ref a)) (fc:fs.lookup ("numbers" : Str)=some (.ref c)) (fh:fs.lookup ("having" : Str)=some (.ref h)) (ha:S1.length < a) (Λ:a < c) (vN:c < h) (Ta:T[a]?=some (oL (eT D.int) ev)) (Tc:T[c]?=some (oDR D.int ([]:List (ZLi×Int)))) (Th:T[h]?=some (oL D.int (hv0 n))) (hev:ev.length<=1000) (hr:∀r∈ev,∀x∈r,0<=x/\x < (n:Int)) :
  ∃e4 e5 e6 T',FF (M5 (D0 W.Field "everything" (AD 0))) nlG (nlB W) (eF7 S1.length wn g kd none none none) T=.ok (.nx (eF7 S1.length wn g kd e4 e5 e6)) T' /\
   Fc W S1 fs T'/\T'[c]?=some (oDR D.int (nuF ev))/\T'[h]?=some (oL D.int (hvF n ev))/\∀j,j≠c->j≠h->T'[j]?=T[j]?:=by
 have hi:M5 (D0 W.Field "everything" (AD 0)) (eF7 S1.length wn g kd none none none) T=.ok (Qh (Fm (.ref a))) T:=by
  unfold M5;rw[KS (C:=W.Field) (f:="everything") (m:=AD 0) (n:=S1.length) (by rfl) hF.at' fa];dsimp only[Res.bind];rw[ED Ta]
 have zh:(hv0 n).length=n:=by unfold hv0;rw[AF,CN]
 obtain⟨f,T',h1,h2⟩:=M9 (v:=Qh (Fm (.ref a))) (g:=nlG) (b:=nlB W) (xs:=(De ev).map (eP D.int (eT D.int))) (e:=eF7 S1.length wn g kd none none none) (S:=T)
  (λi e S=>(∃e4 e5 e6,e=eF7 S1.length wn g kd e4 e5 e6)/\Fc W S1 fs S/\S[c]?=some (oDR D.int (((De ev).take i).foldl nuS []))/\S[h]?=some (oL D.int (((De ev).take i).foldl hvS (hv0 n)))/\∀j,j≠c->j≠h->S[j]?=T[j]?)
  (λf S=>∃e4 e5 e6,f=.nx (eF7 S1.length wn g kd e4 e5 e6)/\Fc W S1 fs S/\S[c]?=some (oDR D.int (nuF ev))/\S[h]?=some (oL D.int (hvF n ev))/\∀j,j≠c->j≠h->S[j]?=T[j]?)
  ⟨⟨_,_,_,rfl⟩,hF,Tc,Th,λ_ _ _=>rfl⟩
  (λi e S hI=>by
   obtain⟨_,_,_,_,h5⟩:=hI;unfold Qh;rw[ED (xs:=ev.map (eT D.int)) (show S[a]?=_ from(h5 a (by lia) (by lia)).trans Ta)]
   exact congrArg some (Uk ev))
  (λi d e S hd hI=>by
   obtain⟨⟨e4,e5,e6,rfl⟩,hS,Sc,Sh,So⟩:=hI;rw[Ak]at hd;obtain⟨⟨k,r⟩,hx,rfl⟩:=He.mp hd;have xK:=hx;rw[cP]at xK;obtain⟨r0,hr',hr2⟩:=He.mp xK;cases hr2;have hrm:r∈ev:=BL hr';have vA:i < ev.length:=(AE.mp hr').1
   have tk:(De ev).take (i+1)=(De ev).take i++[((i:Int),r)]:=by
    rw[Ff,hx];rfl
   refine⟨eF8 S1.length wn g kd i r e6,S,rfl,?_⟩
   have hp:Cv (D0 W.Field "numbers" (AD 0)) (AD 5) (AD 4) (eF8 S1.length wn g kd i r e6) S=.ok (.nx (eF8 S1.length wn g kd i r e6)) (S.set c (oDR D.int (CG (((De ev).take i).foldl nuS []) r (i:Int)))):=by
    unfold Cv;rw[show AD 4 (eF8 S1.length wn g kd i r e6) S=.ok (.int (i:Int)) S from rfl];dsimp only[Res.lift];rw[KS (C:=W.Field) (f:="numbers") (m:=AD 0) (n:=S1.length) (by rfl) hS.at' fc];dsimp only;rw[show AD 5 (eF8 S1.length wn g kd i r e6) S=.ok (eT D.int r) S from rfl];dsimp only
    rw[gh (enc:=D.int) _ r (i:Int) S c Sc (by
     have:=fD ((De ev).take i) [];rw[Di]at this;show(((De ev).take i).foldl nuS []).length < _;have h0:([]:List (ZLi×Int)).length=0:=rfl
     lia)]
   have hS2:Fc W S1 fs (S.set c (oDR D.int (CG (((De ev).take i).foldl nuS []) r (i:Int)))):=hS.set (by lia);have ϔ:(S.set c (oDR D.int (CG (((De ev).take i).foldl nuS []) r (i:Int))))[h]?=some (oL D.int (((De ev).take i).foldl hvS (hv0 n))):=FU Sh vN;have Sc2:(S.set c (oDR D.int (CG (((De ev).take i).foldl nuS []) r (i:Int))))[c]?=some (oDR D.int (CG (((De ev).take i).foldl nuS []) r (i:Int))):=At (BW Sc)
   have So2:∀j,j≠c->j≠h->(S.set c (oDR D.int (CG (((De ev).take i).foldl nuS []) r (i:Int))))[j]?=T[j]?:=λj h1 h2=>by rw[Ah (Ci h1)];exact So j h1 h2
   generalize S.set c (oDR D.int (CG (((De ev).take i).foldl nuS []) r (i:Int)))=S2 at hp hS2 ϔ Sc2 So2;generalize hH:((De ev).take i).foldl hvS (hv0 n)=H at ϔ
   have hHl:H.length=n:=by rw[<-hH,fy,zh]
   obtain⟨f,S3,q1,q2⟩:=M9 (v:=Fm (eT D.int r)) (g:=tgN 6) (b:=nlA W) (xs:=r.map D.int) (e:=eF8 S1.length wn g kd i r e6) (S:=S2)
    (λj e S=>(∃z,e=eF8 S1.length wn g kd i r z)/\Fc W S1 fs S/\S[h]?=some (oL D.int ((r.take j).foldl (hvP (i:Int)) H))/\∀j,j≠h->S[j]?=S2[j]?)
    (λf S=>∃z,f=.nx (eF8 S1.length wn g kd i r z)/\Fc W S1 fs S/\S[h]?=some (oL D.int (r.foldl (hvP (i:Int)) H))/\∀j,j≠h->S[j]?=S2[j]?)
    ⟨⟨_,rfl⟩,hS2,ϔ,λ_ _=>rfl⟩ (λ_ _ _ _=>rfl)
    (λj d e S hd hJ=>by
     obtain⟨⟨z,rfl⟩,hS3,Sh3,So3⟩:=hJ;rw[Ak]at hd;obtain⟨p,hp,rfl⟩:=He.mp hd;have hpr:=hr r hrm p (BL hp);refine⟨eF8 S1.length wn g kd i r (some (.int p)),S,rfl,?_⟩
     have hlp:p.toNat < ((r.take j).foldl (hvP (i:Int)) H).length:=by rw[V4,hHl];lia
     have Α:m2 Qv (mC (.int 1)) (AD 4) (eF8 S1.length wn g kd i r (some (.int p))) S=.ok (.int (1 * 2 ^ (i:Int).toNat)) S:=by
      refine Em (x:=.int 1) (y:=.int (i:Int)) rfl rfl ?_;unfold Qv L2.intOp;dsimp only;rw[qX (show hX 1 (i:Int)from⟨by lia,by lia,by decide⟩)]
     have ha:=lK (g:=λa b=>Cn a b) (mo:=D0 W.Field "having" (AD 0)) (mi:=AD 6) (p:=p) (z:=((r.take j).foldl (hvP (i:Int)) H).getD p.toNat 0) (KS (C:=W.Field) (f:="having") (m:=AD 0) (n:=S1.length) (e:=eF8 S1.length wn g kd i r (some (.int p))) (by rfl) hS3.at' fh) (by rfl) Α Sh3 hpr.1 (by
      rw[Ak,Bx,AU hlp]
      rfl)
     refine⟨_,_,ha,⟨_,rfl⟩,hS3.set (by lia),?_,λk hk=>by rw[Ah (Ci hk)];exact So3 k hk⟩;rw[At (BW Sh3),Ff,hp];show some (Ob.lst _)=some (Ob.lst _);rw[show(some p).toList=[p]from rfl,Hk,List.foldl_cons,UH];unfold hvP
     rw[List.map_set])
    (λe S hJ=>by
     obtain⟨⟨z,rfl⟩,hS3,Sh3,So3⟩:=hJ;rw[AF,L9]at Sh3
     exact⟨z,rfl,hS3,Sh3,So3⟩)
   obtain⟨z,rfl,hS4,Sh4,So4⟩:=q2;refine⟨_,S3,(CS hp).trans (IH (KR (v:=Fm (eT D.int r)) (S1:=S2) (by rfl)) q1),⟨_,_,_,rfl⟩,hS4,?_,?_,λj h1 h2=>(So4 j h2).trans (So2 j h1 h2)⟩
   ·rw[So4 c (by lia),Sc2,tk,Hk]
    rfl
   ·rw[Sh4,tk,Hk,hH]
    rfl)
  (λe S hI=>by
   obtain⟨⟨e4,e5,e6,rfl⟩,hS,Sc,Sh,So⟩:=hI;rw[AF,L9]at Sc Sh
   exact⟨e4,e5,e6,rfl,hS,Sc,Sh,So⟩)
 obtain⟨e4,e5,e6,rfl,h3⟩:=h2;exact⟨e4,e5,e6,T',(KR hi).trans h1,h3⟩
abbrev y1(a:Nat):List (Str×D):=Jt "everything" (.ref a) []
abbrev y2(a:Nat)(kd:Str):List (Str×D):=Jt "kind" (.str kd) (y1 a)
abbrev y3(a:Nat)(kd:Str)(b:Nat):List (Str×D):=Jt "takes" (.ref b) (y2 a kd)
abbrev y4(a:Nat)(kd:Str)(b c:Nat):List (Str×D):=Jt "numbers" (.ref c) (y3 a kd b)
abbrev y5(a:Nat)(kd:Str)(b c h:Nat):List (Str×D):=Jt "having" (.ref h) (y4 a kd b c)
abbrev y6(a:Nat)(kd:Str)(b c h k:Nat):List (Str×D):=Jt "place_bits" (.ref k) (y5 a kd b c h)
abbrev y7(a:Nat)(kd:Str)(b c h k m:Nat):List (Str×D):=Jt "known" (.ref m) (y6 a kd b c h k)
abbrev eF9(S1:Sto)(wn:Nat)(g:Int)(kd:Str):Lo:=eF7 S1.length wn g kd none none none
theorem gX(W:Wd)(hp:Lc w g kd=some f)(hw:S1[wn]?=some (HA W w)) :
  ∃S',GP W [.ref S1.length,.ref wn,.int g,.str kd] (S1++[.ins W.Field []])=.ok .non S'/\Keeps S1 S'/\∀L:Nat->Option Ob,(∀n o,S1.length<=n->S'[n]?=some o->L n=some o)->FD W f L (.ref S1.length):=by
 unfold Lc at hp;obtain⟨ev,hev,hp⟩:=BC hp;obtain⟨tk,htk,hp⟩:=BC hp;obtain⟨pb,hpb,hp⟩:=BC hp;split at hp
 case isFalse=>cases hp
 rename_i hg;obtain⟨zM,hg2,hg3⟩:=hg;cases hp;have F0:Fc W S1 [] (S1++[.ins W.Field []]):=⟨Keeps.app _ _,Ed _ _⟩
 have l0:(S1++[Ob.ins W.Field []]).length=S1.length+1:=by rw[AX];rfl
 generalize S1++[Ob.ins W.Field []]=T0 at F0 l0;obtain⟨d,U1,c1,k1,a,rfl,ha,hA⟩:=W2 W w g ev hev T0 [.ref wn,.int g] ⟨⟨wn,rfl,F0.kp.at hw⟩,rfl,trivial⟩;have m1:CP 2 (KA W) (AM (AD 1) (AM (AD 2) BI)) (eF9 S1 wn g kd) T0=.ok (.ref a) U1:=(Lu (ds:=[.ref wn,.int g]) (S1:=T0) rfl rfl).trans c1;have s1:=F0.step (x:="everything") (e:=eF9 S1 wn g kd) rfl m1 k1 (by decide);have F1:=F0.put (x:="everything") (d:=.ref a) k1
 have qa:S1.length < a:=by lia
 have A1:(U1.set S1.length (.ins W.Field (y1 a)))[a]?=some (oL (eT D.int) ev):=FU hA qa;generalize U1.set S1.length (.ins W.Field (y1 a))=T1 at s1 F1 A1;have s2:=F1.step (x:="kind") (m:=AD 3) (e:=eF9 S1 wn g kd) (d:=.str kd) rfl rfl (Keeps.refl T1) (Ax (AL 1) (by decide));have F2:=F1.put (x:="kind") (d:=.str kd) (Keeps.refl T1);have A2:(T1.set S1.length (.ins W.Field (y2 a kd)))[a]?=some (oL (eT D.int) ev):=FU A1 qa;generalize T1.set S1.length (.ins W.Field (y2 a kd))=T2 at s2 F2 A2;obtain⟨d,U3,c3,k3,b,rfl,hb,hB⟩:=YU W w tk htk T2 [.ref wn] ⟨⟨wn,rfl,F2.kp.at hw⟩,trivial⟩;have ab:a < b:=AV (BW A2) hb;have m3:CP 1 (Ll W) (AM (AD 1) BI) (eF9 S1 wn g kd) T2=.ok (.ref b) U3:=(Lu (ds:=[.ref wn]) (S1:=T2) rfl rfl).trans c3;have s3:=F2.step (x:="takes") (e:=eF9 S1 wn g kd) rfl m3 k3 (Ax (AL 2) (by decide));have F3:=F2.put (x:="takes") (d:=.ref b) k3;have A3:(U3.set S1.length (.ins W.Field (y3 a kd b)))[a]?=some (oL (eT D.int) ev):=FU (k3.at A2) qa;have B3:(U3.set S1.length (.ins W.Field (y3 a kd b)))[b]?=some (oL (eT D.int) tk):=FU hB (by lia);generalize U3.set S1.length (.ins W.Field (y3 a kd b))=T3 at s3 F3 A3 B3;have bc:b < T3.length:=BW B3;have m4:M2 (eF9 S1 wn g kd) T3=.ok (.ref T3.length) (T3++[oDR D.int ([]:List (ZLi×Int))]):=rfl;have k4:=Keeps.app T3 [oDR D.int ([]:List (ZLi×Int))];have s4:=F3.step (x:="numbers") (e:=eF9 S1 wn g kd) rfl m4 k4 (Ax (AL 3) (by decide));have F4:=F3.put (x:="numbers") (d:=.ref T3.length) k4;have C3:(T3++[oDR D.int ([]:List (ZLi×Int))])[T3.length]?=some (oDR D.int ([]:List (ZLi×Int))):=Ed _ _;generalize hc:T3.length=c at bc s4 F4 C3;generalize T3++[oDR D.int ([]:List (ZLi×Int))]=U4 at k4 s4 F4 C3;have A4:=FU (o':=.ins W.Field (y4 a kd b c)) (k4.at A3) qa;have B4:=FU (o':=.ins W.Field (y4 a kd b c)) (k4.at B3) (show S1.length < b by lia);have C4:=FU (o':=.ins W.Field (y4 a kd b c)) C3 (show S1.length < c by lia);generalize U4.set S1.length (.ins W.Field (y4 a kd b c))=T4 at s4 F4 A4 B4 C4
 have v5:((((some w).bind λx2=>some (x2.1:Int)).bind MK).bind λl=>D3 l (λ_=>some true) (λ_=>some (0:Int)))=some (hv0 w.1):=by
  show((MK (w.1:Int)).bind λl=>D3 l (λ_=>some true) (λ_=>some (0:Int)))=_;rw[J3 (by lia) (by lia)];show D3 (DW 0 (w.1:Int).toNat) _ _=_;rw[As,GR (f:=λ_=>(0:Int)) (by rw[CN];lia) λ_ _=>rfl];rfl
 obtain⟨d,U5,m5,k5,h,rfl,hh,hH⟩:=(CD (Ck (VI.k (Dr (JJ (DI (A:=[.u,.z (HA W w),.u,.u,.u,.u,.u]) (i:=1) rfl)))) (λ_=>GJ) (λ_=>CQ (enc:=D.int) (v:=0) (d:=.int 0) rfl))) _ v5 T4 (eF9 S1 wn g kd) _ T4 (Vs.all λi x hx=>by
  match i,hx with
  | 0,hx=>cases hx;exact⟨_,rfl,trivial⟩
  | 1,hx=>cases hx;exact⟨_,rfl,wn,rfl,ZU (F4.kp.at hw)⟩
  | 2,hx=>cases hx;exact⟨_,rfl,trivial⟩
  | 3,hx=>cases hx;exact⟨_,rfl,trivial⟩
  | 4,hx=>cases hx;exact⟨_,rfl,trivial⟩
  | 5,hx=>cases hx;exact⟨_,rfl,trivial⟩
  | 6,hx=>cases hx;exact⟨_,rfl,trivial⟩
  | n+7,hx=>cases hx)
 have s5:=F4.step (x:="having") (e:=eF9 S1 wn g kd) rfl m5 k5 (Ax (AL 4) (by decide));have F5:=F4.put (x:="having") (d:=.ref h) k5;have ch:c < h:=AV (BW C4) hh;have A5:=FU (o':=.ins W.Field (y5 a kd b c h)) (k5.at A4) qa;have B5:=FU (o':=.ins W.Field (y5 a kd b c h)) (k5.at B4) (show S1.length < b by lia);have C5:=FU (o':=.ins W.Field (y5 a kd b c h)) (k5.at C4) (show S1.length < c by lia);have H5:=FU (o':=.ins W.Field (y5 a kd b c h)) hH (show S1.length < h by lia);generalize U5.set S1.length (.ins W.Field (y5 a kd b c h))=T5 at s5 F5 A5 B5 C5 H5;obtain⟨e4,e5,e6,T6,s6,F6,C6,H6,O6⟩:=Xa W (wn:=wn) (g:=g) (kd:=kd) (n:=w.1) F5 rfl rfl rfl qa (by lia) ch A5 C5 H5 zM hg3;have A6:=(O6 a (by lia) (by lia)).trans A5;have B6:=(O6 b (by lia) (by lia)).trans B5;have v7:((some ev).bind λl=>D3 l (λ_=>some true) (λx=>((some x).bind λx=>(some ()).bind λy=>some (x,y)).bind λz=>G2 z.1))=some pb:=hpb
 obtain⟨d,U7,m7,k7,k,rfl,hk,hK⟩:=(CD (Ck (VI.k (mj (A:=[.q (λL d=>∃q fs n,d=.ref q/\L q=some (.ins W.Field fs)/\fs.lookup ("everything" : Str)=some (.ref n)/\L n=some (oL (eT D.int) ev)),.u,.u,.u,.u,.u,.u]) (i:=0) (l:=ev) (enc:=eT D.int) (C:=W.Field) (x:="everything") (λL d h=>h) rfl)) (λ_=>GJ) (λx=>B9 (Cu (AI (i:=0) rfl) CF) (λz=>bJ W z.1) (λ_=>rfl) GX))) _ v7 T6 (eF7 S1.length wn g kd e4 e5 e6) _ T6 (Vs.all λi x hx=>by
  match i,hx with
  | 0,hx=>cases hx;exact⟨_,rfl,.ref S1.length,rfl,λL hL=>⟨S1.length,_,a,rfl,hL _ _ (ZU F6.at'),rfl,hL _ _ (ZU A6)⟩⟩
  | 1,hx=>cases hx;exact⟨_,rfl,trivial⟩
  | 2,hx=>cases hx;exact⟨_,rfl,trivial⟩
  | 3,hx=>cases hx;exact⟨_,rfl,trivial⟩
  | 4,hx=>cases hx;exact⟨_,rfl,trivial⟩
  | 5,hx=>cases hx;exact⟨_,rfl,trivial⟩
  | 6,hx=>cases hx;exact⟨_,rfl,trivial⟩
  | n+7,hx=>cases hx)
 have s7:=F6.step (x:="place_bits") (e:=eF7 S1.length wn g kd e4 e5 e6) rfl m7 k7 (Ax (AL 5) (by decide));have F7:=F6.put (x:="place_bits") (d:=.ref k) k7;have uY:h < k:=AV (BW H6) hk
 have cell:∀{j:Nat} {o:Ob},U7[j]?=some o->S1.length < j->(U7.set S1.length (.ins W.Field (y6 a kd b c h k)))[j]?=some o:=λh1 h2=>FU h1 h2
 have A7:=cell (k7.at A6) qa;have B7:=cell (k7.at B6) (by lia);have C7:=cell (k7.at C6) (by lia);have H7:=cell (k7.at H6) (by lia);have K7:=cell hK (by lia);generalize U7.set S1.length (.ins W.Field (y6 a kd b c h k))=T7 at s7 F7 A7 B7 C7 H7 K7
 clear cell
 have m8:Jc (eF7 S1.length wn g kd e4 e5 e6) T7=.ok (.ref T7.length) (T7++[.dK []]):=rfl;have k8:=Keeps.app T7 [Ob.dK []];have s8:=F7.step (x:="known") (e:=eF7 S1.length wn g kd e4 e5 e6) rfl m8 k8 (Ax (AL 6) (by decide));have F8:=F7.put (x:="known") (d:=.ref T7.length) k8;have M7:(T7++[Ob.dK []])[T7.length]?=some (.dK []):=Ed _ _;have km:k < T7.length:=BW K7;generalize T7.length=m at s8 F8 M7 km;generalize T7++[Ob.dK []]=U8 at k8 s8 F8 M7
 have cell:∀{j:Nat} {o:Ob},U8[j]?=some o->S1.length < j->(U8.set S1.length (.ins W.Field (y7 a kd b c h k m)))[j]?=some o:=λh1 h2=>FU h1 h2
 have A8:=cell (k8.at A7) qa;have B8:=cell (k8.at B7) (by lia);have C8:=cell (k8.at C7) (by lia);have H8:=cell (k8.at H7) (by lia);have K8:=cell (k8.at K7) (by lia);have M8:=cell M7 (by lia);generalize U8.set S1.length (.ins W.Field (y7 a kd b c h k m))=T8 at s8 F8 A8 B8 C8 H8 K8 M8
 clear cell
 have Q8:T8[S1.length]?=some (.ins W.Field (fdF a b c h k m kd)):=F8.at'
 have run:KY W [.ref S1.length,.ref wn,.int g,.str kd] T0=.ok .non T8:=by
  refine Yr (e:=eF7 S1.length wn g kd e4 e5 e6) ?_;unfold Pc;show(BJ _ _) (eF9 S1 wn g kd) T0=_;rw[CS s1,CS s2,CS s3,CS s4,CS s5,CS s6,CS s7];exact s8
 have C:X1 W ⟨ev,kd,tk,nuF ev,hvF w.1 ev,pb⟩ (λk=>T8[k]?) S1.length m:=⟨a,b,c,h,k,Q8,A8,B8,C8,H8,K8⟩
 have ϕ:∀n z:Int,0<=n->n < 1000->Lb ⟨ev,kd,tk,nuF ev,hvF w.1 ev,pb⟩ n=some z->LM W [.ref S1.length,.ref wn,.int g,.str kd] T8 (.inl n)=z:=λn z _ _ hz=>by
  have hQ:MJ T8 [.q (ID W ⟨ev,kd,tk,nuF ev,hvF w.1 ev,pb⟩),.v (D.int n)] [.ref S1.length,.int n]:=⟨λL hL=>⟨_,m,rfl,C.mono hL⟩,rfl,trivial⟩;unfold LM;dsimp only;rw[show pp "kind" S1.length T8=some kd by unfold pp;rw[Q8];rfl];unfold Lb at hz;dsimp only at hz
  by_cases ck:kd = "one"
  ·rw[wX ck,qX rfl]at hz
   obtain⟨d,S',h1,_,rfl⟩:=Hn W _ n z hz T8 _ hQ;rw[qX (congrArg some ck),h1];rfl
  ·rw[wY ck,qY AK]at hz
   obtain⟨d,S',h1,_,rfl⟩:=Ho W _ n z hz T8 _ hQ;rw[qY (λe=>ck (By e)),h1];rfl
 refine⟨T8.set m (.mem (LM W [.ref S1.length,.ref wn,.int g,.str kd] T8)),?_,F8.kp.set (by lia) _,λL hL=>⟨S1.length,m,_,rfl,?_,hL m _ (by lia) (At (BW M8)),ϕ⟩⟩
 ·unfold GP kL
  rw[run];dsimp only
  rw[show UZ "known" [.ref S1.length,.ref wn,.int g,.str kd] T8=some m by
   unfold UZ;dsimp only;rw[Q8]
   rfl]
  dsimp only;rw[M8]
 ·have up:∀{j:Nat} {o:Ob},T8[j]?=some o->S1.length<=j->j < m->L j=some o:=λh1 h2 h3=>hL _ _ h2 (by rw[Ah (FL h3)];exact h1)
  exact⟨a,b,c,h,k,up Q8 (AL _) (by lia),up A8 (by lia) (by lia),up B8 (by lia) (by lia),up C8 (by lia) (by lia),up H8 (by lia) (by lia),up K8 (by lia) (by omega)⟩
theorem Wz{W:Wd}{A:List Sl}{ml:ML}{p:Option ((Nat×List ZPi)×Int×Str×Unit)}(ha:VA A ml p (λz=>[.z (HA W z.1),.v (D.int z.2.1),.v (D.str z.2.2.1)])):VE A (PH W.Field 4 (GP W) ml) (rQ (FD W)) (p.bind λz=>Lc z.1 z.2.1 z.2.2.1):=λf hv S0 e F S hs=>by
 obtain⟨z,h1,h2⟩:=BC hv;obtain⟨ds,S1,h3,h4,h5⟩:=ha z h1 S0 e F S hs
 match ds,h5 with
 | [d1,d2,d3],⟨⟨wn,q1,hw⟩,q2,q3,_⟩=>
  cases q1;cases q2;cases q3;obtain⟨S',r1,r2,r3⟩:=gX W h2 hw;exact⟨_,S',Z5 h3 rfl r1,h4.trans r2,λL hL=>r3 L λn o hn=>hL n o (Aw h4.1 hn)⟩
def HJ(Bv:Fp)(BX:Int)(Eg:Int):Option (Fw Int Unit):=
 ((Fu Bv (BX,()).1).bind λx6=>(atI Bv.hv Eg).bind λx7=>some (Bh x6 x7)).bind λx8=>some (.rt x8)
def Fv(Bv:Fp)(BX:Int)(Eg:Int):Option Int:=GM (HJ Bv BX Eg)
theorem R7(W:Wd)(Bv:Fp)(BX:Int)(Eg:Int):VF (Ji W) [.q (FD W Bv),.v (D.int BX),.v (D.int Eg)] (rV D.int) (Fv Bv BX Eg):=by
 refine EZ (n:=3) (b:=Jo W) (p:=HJ Bv BX Eg) (B:=λ_=>[]) ?_;show VS [.q (FD W Bv),.v (D.int BX),.v (D.int Eg)] _ _ _ _;unfold Jo HJ;exact(E8 (RP (On (Pf:=FD W) (Pg:=FD W) (gV λ_ _ _ _ _ _ _=>rfl) (λ_ _ h=>h) rfl (Cu (AI rfl) CF) (λz3=>R6 W Bv z3.1) (λ_=>rfl) GX) (E9 (Gv cJ rfl) (AI rfl))))
def IJ(CA:Fp)(Jq:Int):Option (Fw (List ZPi) Unit):=
 BF (some (.nx [])) λv1=>BF ((Ku Jq).bind λϐ=>Er ϐ v1 λ(s6:(List ZPi)) x7=>BF (((Gn CA (x7,()).1).bind λl22=>D3 l22 (λwz=>(((some (x7,(wz,()))).bind λw8=>Fv CA w8.1 w8.2.1).bind λxV=>some (Bh xV Jq)).bind λwL=>some (decide (wL=(0:Int)))) (λwz=>some wz)).bind λzd=>some (.nx zd)) λv8=>Dx (λs32=>s32) (if (!v8.isEmpty)=true then Dx (λwc=>wc) ((atI v8 (0:Int)).bind λuZ=>(Gy s6 x7 uZ).bind λl30=>some (.nx l30))else some (.nx s6))) λs35=>some (.rt s35)
def Ep(CA:Fp)(Jq:Int):Option (List ZPi):=GM (IJ CA Jq)
theorem Ny(W:Wd)(CA:Fp)(Jq:Int):VF (IQ W) [.q (FD W CA),.v (D.int Jq)] (rN (oDK D.int)) (Ep CA Jq):=by
 refine EZ (n:=5) (b:=Kb W) (p:=IJ CA Jq) (B:=λ_=>[]) ?_;show VS [.q (FD W CA),.v (D.int Jq),.u,.u,.u] _ _ _ _;unfold Kb IJ;exact(BA (Gu Ww) (λv1=>(BA (EJ (s0:=v1) (B:=(λ(zW:(List ZPi))=>[.q (FD W CA),.v (D.int Jq),.w 2 ((oDK D.int) zW),.u,.u])) (Pw (B9 (Cu (AI rfl) CF) (λz5=>UN W z5.1) (λ_=>rfl) Gm)) Dg (.refl _) (λs6 x7=>(BA (EO (CD (Ck (VI.k (Pw (On (Pf:=FD W) (Pg:=ID W) (gV λ_ _ _ _ _ _ _=>rfl) FD.q rfl (Cu (AI rfl) CF) (λz11=>Tj W CA z11.1) (λ_=>rfl) Gm))) (λwz=>(Gi (Nx Dh Mx (RP (On (Pf:=FD W) (Pg:=FD W) (gV λ_ _ _ _ _ _ _=>rfl) (λ_ _ h=>h) rfl (Cu (AI rfl) (Cu (AI rfl) CF)) (λw8=>R7 W CA w8.1 w8.2.1) (λ_=>rfl) GX) (AI rfl)) (CQ rfl)))) (λwz=>(AI rfl))))) (λv8=>(Cp (Fj (B:=(λ(zV:(List ZPi))=>[.q (FD W CA),.v (D.int Jq),.w 2 ((oDK D.int) zV),.v (D.int x7),.y ((oL D.int) v8)])) (jF (CU rfl)) (Cp (Wr rfl (AI rfl) (E9 (CU rfl) (CQ rfl)) rfl) (λwc=>(.refl _))) (GV (.refl _))) (λs32=>(.same (.same (.same (.drop (.drop .nil))))))))))) (λs35=>(RM rfl)))))
def O2(CA:Fp):Option (Fw (List (Int×ZPi)) Unit):=
 BF (some (.nx [])) λv1=>BF (((Oz (1:Int) (CA.ev.length:Int)).bind λx8=>some (x8 - (1:Int))).bind λuU=>some (.nx uU)) λv3=>BF (some (.nx (1:Int))) λv11=>BF ((Ep CA v3).bind λxX=>some (.nx xX)) λϗ=>BF (whF (λ(uM:(List (Int×ZPi))×Int×Int×(List ZPi))=>some (!uM.2.2.2.isEmpty)) (λ(uM:(List (Int×ZPi))×Int×Int×(List ZPi))=>BF (Er (uM.2.2.2.map (·.1)) (uM.1,uM.2.1) λ(vj:(List (Int×ZPi))×Int) uV=>BF (((Ai uM.2.2.2 uV).bind λuZ=>some (uM.2.2.1,uZ)).bind λwu=>(Gy vj.1 uV wu).bind λwO=>some (.nx wO)) λvm=>Dx (λxo=>(vm,xo)) ((Oz (1:Int) uV).bind λvJ=>some (.nx (Ew vj.2 vJ)))) λvR=>BF (some (.nx (uM.2.2.1+(1:Int)))) λvn=>Dx (λym=>(vR.1,vR.2,vn,ym)) ((Ep CA vR.2).bind λxZ=>some (.nx xZ))) wN (v1,v3,v11,ϗ)) λxP=>some (.rt xP.1)
def Mv(CA:Fp):Option (List (Int×ZPi)):=GM (O2 CA)
theorem W3(W:Wd)(CA:Fp):VF (PZ W) [.q (FD W CA)] (rN (oDK (eP D.int D.int))) (Mv CA):=by
 refine EZ (n:=6) (b:=TC W) (p:=O2 CA) (B:=λ_=>[]) ?_;show VS [.q (FD W CA),.u,.u,.u,.u,.u] _ _ _ _;unfold TC O2;exact(BA (Gu Ww) (λv1=>(BA (D8 (JN (Px (CQ rfl) (Is (Gv IP rfl))) (CQ rfl))) (λv3=>(BA (D8 (CQ rfl)) (λv11=>(BA (Gu (B9 (dZ (Pf:=FD W) (Pg:=FD W) (λ_ _ h=>h) rfl (Cu (AI rfl) CF)) (λz18=>Ny W z18.1 z18.2.1) (λ_=>rfl) Gm)) (λϗ=>(BA (Wp (s0:=(v1,v3,v11,ϗ)) (B:=(λ(xW:(List (Int×ZPi))×Int×Int×(List ZPi))=>[.q (FD W CA),.w 1 ((oDK (eP D.int D.int)) xW.1),.v (D.int xW.2.1),.v (D.int xW.2.2.1),.w 4 ((oDK D.int) xW.2.2.2),.u])) (.refl _) (λuM=>(dX (HB rfl))) (λuM=>(BA (qz 4 rfl rfl (EJ (s0:=(uM.1,uM.2.1)) (B:=(λ(s39:(List (Int×ZPi))×Int)=>[.q (FD W CA),.w 1 ((oDK (eP D.int D.int)) s39.1),.v (D.int s39.2),.v (D.int uM.2.2.1),.y ((oFK D.int) uM.2.2.2),.u])) (mf rfl) Dg (.refl _) (λvj uV=>(BA (Wr rfl (AI rfl) (Jz (AI rfl) (bG (CU rfl) (AI rfl))) rfl) (λvm=>(Cp (Pt rfl (Px (CQ rfl) (AI rfl))) (λxo=>(.same (.same (.same (.same (.same (.drop .nil))))))))))))) (λvR=>(BA (Pt rfl (CQ rfl)) (λvn=>(Cp (Gu (B9 (dZ (Pf:=FD W) (Pg:=FD W) (λ_ _ h=>h) rfl (Cu (AI rfl) CF)) (λz47=>Ny W z47.1 z47.2.1) (λ_=>rfl) Gm)) (λym=>(.refl _))))))))) (λxP=>(RM rfl)))))))))))
def HG(CA:Fp)(Ef:(List (Int×ZPi))):Option (Fw Int Unit):=
 ((((some (CA.ev.length:Int)).bind MK).bind λl7=>D3 l7 (λx2=>some (!(Ai Ef x2).isSome)) (λx2=>Oz (1:Int) x2)).bind λx8=>some (Ow x8)).bind λx9=>some (.rt x9)
def HN(CA:Fp)(Ef:(List (Int×ZPi))):Option Int:=GM (HG CA Ef)
theorem R5(W:Wd)(CA:Fp)(Ef:(List (Int×ZPi))):VF (Jh W) [.q (FD W CA),.z ((oDK (eP D.int D.int)) Ef)] (rV D.int) (HN CA Ef):=by
 refine EZ (n:=2) (b:=Jk W) (p:=HG CA Ef) (B:=λ_=>[]) ?_;show VS [.q (FD W CA),.z ((oDK (eP D.int D.int)) Ef)] _ _ _ _;unfold Jk HG;exact(E8 (dE (Fn (CD (Ck (VI.k (Dr (Is (Gv IP rfl)))) (λx2=>(Gi (Wv (AI rfl) (DI rfl)))) (λx2=>(Px (CQ rfl) (AI rfl))))))))
def NX(Bi:(Nat×List ZPi))(BD:Int)(Be:Str):Option (Fw (List ZLi) Unit):=
 BF (((some (Bi,(BD,(Be,())))).bind λz8=>Lc z8.1 z8.2.1 z8.2.2.1).bind λx9=>some (.nx x9)) λv1=>(((((((Mv v1).bind λxR=>some (xR,())).bind λvh=>some (v1,vh)).bind λzi=>HN zi.1 zi.2.1).bind λwt=>some (wt,())).bind λϘ=>Ku Ϙ.1).bind λl24=>D3 l24 (λvi=>some true) (λvi=>atI v1.ev vi)).bind λϙ=>some (.rt ϙ)
def NZ(Bi:(Nat×List ZPi))(BD:Int)(Be:Str):Option (List ZLi):=GM (NX Bi BD Be)
theorem bI(W:Wd)(Bi:(Nat×List ZPi))(BD:Int)(Be:Str):VF (QO W) [.z ((HA W) Bi),.v (D.int BD),.v (D.str Be)] (rN (oL (eT D.int))) (NZ Bi BD Be):=by
 refine EZ (n:=4) (b:=QV W) (p:=NX Bi BD Be) (B:=λ_=>[]) ?_;show VS [.z ((HA W) Bi),.v (D.int BD),.v (D.str Be),.u] _ _ _ _;unfold QV NX;exact(BA (Zi (Wz (Kq (DI rfl) (Cu (AI rfl) (Cu (AI rfl) CF))))) (λv1=>(Ej (CD (Ck (VI.k (Pw (B9 (Cu (B9 (dZ (Pf:=FD W) (Pg:=FD W) (λ_ _ h=>h) rfl (Kq (Fn (B9 (dZ (Pf:=FD W) (Pg:=FD W) (λ_ _ h=>h) rfl CF) (λzS=>W3 W zS.1) (λ_=>rfl) Gm)) CF)) (λzi=>R5 W zi.1 zi.2.1) (λ_=>rfl) GX) CF) (λϘ=>UN W Ϙ.1) (λ_=>rfl) Gm))) (λvi=>GJ) (λvi=>(E9 (Gv IP rfl) (AI rfl))))))))
def RU(Bi:(Nat×List ZPi))(BD:Int)(Be:Str):Option (Fw (List (ZLi×Int×Int)) Unit):=
 BF (((some (Bi,(BD,(Be,())))).bind λz8=>Lc z8.1 z8.2.1 z8.2.2.1).bind λx9=>some (.nx x9)) λv1=>BF ((Mv v1).bind λxR=>some (.nx xR)) λv10=>(D3 (B2 (v10.map (·.1))) (λvh=>some true) (λvh=>(atI v1.ev vh).bind λvi=>(Ai v10 vh).bind λvI=>some (vi,vI))).bind λuV=>some (.rt uV)
def RV(Bi:(Nat×List ZPi))(BD:Int)(Be:Str):Option (List (ZLi×Int×Int)):=GM (RU Bi BD Be)
theorem jH(W:Wd)(Bi:(Nat×List ZPi))(BD:Int)(Be:Str):VF (WD W) [.z ((HA W) Bi),.v (D.int BD),.v (D.str Be)] (rN (oL (eP3 (eT D.int) D.int D.int))) (RV Bi BD Be):=by
 refine EZ (n:=5) (b:=WL W) (p:=RU Bi BD Be) (B:=λ_=>[]) ?_;show VS [.z ((HA W) Bi),.v (D.int BD),.v (D.str Be),.u,.u] _ _ _ _;unfold WL RU;exact(BA (Zi (Wz (Kq (DI rfl) (Cu (AI rfl) (Cu (AI rfl) CF))))) (λv1=>(BA (EO (B9 (dZ (Pf:=FD W) (Pg:=FD W) (λ_ _ h=>h) rfl CF) (λz13=>W3 W z13.1) (λ_=>rfl) Gm)) (λv10=>(Ej (CD (Ck (VI.k (Pw (bF (CU rfl)))) (λvh=>GJ) (λvh=>(dW (E9 (Gv IP rfl) (AI rfl)) (dU (CU rfl) (AI rfl)))))))))))
open PySem L2
theorem fE(h:x.1 < x.2):nrm x=x:=by
 unfold nrm;rw[qY (by lia),qX (by omega)]
theorem fF(x:Int×Int):nrm (x.2,x.1)=nrm x:=by
 unfold nrm;dsimp only
 congr 1
 ·split <;> split <;> lia
 ·split <;> split <;> lia
theorem dv(h:l.Perm l'):J1 l=J1 l':=UP ((FA l).trans (h.trans (FA l').symm)) (SD l) (SD l')
theorem jK(h:(ps.map nrm).Perm (qs.map nrm)):Gj ps=Gj qs:=by
 unfold Gj LL;have:=h.map Vn;rw[BP,BP]at this;rw[show(λx=>Vn (nrm x))=Vn∘nrm from rfl,dv this]
theorem GC.of(h:(ps.map nrm).Perm (qs.map nrm))(f:GC p qs):GC p ps:=by
 refine⟨λx hx=>?_,h.nodup_iff.mpr f.2⟩;obtain⟨y,hy,e⟩:=BO.mp (h.mem_iff.mp (az hx));have:=f.1 y hy;unfold Fit at this ⊢;rw[<-e];exact this
def nr(ts:List ZPi)(x:Nat):ZLi:=B2 (DO ts x)
theorem Yy:z∈nr ts x↔((x:Int),z)∈ts∨(z,(x:Int))∈ts:=by
 unfold nr;rw[(Eo _).mem_iff];unfold DO;rw[iD]
 constructor
 ·rintro⟨t,ht,h⟩
  rcases A9.mp h with h | h
  ·split at h
   ·rename_i e
    rw[Aa.mp h,<-e];exact .inl ht
   ·cases h
  ·split at h
   ·rename_i e
    rw[Aa.mp h,<-e];exact .inr ht
   ·cases h
 ·rintro(h | h)
  ·exact⟨_,h,BM _ (by simp)⟩
  ·exact⟨_,h,BY _ (by simp)⟩
open PySem L2 L4
theorem TB(ns:ZLi)(k:Nat):CK ns (k:Int)=some (ns.getD k 0):=by
 unfold CK HI
 by_cases c:k < ns.length
 ·rw[wX (show(k:Int) < (ns.length:Int) by lia),qX rfl,IC (x:=ns[k]) (by lia) (by rw[As];exact AU c)]
  simp only[AB,g8,Z1];rw[Bx,AU c];rfl
 ·rw[wY (show ¬(k:Int) < (ns.length:Int) by lia),qY AK]
  simp only[BH,Z1];rw[Bx,CI (by lia)];rfl
def prs(o:Nat):List ZPi:=(HP o).getD []
theorem US:∀o:Nat,o < 8->HP o=some (prs o)/\(∀x∈prs o,0<=x.1/\x.1 < x.2/\x.2 < o)/\(prs o).Nodup/\(prs o).length<=21/\(2<=o->prs o≠[])/\∀y:Nat,y < 7->((prs o).filter λx=>decide ((y:Int)∈[x.1,x.2])).length<=6:=by decide +kernel
theorem cM:∀o:Nat,o < 8->∀s:Nat,s < 6->∃fs,El o s=some fs/\fs.length<=21:=by
 have h:∀o:Nat,o < 8->∀s:Nat,s < 6->(match El o s with | some fs=>decide (fs.length<=21) | none=>false)=true:=by decide +kernel
 intro o ho s hs;have:=h o ho s hs
 cases q:El o s with
 | none=>rw[q]at this;cases this
 | some fs=>rw[q]at this;exact⟨fs,rfl,of_decide_eq_true this⟩
theorem Mu[DecidableEq κ](f':List (κ×β))(k:κ)(v:β):(CG f' k v).length<=f'.length+1:=by
 unfold CG;split
 ·rw[AF];lia
 ·rw[AX];simp
theorem nJ(ns:ZLi)(vF:ns.length<=63)(f:Nat)(hf:f<=1000){o:Nat}(h2:2<=o)(ho:o < 8):∃P,IV ns f o=some ((prs o).filter P):=by
 obtain⟨e1,-,-,hl,um,-⟩:=US o ho;obtain⟨fs,e2,hfs⟩:=cM o ho (ns.getD 0 0 / 7 % 6).toNat (by lia);rw[BR (by lia)]at e2;unfold IV J5;simp only[AB];rw[e1,show CK ns 0=some (ns.getD 0 0)from TB ns 0];simp only[AB,BH];rw[e2];simp only[AB]
 obtain⟨s1,e3,l1⟩:=PX (ρ:=List ZPi) (l:=fs) (s0:=([]:List (ZPi×Bool))) (q:=λuM vi=>Dx (λzQ=>zQ) ((Gy uM vi true).bind λο=>some (.nx ο))) (λpre s=>s.length<=pre.length) (AL _) (by
  intro pre x s hx hp hs;have:=hp.length_le;rw[AX,Au]at this;refine⟨CG s x true,?_,?_⟩
  ·rw[show Gy s x true=some (CG s x true)from qX (by lia)]
   rfl
  ·rw[AX,Au]
   exact Aw (Mu _ _ _) (by lia))
 rw[e3];simp only[BH];rw[je (by lia) (by lia) (by split <;> lia) (by split <;> lia)];simp only[AB]
 have uz:0 < ((prs o).length:Int):=by have:=EB.mpr (um h2);lia
 obtain⟨s2,e4,-⟩:=PX (ρ:=List ZPi) (l:=DW (f:Int) ((if (63:Int) < (ns.length:Int)then(63:Int)else(ns.length:Int)) - (f:Int)).toNat) (s0:=s1) (q:=λwx xl=>BF (((atI ns xl).bind λυ=>QG υ ((prs o).length:Int)).bind (λxS=>atI (prs o) xS) |>.bind λχ=>some (.nx χ)) λxm=>Dx (λzR=>zR) ((if (!(Ai wx xm).isSome)=true then some true else(Ai wx xm).bind λxT=>some (!xT)).bind λxU=>(Gy wx xm xU).bind λψ=>some (.nx ψ))) (λpre s=>s.length<=21+pre.length) (Aw l1 hfs) (by
  intro pre x s hx hp hs;have zj:=hp.length_le;rw[AX,Au,CN]at zj;obtain⟨zH,zI⟩:=CO.mp hx;obtain⟨y,ey,-⟩:=ZR (l:=ns) (i:=x) (by lia) (by split at zI <;> lia);rw[ey];simp only[AB];rw[J8 uz];simp only[AB];obtain⟨t,et,-⟩:=Lz (l:=prs o) y (um h2);rw[et];simp only[AB,BH]
  have hb:∃b,(if (!(Ai s t).isSome)=true then some true else(Ai s t).bind λxT=>some (!xT))=some b:=by
   cases Ai s t with
   | none=>exact⟨true,rfl⟩
   | some b=>exact⟨!b,rfl⟩
  obtain⟨b,hb⟩:=hb;rw[hb];simp only[AB];refine⟨CG s t b,?_,?_⟩
  ·rw[show Gy s t b=some (CG s t b)from qX (by split at zj <;> lia)]
   rfl
  ·rw[AX,Au]
   exact Aw (Mu _ _ _) (by lia))
 refine⟨λx=>match Ai s2 x with | some b=>b | none=>false,?_⟩;have e4':=e4;simp only[Option.bind_assoc,AB]at e4' ⊢;rw[e4'];simp only[BH]
 rw[F9 (P:=λx=>match Ai s2 x with | some b=>b | none=>false) (by lia) (by
  intro x _
  cases Ai s2 x with
  | none=>rfl
  | some b=>rfl)]
 rfl
structure Kf(o:Nat)(ts:List ZPi):Prop where
 rg:∀x∈ts,0<=x.1/\x.1 < x.2/\x.2 < o
 nd:ts.Nodup
 ln:ts.length<=21
 dg:∀y:Nat,y < 7->(ts.filter λx=>decide ((y:Int)∈[x.1,x.2])).length<=6
theorem jM(ho:o < 8)(P:Int×Int->Bool):Kf o ((prs o).filter P):=by
 obtain⟨-,h1,h2,h3,-,h4⟩:=US o ho;refine⟨λx hx=>h1 x (An.mp hx).1,h2.filter _,Aw (Ce _ _) h3,λy hy=>?_⟩;refine Aw ?_ (h4 y hy);exact(t8 _ List.filter_sublist).length_le
theorem gD(ns:ZLi)(hl:ts.length<=1000):∃hs,IM ns ts=some hs/\(hs=ts∨hs=ts.reverse.map λx=>(x.2,x.1)):=by
 unfold IM IK;rw[show CK ns 0=some (ns.getD 0 0)from TB ns 0];simp only[AB]
 by_cases c:ns.getD 0 0 / 42 % 2=0
 ·rw[wX c,qX rfl]
  exact⟨ts,rfl,.inl rfl⟩
 ·rw[wY c,qY AK]
  simp only[BH];rw[GR (f:=λx:Int×Int=>(x.2,x.1)) (by rw[bA];lia) λx _=>rfl];exact⟨_,rfl,.inr rfl⟩
theorem Kf.nrm(h:Kf o ts):ts.map nrm=ts:=by
 conv=>rhs;rw[<-Rp ts]
 exact E2 λx hx=>fE (h.rg x hx).2.1
theorem Kf.fit(h:Kf o ts):GC o ts:=by
 refine⟨λx hx=>?_,by rw[h.nrm];exact h.nd⟩;have:=h.rg x hx;unfold Fit;rw[fE this.2.1];omega
theorem Kf.mem(h:Kf o ts):t∈Gj ts↔t∈ts:=by
 rw[(P1 ts).mem_iff,h.nrm]
theorem Kf.web(h:Kf o ts)(h1:1<=o)(ho:o<=60)(e:hs=ts∨hs=ts.reverse.map λx=>(x.2,x.1)):c9 (o:Int) hs=some (o,Gj ts):=by
 have pm:(hs.map M.nrm).Perm (ts.map M.nrm):=by
  rcases e with rfl | rfl
  ·exact List.Perm.refl _
  ·rw[BP,show(M.nrm∘λx:Int×Int=>(x.2,x.1))=M.nrm from funext λx=>fF x,iE]
   exact List.reverse_perm _
 have hl:hs.length=ts.length:=by have:=pm.length_eq;rwa [AF,AF]at this
 unfold c9;rw[qX ⟨by lia,by lia,GC.of pm h.fit,by rw[hl];have:=h.ln;lia⟩,jK pm,As]
theorem fJ{o:Nat}{us:List ZPi}{g:Int}(h0:0<=g)(h1:g < o):atI (QF o us) g=some (nr us g.toNat):=by
 refine IC h0 ?_;unfold QF;rw[Ak,E3 (by lia)];rfl
theorem oq{o:Nat}{us:List ZPi}{g:Int}(h0:0<=g)(h1:g < o):Vq (o,us) g=some (nr us g.toNat):=by
 unfold Vq Vo HM FV;simp only[AB];rw[wX h0,qX rfl,wX h1];simp only[AB];show GM (BF (((j9 (some (Fw.nx ()))).bind λ_=>some (.nx ()))) λ_=>_)=_;simp only[j8,AB,BH];rw[fJ h0 h1];rfl
def lnr(ts:List ZPi)(y:Int):ZLi:=(ts.filter λx=>decide (y∈[x.1,x.2])).map λx=>x.1+x.2 - y
theorem aC(hl:ts.length<=1000)(y:Int):IX ts y=some (B2 (lnr ts y)):=by
 unfold IX J6;simp only[AB,lA (show([]:ZLi).length<=1000000 by decide),BH]
 obtain⟨s,e,rfl⟩:=PX (ρ:=ZLi) (l:=ts) (s0:=([]:ZLi)) (q:=λs3 x4=>Dx (λvK=>vK) (if decide (y∈[x4.1,x4.2])=true then Dx (λv7=>v7) ((WM s3 (x4.1+x4.2 - y)).bind λl9=>some (.nx l9))else some (.nx s3))) (λpre s=>s=lnr pre y) rfl (by
  rintro pre x s hx hp rfl;have uz:=hp.length_le;rw[AX,Au]at uz
  have hle:(lnr pre y).length<=pre.length:=by unfold lnr;rw[AF];exact Ce _ _
  have es:lnr (pre++[x]) y=if decide (y∈[x.1,x.2])=true then lnr pre y++[x.1+x.2 - y]else lnr pre y:=by
   unfold lnr;rw[Qp];split
   ·rw[Ca];rfl
   ·rfl
  rw[es]
  cases c:decide (y∈[x.1,x.2])with
  | true=>
   rw[qX rfl,qX rfl,aj (by lia)];exact⟨_,rfl,rfl⟩
  | false=>exact⟨_,rfl,rfl⟩)
 rw[e];rfl
theorem aB:z∈lnr ts y↔(y,z)∈ts∨(z,y)∈ts:=by
 unfold lnr;rw[BO]
 constructor
 ·rintro⟨x,hx,rfl⟩
  obtain⟨h1,h2⟩:=An.mp hx;have h2:=of_decide_eq_true h2
  rcases Ap.mp h2 with h | h
  ·left
   rw[show(y,x.1+x.2 - y)=x from UF h (by show x.1+x.2 - y=x.2;lia)];exact h1
  ·right
   have h:=Aa.mp h;rw[show(x.1+x.2 - y,y)=x from UF (by show x.1+x.2 - y=x.1;lia) h];exact h1
 ·rintro(h | h)
  ·exact⟨_,An.mpr ⟨h,wX (by simp)⟩,by show y+z - y=z;lia⟩
  ·exact⟨_,An.mpr ⟨h,wX (by simp)⟩,by show z+y - y=z;lia⟩
theorem Ei:x∈B2 l↔x∈l:=(Eo l).mem_iff
theorem Kf.near(h:Kf o ts)(h0:0<=g)(z:Int):z∈nr (Gj ts) g.toNat↔z∈B2 (lnr ts g):=by
 rw[Yy,Ei,aB,h.mem,h.mem,BR h0]
theorem em:∀n:Nat,n < 128->∀x:Nat,x < 7->Cn (n:Int) (1 * 2 ^ x)=((n ||| 2 ^ x:Nat):Int)/\(n ||| 2 ^ x) < 128/\∀y:Nat,y < 7->(n ||| 2 ^ x).testBit y=(n.testBit y||decide (x=y)):=by decide +kernel
theorem bU:∀x:Nat,x < 8->Oz 1 (x:Int)=some (1 * 2 ^ x):=by decide +kernel
theorem qC(h:∀x∈l,0<=x/\x < 7):Ok (G2 l) λr=>∃n:Nat,r=n/\n < 128/\∀y:Nat,y < 7->(n.testBit y=true↔(y:Int)∈l):=by
 unfold G2 NY;simp only[AB,BH];refine OkF.out (OkF.seq (OkF.for (λpre (s:Int)=>∃n:Nat,s=n/\n < 128/\∀y:Nat,y < 7->(n.testBit y=true↔(y:Int)∈pre)) ⟨0,rfl,by decide,λy _=>by simp⟩ ?_) ?_)
 ·rintro pre x s hx hp ⟨n,rfl,hn,uf⟩
  obtain⟨x0,x7⟩:=h x hx
  obtain⟨k,rfl⟩:∃k:Nat,x=k:=⟨x.toNat,by lia⟩
  rw[bU k (by lia)];obtain⟨o1,o2,o3⟩:=em n hn k (by lia);refine .nx ⟨n ||| 2 ^ k,o1,o2,λy hy=>?_⟩;rw[o3 y hy,JH,uf y hy,A9,Aa,decide_eq_true_eq];refine⟨λq=>q.elim .inl λq=>.inr (by rw[q]),λq=>q.elim .inl λq=>.inr (by lia)⟩
 ·rintro s ⟨n,rfl,h1,h2⟩
  exact .rt ⟨n,rfl,h1,h2⟩
def Tg(us:List ZPi)(g:Int):ZLi:=B2 ([g]++nr us g.toNat)
def tkl(o:Nat)(us:List ZPi):List ZLi:=(DW 0 o).map (Tg us)
theorem lj{o:Nat}{us:List ZPi}{g:Int}(h0:0<=g)(h1:g < o):atI (tkl o us) g=some (Tg us g):=by
 refine IC h0 ?_;unfold tkl DW;rw[Ak,Ak,E3 (by lia)];show some (Tg us (0+(g.toNat:Int)))=_;rw[show(0:Int)+(g.toNat:Int)=g by lia]
theorem dh{o:Nat}{us:List ZPi}{g:Int}(h0:0<=g)(h1:g < o):Tk (tkl o us) g=Tg us g:=by
 unfold Tk;rw[lj h0 h1];rfl
structure L5(o:Nat)(us:List ZPi):Prop where
 sm:o < 8
 len:∀g:Int,0<=g->g < o->(nr us g.toNat).length<=6
 rg:∀g:Int,0<=g->g < o->∀x∈nr us g.toNat,0<=x/\x < o/\x≠g
 nd:∀g:Int,0<=g->g < o->(nr us g.toNat).Nodup
section
variable{o:Nat}{us:List ZPi}
theorem TM:x∈Tg us g↔x=g∨x∈nr us g.toNat:=by
 unfold Tg;rw[Ei];simp
theorem L5.tg(h:L5 o us){g:Int}(h0:0<=g)(h1:g < o):(Tg us g).length<=7/\(∀x∈Tg us g,0<=x/\x < o)/\(Tg us g).Pairwise (· < ·):=by
 refine⟨?_,λx hx=>?_,?_⟩
 ·unfold Tg
  rw[(Eo _).length_eq,AX,Au];have:=h.len g h0 h1
  lia
 ·rcases TM.mp hx with rfl | hx
  ·exact⟨h0,h1⟩
  ·exact⟨(h.rg g h0 h1 x hx).1,(h.rg g h0 h1 x hx).2.1⟩
 ·have nd:(Tg us g).Nodup:=by
   unfold Tg;rw[(Eo _).nodup_iff];show(g :: nr us g.toNat).Nodup;rw[Bt];exact⟨λz=>(h.rg g h0 h1 g z).2.2 rfl,h.nd g h0 h1⟩
  have:=(SC ([g]++nr us g.toNat))
  exact(UJ this nd).imp λ⟨a,b⟩=>by lia
theorem jN(h:L5 o us):La (o,us)=some (tkl o us):=by
 unfold La LW;simp only[AB];rw[J3 (by lia) (by have:=h.sm;lia),As];simp only[AB]
 rw[GR (f:=Tg us) (by rw[CN];have:=h.sm;lia) λx hx=>by
  obtain⟨x0,x1⟩:=CO.mp hx;rw[oq x0 (by lia),pr];simp only[AB];rw[Ng (by have:=h.len x x0 (by lia);rw[Au];lia)]
  rfl]
 rfl
theorem Wn(f:Int->Int):∀l:ZLi,l.zip (l.map f)=l.map λg=>(g,f g)
 | []=>rfl
 | x :: l=>by rw[BG,Ph,Wn f l];rfl
theorem ie{a b:ZLi}{x y z:Int}(hn:b.Nodup)(h1:(x,z)∈a.zip b)(h2:(y,z)∈a.zip b):x=y:=by
 obtain⟨i,hi,e1⟩:=C2 h1;obtain⟨j,hj,e2⟩:=C2 h2;rw[Md]at hi hj;rw[MB]at e1 e2;have f1:=(Wf e1);have f2:=(Wf e2);have:i=j:=(RI hn).mp (f1.2.trans f2.2.symm);subst this;exact f1.1.symm.trans f2.1
end
open PySem L2 L4
open Srt (ltL)
theorem Xj:∀a:ZLi,ltL a a=false
 | []=>rfl
 | x :: a=>by unfold ltL;rw[qX rfl];exact Xj a
section
variable{o:Nat}{us:List ZPi}
def cZ(us:List ZPi)(gs:ZLi)(c:Int)(r:ZLi):Prop:=r.length=gs.length/\r.Nodup/\(∀y∈gs.zip r,y.2∈Tg us y.1)/\c∈r
theorem cZ.rg(h:L5 o us){gs r:ZLi}{c:Int}(hg:∀g∈gs,0<=g/\g < o)(hr:cZ us gs c r):∀x∈r,0<=x/\x < o:=λx hx=>by
 obtain⟨i,hi,rfl⟩:=C2 hx
 have xg:i < gs.length:=by rw[<-hr.1];exact hi
 have m:(gs[i],r[i])∈gs.zip r:=by
  have:(gs.zip r)[i]'(by rw[Md];lia)=(gs[i],r[i]):=MB;rw[<-this];exact Ct _
 have:=hg gs[i] (Ct _);exact(h.tg this.1 this.2).2.1 _ (hr.2.2.1 _ m)
end
theorem pM:∀n:Nat,n < 128->∀x:Nat,x < 7->hb (n:Int) (x:Int)=n.testBit x:=by decide +kernel
abbrev bit(n:Nat)(x:Int):Prop:=n.testBit x.toNat=true
def InS(us:List ZPi)(gs:ZLi)(P:Int->Prop)(r:ZLi):Prop:=r.length=gs.length/\r.Nodup/\(∀y∈gs.zip r,y.2∈Tg us y.1)/\∀x∈r,P x
section
variable{o:Nat}{us:List ZPi}{gs rest:ZLi}{P Q:Int->Prop}{g:Int}{n:Nat}
theorem InS.rg(h:L5 o us)(hg:∀g∈gs,0<=g/\g < o)(hr:InS us gs P r):∀x∈r,0<=x/\x < o:=λx hx=>by
 obtain⟨i,hi,rfl⟩:=C2 hx;have hl:=hr.1
 have m:(gs[i]'(by lia),r[i])∈gs.zip r:=by
  have:(gs.zip r)[i]'(by rw[Md];lia)=(gs[i]'(by lia),r[i]):=MB;rw[<-this];exact Ct _
 have g':=hg _ (Ct (show i < gs.length by lia));exact(h.tg g'.1 g'.2).2.1 _ (hr.2.2.1 _ m)
theorem InS.imp(hr:InS us gs P r)(i:∀x∈r,P x->Q x):InS us gs Q r:=⟨hr.1,hr.2.1,hr.2.2.1,λx hx=>i x hx (hr.2.2.2 x hx)⟩
theorem nc(h:L5 o us)(hn:n < 128)(hr:∀g∈rest,0<=g/\g < o)(w6:rest.Nodup):Sdr (Tk (tkl o us)) (n:Int) rest↔∃r,InS us rest (bit n) r:=by
 have sm:=h.sm
 have hw:∀g∈rest,∀x,x∈w0 (Tk (tkl o us)) (n:Int) g↔x∈Tg us g/\bit n x:=λg hg x=>by
  unfold w0;rw[An,dh (hr g hg).1 (hr g hg).2]
  refine and_congr_right λa=>?_
  have:=(h.tg (hr g hg).1 (hr g hg).2).2.1 x a
  obtain⟨k,rfl⟩:∃k:Nat,x=k:=⟨x.toNat,by lia⟩
  unfold bit;rw[pM n hn k (by lia),As]
 constructor
 ·rintro⟨f,f1,f2⟩
  refine⟨rest.map f,AF _,?_,λy hy=>?_,λx hx=>?_⟩
  ·unfold IZ
   rw[Cf]
   exact w6.imp_of_mem λ{a b} ha uf ne e=>ne (f2 a ha b uf e)
  ·rw[Wn]at hy
   obtain⟨g,hg,rfl⟩:=BO.mp hy;exact((hw g hg _).mp (f1 g hg)).1
  ·obtain⟨g,hg,rfl⟩:=BO.mp hx
   exact((hw g hg _).mp (f1 g hg)).2
 ·rintro⟨l,l1,ln,l3,l4⟩
  have ex:∀a:Int,∃z:Int,a∈rest->(a,z)∈rest.zip l:=λa=>by
   by_cases q:a∈rest
   ·obtain⟨i,hi,e⟩:=C2 q
    refine⟨l[i]'(by lia),λ_=>?_⟩
    have:(rest.zip l)[i]'(by rw[Md];lia)=(a,l[i]'(by lia)):=by rw[MB,e]
    rw[<-this];exact Ct _
   ·exact⟨0,λz=>zX z q⟩
  have hs:=λa=>FE (ex a)
  refine⟨λa=>Eu (ex a),λg hg=>(hw g hg _).mpr ⟨l3 _ (hs g hg),l4 _ (Mc (hs g hg)).2⟩,λa ha b uf e=>?_⟩;have e:Eu (ex a)=Eu (ex b):=e;have h1:=hs a ha;rw[e]at h1;exact ie ln h1 (hs b uf)
theorem pq(h:L5 o us)(hn:n < 128)(hr:∀g∈rest,0<=g/\g < o)(w6:rest.Nodup):Ok (SU (tkl o us) rest (n:Int)) λb=>b=true↔∃r,InS us rest (bit n) r:=by
 have sm:=h.sm
 have hlen:((tkl o us).length:Int)=o:=by unfold tkl;rw[AF,CN]
 have hT:(∀t∈tkl o us,t.length<=1000/\∀x∈t,0<=x)/\∀g∈rest,0<=g/\g < ((tkl o us).length:Int):=by
  refine⟨λt htm=>?_,λg hg=>by rw[hlen];exact hr g hg⟩;obtain⟨g,hg,rfl⟩:=BO.mp htm;obtain⟨g0,g1⟩:=CO.mp hg;have:=h.tg g0 (by lia);exact⟨by omega,λx hx=>(this.2.1 x hx).1⟩
 have fs:=cK (T:=Tk (tkl o us)) (bits:=(n:Int)) (U:=DW 0 o) (Gd:=λg=>0<=g/\g < o) (n:=9) (gs:=rest) (λg hg x hx=>by
  rw[dh hg.1 hg.2]at hx;have:=(h.tg hg.1 hg.2).2.1 x hx
  exact CO.mpr ⟨this.1,by lia⟩) (by rw[CN];lia) (by rw[CN];lia) (λg hg=>⟨hr g hg,by rw[dh (hr g hg).1 (hr g hg).2];exact TM.mpr (.inl rfl)⟩) w6
 have pf:SU (tkl o us) rest (n:Int)=Uf (Tk (tkl o us)) (n:Int) 9 rest:=qX hT;rw[pf]
 exact fs.imp λb hb=>hb.trans (nc h hn hr w6)
end
end M
namespace L4
theorem YN{ρ σ:Type}{c:σ->Option Bool}{q:σ->Option (Fw ρ σ)}(I:σ->Prop)(μ:σ->Nat)(h:∀s,I s->c s=some false∨(c s=some true/\∃s',q s=some (.nx s')/\I s'/\μ s' < μ s)) :
  ∀(n:Nat) (s:σ),I s->μ s < n->∃s',whF c q n s=some (.nx s')/\I s'/\c s'=some false
 | 0,s,_,hn=>zX hn (NR _)
 | n+1,s,hI,hn=>by
  unfold whF
  rcases h s hI with hc | ⟨hc,s',hq,h2,h3⟩
  ·rw[hc]
   exact⟨s,rfl,hI,hc⟩
  ·rw[hc]
   simp only[AB,if_true];rw[hq];exact YN I μ h n s' h2 (by lia)
end L4
namespace M
open PySem L2 L4
theorem Rh(a b:Nat):Bh (a:Int) (b:Int)=((a &&& b:Nat):Int):=by
 unfold Bh;rw[wX (KI a),wX (KI b)];rfl
theorem Vr(a b:Nat):Cn (a:Int) (b:Int)=((a ||| b:Nat):Int):=by
 unfold Cn Bh c8;rw[wY (show ¬0<=-(a:Int) - 1 by lia),wY (show ¬0<=-(b:Int) - 1 by lia)];show -(-((((-(-(a:Int) - 1) - 1).toNat ||| (-(-(b:Int) - 1) - 1).toNat:Nat):Nat):Int) - 1) - 1=_;rw[show(-(-(a:Int) - 1) - 1).toNat=a by lia,show(-(-(b:Int) - 1) - 1).toNat=b by lia]
 lia
theorem ei:∀a b:Nat,(a ||| b)=(a ^^^ b)+(a &&& b):=by
 intro a
 induction a using lY with
 | ind a ih=>
  intro b
  by_cases h:a=0
  ·subst h
   simp
  ·have e:=ih (a / 2) (by lia) (b / 2)
   have h1:=Nat.or_div_two (a:=a) (b:=b);have h2:=Nat.xor_div_two (a:=a) (b:=b);have h3:=Tb (a:=a) (b:=b);have m1:(a ||| b) % 2=(a % 2 ||| b % 2):=Nat.or_mod_two_pow (a:=a) (b:=b) (n:=1);have m2:(a ^^^ b) % 2=(a % 2 ^^^ b % 2):=Nat.xor_mod_two_pow (a:=a) (b:=b) (n:=1);have m3:(a &&& b) % 2=(a % 2 &&& b % 2):=Oi (a:=a) (b:=b) (n:=1)
   rcases KH a with ha | ha <;> rcases KH b with hb | hb <;> rw[ha,hb]at m1 m2 m3 <;> simp only[Nat.reduceOr,Nat.reduceXor,Nat.reduceAnd]at m1 m2 m3 <;> lia
theorem ig(a b:Nat):Ew (a:Int) (b:Int)=((a ^^^ b:Nat):Int):=by
 unfold Ew;rw[Vr,Rh,ei]
 lia
theorem kQ:∀b:Nat,0 < b->∃i:Nat,b.testBit i=true/\(∀j,j < i->b.testBit j=false)/\b=(b &&& (b - 1))+2 ^ i/\∀j,(b &&& (b - 1)).testBit j=(b.testBit j&&!decide (i=j)):=by
 intro b
 induction b using lY with
 | ind b ih=>
  intro hb
  rcases KH b with h | h
  ·obtain⟨i,h1,h2,h3,h4⟩:=ih (b / 2) (by lia) (by lia)
   have d:=Tb (a:=b) (b:=b - 1);rw[show(b - 1) / 2=b / 2 - 1 by lia]at d;have m3:(b &&& (b - 1)) % 2=(b % 2 &&& (b - 1) % 2):=Oi (a:=b) (b:=b - 1) (n:=1);rw[h]at m3;simp at m3;refine⟨i+1,by rw[Gg];exact h1,λj hj=>?_,?_,λj=>?_⟩
   ·cases j with
    | zero=>rw[Gf];exact wY (by lia)
    | succ j=>rw[Gg];exact h2 j (by lia)
   ·rw[Qs];lia
   ·cases j with
    | zero=>
     rw[Gf,Gf,wY (show ¬(b &&& (b - 1)) % 2=1 by lia),wY (show ¬b % 2=1 by lia)];rfl
    | succ j=>
     rw[Gg,Gg,d,h4 j]
     congr 2
     exact decide_eq_decide.mpr (by lia)
  ·have d:=Tb (a:=b) (b:=b - 1)
   rw[show(b - 1) / 2=b / 2 by omega,Nat.and_self]at d;have m3:(b &&& (b - 1)) % 2=(b % 2 &&& (b - 1) % 2):=Oi (a:=b) (b:=b - 1) (n:=1);rw[h,show(b - 1) % 2=0 by lia]at m3;simp at m3;refine⟨0,by rw[Gf];exact wX h,λj hj=>zX hj (NR _),by rw[Nat.pow_zero];lia,λj=>?_⟩
   cases j with
   | zero=>
    rw[Gf,Gf,wY (show ¬(b &&& (b - 1)) % 2=1 by lia),wX h];rfl
   | succ j=>
    rw[Gg,Gg,d];simp
theorem bv{b i:Nat}(h:b=(b &&& (b - 1))+2 ^ i)(hb:0 < b):Bh (b:Int) (-(b:Int))=((2 ^ i:Nat):Int):=by
 unfold Bh c8;rw[wX (KI b),wY (show ¬0<=-(b:Int) by lia)];show(b:Int) - ((((b:Int).toNat &&& (- -(b:Int) - 1).toNat:Nat)):Int)=_;rw[show(- -(b:Int) - 1).toNat=b - 1 by lia,As]
 lia
theorem gy(i:Nat):Dp ((2 ^ i:Nat):Int)=i+1:=by
 unfold Dp;have h:(2 ^ i:Nat)≠0:=FL (lX i);rw[qY (by rw[beq_iff_eq];lia),Int.natAbs_natCast,Nat.log2_two_pow]
def Bm(b:Nat)(l:ZLi):Prop:=l.Pairwise (· < ·)/\∀x:Int,x∈l↔0<=x/\b.testBit x.toNat=true
theorem UY{b N:Nat}(hb:b < 2 ^ N)(hN:N<=1000):Ok (Ku (b:Int)) (Bm b):=by
 unfold Ku NW;simp only[AB,gY,BH]
 obtain⟨⟨t,l⟩,e,hI,hc⟩:=YN (ρ:=ZLi) (c:=λs:ZLi×Int=>some (s.2 != 0)) (q:=λs:ZLi×Int=>BF ((WM s.1 ((Dp (Bh s.2 (-s.2)):Int) - 1)).bind λl=>some (.nx l)) λv=>Dx (λw=>(v,w)) (some (.nx (Bh s.2 (s.2 - 1)))))
  (λs=>∃c:Nat,s.2=c/\s.1.Pairwise (· < ·)/\(∀x∈s.1,0<=x/\x < N/\b.testBit x.toNat=true/\∀j:Nat,c.testBit j=true->x < j)/\(∀j:Nat,b.testBit j=true->(j:Int)∈s.1∨c.testBit j=true)/\(∀j:Nat,c.testBit j=true->b.testBit j=true))
  (λs=>N - s.1.length) (by
   rintro s ⟨c,hc,h1,h2,h3,h4⟩
   by_cases c0:c=0
   ·left
    rw[hc,c0];rfl
   ·right
    obtain⟨i,q1,q2,q3,q4⟩:=kQ c (by lia)
    have hi:i < N:=by
     have:=h4 i q1
     refine iT λhle=>?_
     have h0:b.testBit i=false:=YK (AV hb (Ir (by decide) hle));rw[h0]at this;cases this
    have hlen:s.1.length < N:=by
     have w6:(s.1++[(i:Int)]).Nodup:=by
      refine Fg.mpr ⟨h1.imp λh=>by lia,by simp,λx hx y hy=>?_⟩;rw[Aa.mp hy];have:=(h2 x hx).2.2.2 i q1
      lia
     have:=Jb (k:=DW 0 N) w6 λx hx=>by
      rw[CO]
      rcases A9.mp hx with hx | hx
      ·have:=h2 x hx;omega
      ·rw[Aa.mp hx];omega
     rw[CN,AX,Au]at this;exact this
    refine⟨by rw[hc];exact congrArg some (bne_iff_ne.mpr (by lia)),(s.1++[(i:Int)],((c &&& (c - 1):Nat):Int)),?_,⟨_,rfl,?_,λx hx=>?_,λj hj=>?_,λj hj=>?_⟩,?_⟩
    ·rw[hc,bv q3 (by lia),gy,aj (by lia),show(c:Int) - 1=((c - 1:Nat):Int) by lia,Rh]
     simp only[AB,BH,kM];rw[show((i+1:Nat):Int) - 1=(i:Int) by lia]
    ·refine BU.mpr ⟨h1,Wg _ _,λx hx y hy=>?_⟩
     rw[Aa.mp hy];exact(h2 x hx).2.2.2 i q1
    ·rcases A9.mp hx with hx | hx
     ·obtain⟨a1,a2,a3,a4⟩:=h2 x hx
      refine⟨a1,a2,a3,λj hj=>a4 j ?_⟩;rw[q4 j,DJ]at hj;exact hj.1
     ·rw[Aa.mp hx]
      refine⟨by lia,by lia,by rw[As];exact h4 i q1,λj hj=>?_⟩;rw[q4 j,DJ]at hj
      have um:i≠j:=by simpa using hj.2
      have:¬j < i:=λz=>by rw[q2 j z]at hj;exact zX hj.1 AK
      lia
    ·rcases h3 j hj with h | h
     ·exact .inl (BM _ h)
     ·by_cases e:i=j
      ·subst e;exact .inl (by simp)
      ·right
       rw[q4 j,h,wY e];rfl
    ·rw[q4 j,DJ]at hj
     exact h4 j hj.1
    ·show N - (s.1++[(i:Int)]).length < N - s.1.length
     rw[AX,Au]
     omega) wN ([],(b:Int)) ⟨b,rfl,.nil,λ_ h=>(nomatch h),λj hj=>.inr hj,λ_ h=>h⟩ (by show N - 0 < wN;unfold wN;lia)
 refine⟨t,?_,?_⟩
 ·rw[e]
  rfl
 ·obtain⟨c,uN,h1,h2,h3,h4⟩:=hI
  have c0:c=0:=by
   have hc:=By hc
   have:(c:Int)=0:=by rw[<-uN];simpa using hc
   lia
  subst c0;refine⟨h1,λx=>⟨λhx=>⟨(h2 x hx).1,(h2 x hx).2.2.1⟩,λ⟨x0,hx⟩=>?_⟩⟩
  rcases h3 x.toNat hx with h | h
  ·rwa [BR x0]at h
  ·simp at h
open PySem L2 L4
open Srt (ltL)
theorem Mq:∀{l k:ZLi},l.Pairwise (· < ·)->k.Pairwise (· < ·)->(∀x,x∈l↔x∈k)->l=k
 | [],[],_,_,_=>rfl
 | [],y :: k,_,_,h=>zX ((h y).mpr (Af ..)) MA
 | x :: l,[],_,_,h=>zX ((h x).mp (Af ..)) MA
 | x :: l,y :: k,hl,hk,h=>by
  have h1:=Ju.mp hl;have h2:=Ju.mp hk
  have e:x=y:=by
   rcases Ap.mp ((h x).mp (Af ..))with a | a
   ·exact a
   ·rcases Ap.mp ((h y).mpr (Af ..))with b | b
    ·exact b.symm
    ·have:=h2.1 x a
     have:=h1.1 y b
     lia
  subst e
  congr 1
  refine Mq h1.2 h2.2 λz=>⟨λhz=>?_,λhz=>?_⟩
  ·rcases Ap.mp ((h z).mp (AY _ hz))with a | a
   ·have:=h1.1 z hz;lia
   ·exact a
  ·rcases Ap.mp ((h z).mpr (AY _ hz))with a | a
   ·have:=h2.1 z hz;lia
   ·exact a
def Ye:ZLi->List ZLi
 | []=>[[]]
 | x :: l=>(Ye l).map (x :: ·)++Ye l
theorem NA(P:Int->Bool):∀l:ZLi,l.filter P∈Ye l
 | []=>by simp[Ye]
 | x :: l=>by
  unfold Ye;rw[List.filter_cons];split
  ·exact BM _ (BO.mpr ⟨_,NA P l,rfl⟩)
  ·exact BY _ (NA P l)
def sts(o g:Nat):List ZLi:=(IW o g).getD []
def Stg(o g:Nat)(r:ZLi):Prop:=r.length=g/\(∀x∈r,0<=x/\x < (o:Int))/\r.Pairwise (· < ·)
theorem nT:∀o:Nat,o < 8->∀g:Nat,g < 8->g<=o->1<=g->decide (Ft (o,[]) g=some (sts o g)/\IW o g=some (sts o g)/\sts o g≠[]/\(sts o g).length<=35)=true:=by decide +kernel
theorem Nz(o:Nat)(ho:o < 8)(g:Nat)(h8:g < 8)(hg:g<=o)(h1:1<=g):Ft (o,[]) g=some (sts o g)/\IW o g=some (sts o g)/\sts o g≠[]/\(sts o g).length<=35:=of_decide_eq_true (nT o ho g h8 hg h1)
theorem nS:∀o:Nat,o < 8->∀g:Nat,g < 8->g<=o->1<=g->decide (∀r∈sts o g,r.length=g/\(∀x∈r,0<=x/\x < (o:Int))/\r.Pairwise (· < ·))=true:=by decide +kernel
theorem rY(o:Nat)(ho:o < 8)(g:Nat)(h8:g < 8)(hg:g<=o)(h1:1<=g):∀r∈sts o g,r.length=g/\(∀x∈r,0<=x/\x < (o:Int))/\r.Pairwise (· < ·):=of_decide_eq_true (nS o ho g h8 hg h1)
theorem nR:∀o:Nat,o < 8->∀g:Nat,g < 8->g<=o->1<=g->decide ((sts o g).Pairwise (λa b=>ltL a b=true)/\∀l∈Ye (DW 0 o),l.length=g->l∈sts o g)=true:=by decide +kernel
theorem lr(o:Nat)(ho:o < 8)(g:Nat)(h8:g < 8)(hg:g<=o)(h1:1<=g):(sts o g).Pairwise (λa b=>ltL a b=true)/\∀l∈Ye (DW 0 o),l.length=g->l∈sts o g:=of_decide_eq_true (nR o ho g h8 hg h1)
section
variable{o g:Nat}{us:List ZPi}{r:ZLi}
theorem bP(ho:o < 8)(hg:g<=o)(h1:1<=g):Ft (o,us) g=some (sts o g):=(show Ft (o,us) g=Ft (o,[]) g from rfl).trans (Nz o ho g (by lia) hg h1).1
theorem GK(ho:o < 8)(hg:g<=o)(h1:1<=g):r∈sts o g↔Stg o g r:=by
 have a:=rY o ho g (by lia) hg h1;have b:=(lr o ho g (by lia) hg h1).2;refine⟨a r,λ⟨l,q,p⟩=>?_⟩
 have e:r=(DW 0 o).filter λx=>decide (x∈r):=Mq p ((RT 0 o).filter _) λx=>by
  rw[An,CO,decide_eq_true_eq];exact⟨λh=>⟨⟨(q x h).1,by have:=(q x h).2;lia⟩,h⟩,λh=>h.2⟩
 have:=b _ (NA (λx=>decide (x∈r)) (DW 0 o)) (by rw[<-e];exact l);rwa [<-e]at this
theorem Yf(ho:o < 8)(hg:g<=o)(h1:1<=g):(sts o g).Nodup:=by
 have a:=(lr o ho g (by lia) hg h1).1
 exact a.imp λ{a b} ab e=>by
  subst e;rw[Xj]at ab;cases ab
end
theorem Ui(h:ev[i]?=some r):(De ev).take (i+1)=(De ev).take i++[((i:Int),r)]:=by
 rw[Ff]
 congr 1
 unfold De;rw[Ak,Im,h];simp
theorem sU{ev:List ZLi}(hn:ev.Nodup){i:Nat}{r:ZLi}(h:ev[i]?=some r):Ai (nuF ev) r=some (i:Int):=by
 have key:∀k:Nat,k<=ev.length->∀(j:Nat) (s:ZLi),j < k->ev[j]?=some s->Ai (((De ev).take k).foldl nuS []) s=some (j:Int):=by
  intro k
  induction k with
  | zero=>intro _ j s hj;exact zX hj (NR _)
  | succ k ih=>
   intro hk j s hj hs;have uY:ev[k]?=some (ev[k]'(by lia)):=AU (by lia);rw[Ui uY,Hk];show Ai (CG _ _ _) s=_;rw[C9]
   by_cases e:j=k
   ·subst e
    rw[uY]at hs;cases hs;rw[qX rfl]
   ·rw[qY,ih (by lia) j s (by lia) hs]
    intro c;obtain⟨vZ,e2⟩:=AE.mp hs;rw[<-e2]at c;exact U2.mp hn j k vZ (by lia) (by lia) c
 have:=key ev.length (AL _) i r (AE.mp h).1 h;rwa [Cr (by unfold De;simp)]at this
def Hb(H:ZLi)(n:Nat)(P:Nat->Nat->Prop):Prop:=H.length=n/\∀p:Nat,p < n->∃h:Nat,H[p]?=some (h:Int)/\∀j,h.testBit j=true↔P p j
theorem gB{n k:Nat}:∀(r:ZLi) {H:ZLi} {P:Nat->Nat->Prop},(∀x∈r,0<=x/\x < (n:Int))->Hb H n P->Hb (r.foldl (hvP (k:Int)) H) n (λp j=>P p j∨((p:Int)∈r/\j=k))
 | [],H,P,_,h=>⟨h.1,λp hp=>by
  obtain⟨b,h1,h2⟩:=h.2 p hp
  exact⟨b,h1,λj=>by rw[h2];simp⟩⟩
 | x :: r,H,P,hr,h=>by
  obtain⟨x0,x1⟩:=hr x (Af ..)
  have h1:Hb (hvP (k:Int) H x) n (λp j=>P p j∨((p:Int)=x/\j=k)):=by
   refine⟨by unfold hvP;rw[D5];exact h.1,λp hp=>?_⟩;obtain⟨b,b1,b2⟩:=h.2 p hp;unfold hvP;rw[DU]
   by_cases c:x.toNat=p
   ·rw[qX c,qX (by rw[h.1];lia)]
    refine⟨b ||| 2 ^ k,?_,λj=>?_⟩
    ·rw[Bx,c,b1,QY,As,show(1:Int) * 2 ^ k=((2 ^ k:Nat):Int) by rw[t9];norm_cast,Vr]
    ·rw[U0,JH,b2,Jr]
     rw[decide_eq_true_eq]
     have:(p:Int)=x:=by lia
     exact or_congr_right ⟨λe=>⟨this,e.symm⟩,λe=>e.2.symm⟩
   ·rw[qY c]
    refine⟨b,b1,λj=>?_⟩;rw[b2]
    have:¬(p:Int)=x:=by lia
    exact⟨.inl,λz=>z.elim id λz=>zX z.1 this⟩
  have h2:=gB (k:=k) r (λy hy=>hr y (AY _ hy)) h1;refine⟨h2.1,λp hp=>?_⟩;obtain⟨b,b1,b2⟩:=h2.2 p hp;refine⟨b,b1,λj=>(b2 j).trans ?_⟩;dsimp only;rw[Ap]
  constructor
  ·rintro((a | ⟨a,e⟩) | ⟨a,e⟩)
   ·exact .inl a
   ·exact .inr ⟨.inl a,e⟩
   ·exact .inr ⟨.inr a,e⟩
  ·rintro(a | ⟨a | a,e⟩)
   ·exact .inl (.inl a)
   ·exact .inl (.inr ⟨a,e⟩)
   ·exact .inr ⟨a,e⟩
theorem tG{n:Nat}{ev:List ZLi}(hr:∀r∈ev,∀x∈r,0<=x/\x < (n:Int)):Hb (hvF n ev) n (λp j=>∃r,ev[j]?=some r/\(p:Int)∈r):=by
 have key:∀k:Nat,k<=ev.length->Hb (((De ev).take k).foldl hvS (hv0 n)) n (λp j=>j < k/\∃r,ev[j]?=some r/\(p:Int)∈r):=by
  intro k
  induction k with
  | zero=>
   intro _;refine⟨by unfold hv0;rw[lb,UH,AF,CN],λp hp=>⟨0,?_,λj=>by simp⟩⟩;unfold hv0;rw[lb,UH,Ak,AU (by rw[CN];exact hp)];rfl
  | succ k ih=>
   intro hk;have uY:ev[k]?=some (ev[k]'(by lia)):=AU (by lia);rw[Ui uY,Hk];have h1:=gB (k:=k) ev[k] (hr _ (Ct _)) (ih (by lia));refine⟨h1.1,λp hp=>?_⟩;obtain⟨b,b1,b2⟩:=h1.2 p hp;refine⟨b,b1,λj=>(b2 j).trans ?_⟩
   constructor
   ·rintro(⟨a,q⟩ | ⟨a,rfl⟩)
    ·exact⟨by lia,q⟩
    ·exact⟨by lia,_,uY,a⟩
   ·rintro⟨a,r,q1,q2⟩
    by_cases e:j=k
    ·subst e
     rw[uY]at q1;cases q1;exact .inr ⟨q2,rfl⟩
    ·exact .inl ⟨by lia,r,q1,q2⟩
 have:=key ev.length (AL _);rw[Cr (by unfold De;simp)]at this;refine⟨this.1,λp hp=>?_⟩;obtain⟨b,b1,b2⟩:=this.2 p hp;refine⟨b,b1,λj=>(b2 j).trans ?_⟩;exact⟨λh=>h.2,λ⟨r,h1,h2⟩=>⟨(AE.mp h1).1,r,h1,h2⟩⟩
theorem Ox(h:l.Nodup):(B2 l).Pairwise (· < ·):=(UJ (SC l) ((Eo l).nodup_iff.mpr h)).imp λ⟨a,b⟩=>by lia
theorem db{s:ZLi}(h:s.Pairwise (· < ·)):s.Nodup:=h.imp λh=>by lia
def wst(r:ZLi)(a b:Int):ZLi:=r.map λx=>if x=a then b else x
theorem qy(hl:r.length<=1000)(a b:Int):J7 r a b=some (wst r a b):=by
 unfold J7 J4
 rw[GR (f:=λx=>if x=a then b else x) (by lia) λx _=>by
  by_cases c:x=a
  ·rw[wX c,qX rfl,qX c]
  ·rw[wY c,qY AK,qY c]]
 rfl
theorem VJ(ha:a∈r):x∈wst r a b↔x=b∨(x∈r/\x≠a):=by
 unfold wst;rw[BO]
 constructor
 ·rintro⟨y,hy,rfl⟩
  split
  ·exact .inl rfl
  ·rename_i c;exact .inr ⟨hy,c⟩
 ·rintro(rfl | ⟨h,c⟩)
  ·exact⟨a,ha,qX rfl⟩
  ·exact⟨x,h,qY c⟩
theorem mZ(hn:r.Nodup)(hb:b∉r):(wst r a b).Nodup:=by
 unfold wst IZ;rw[Cf]
 refine hn.imp_of_mem λ{x y} hx hy ne=>?_
 split <;> split
 ·rename_i c d;exact zX (c.trans d.symm) ne
 ·intro e;exact hb (by rw[e];exact hy)
 ·intro e;exact hb (by rw[<-e];exact hx)
 ·exact ne
structure Fk(o g:Nat)(us:List ZPi)(kd:Str)(f:Fp):Prop where
 ev:f.ev=sts o g
 kd:f.kd=kd
 tk:f.tk=tkl o us
 nu:f.nu=nuF (sts o g)
 hv:f.hv=hvF o (sts o g)
 pl:f.pb.length=(sts o g).length
 pb:∀(i:Nat) (r:ZLi),(sts o g)[i]?=some r->∃n:Nat,f.pb[i]?=some (n:Int)/\n < 128/\∀x:Int,0<=x->x < 7->(n.testBit x.toNat=true↔x∈r)
section
variable{o g:Nat}{us:List ZPi}{kd:Str}{f:Fp}{r r':ZLi}{i:Nat}
theorem k9(h:L5 o us)(hg:g<=o)(h1:1<=g):Ok (Lc (o,us) g kd) (Fk o g us kd):=by
 have sm:=h.sm
 have hb:∀r∈sts o g,∃n:Nat,G2 r=some (n:Int)/\n < 128/\∀x:Int,0<=x->x < 7->(n.testBit x.toNat=true↔x∈r):=λr hr=>by
  obtain⟨-,q,-⟩:=(GK sm hg h1).mp hr
  obtain⟨v,e,n,rfl,b1,b2⟩:=qC (l:=r) λx hx=>by have:=q x hx;lia
  exact⟨n,e,b1,λx x0 x7=>by rw[b2 x.toNat (by lia),BR x0]⟩
 obtain⟨-,-,-,hl⟩:=Nz o sm g (by lia) hg h1;unfold Lc;rw[bP sm hg h1,jN h];simp only[AB]
 rw[GR (f:=λr=>(G2 r).getD 0) (by lia) λr hr=>by
  obtain⟨n,e,-⟩:=hb r hr;rw[e]
  rfl]
 simp only[AB];rw[qX ⟨by lia,by show o<=1000;lia,λr hr x hx=>((GK sm hg h1).mp hr).2.1 x hx⟩];refine⟨_,rfl,rfl,rfl,rfl,rfl,rfl,AF _,λi r hr=>?_⟩;obtain⟨n,e,b1,b2⟩:=hb r (BL hr);refine⟨n,?_,b1,b2⟩;show((sts o g).map _)[i]?=_;rw[Ak,hr];show some ((G2 r).getD 0)=_;rw[e];rfl
def Lk1(us:List ZPi)(r r':ZLi):Prop:=∃a∈r,∃b∈Tg us a,b∉r/\B2 (wst r a b)=r'
def LkA(us:List ZPi)(r r':ZLi):Prop:=∃s,InS us r (·∈r') s
theorem Zh(h:L5 o us){a b:Int}(hr:Stg o g r)(ha:a∈r)(hb:b∈Tg us a)(hbr:b∉r):Stg o g (B2 (wst r a b)):=by
 obtain⟨l,q,p⟩:=hr;have qa:=q a ha;have qb:=(h.tg qa.1 qa.2).2.1 b hb;refine⟨by rw[(Eo _).length_eq];unfold wst;rw[AF];exact l,λx hx=>?_,Ox (mZ (db p) hbr)⟩
 rcases(VJ ha).mp (Ei.mp hx)with rfl | ⟨h,_⟩
 ·exact qb
 ·exact q x h
theorem TJ(h:l[i]?=some x):atI l (i:Int)=some x:=IC (by lia) (by rw[As];exact h)
theorem gz{b n:Nat}{P:Nat->Prop}(hb:∀j,b.testBit j=true↔P j)(j:Nat):(b ||| 2 ^ n).testBit j=true↔P j∨n=j:=by
 rw[U0,JH,hb,Jr,decide_eq_true_eq]
theorem Oy{n:Nat}(h:n<=1000000):Oz 1 (n:Int)=some ((2 ^ n:Nat):Int):=by
 unfold Oz;rw[qX ⟨by lia,by lia,by decide⟩,As,t9]
 norm_cast
theorem sP(h:L5 o us)(hg:g<=o)(h1:1<=g)(F:Fk o g us kd f)(hr:(sts o g)[i]?=some r):Ok (ET f i) λv=>∃l:Nat,v=l/\∀j,l.testBit j=true↔∃r',(sts o g)[j]?=some r'/\Lk1 us r r':=by
 have sm:=h.sm;have hS:=(GK sm hg h1).mp (BL hr);obtain⟨-,-,-,hl⟩:=Nz o sm g (by lia) hg h1;unfold ET ER;rw[F.ev,TJ hr];simp only[AB,BH];refine OkF.out (OkF.seq (OkF.for (λpre (s:Int)=>∃l:Nat,s=l/\∀j,l.testBit j=true↔∃r',(sts o g)[j]?=some r'/\∃a∈pre,∃b∈Tg us a,b∉r/\B2 (wst r a b)=r') ⟨0,rfl,λj=>by simp⟩ ?_) ?_)
 ·rintro pre a s ha hp ⟨l,rfl,hl1⟩
  have qa:=hS.2.1 a ha;rw[F.tk,lj qa.1 qa.2];simp only[AB];refine OkF.map (N:=λs:Int=>∃l:Nat,s=l/\∀j,l.testBit j=true↔∃r',(sts o g)[j]?=some r'/\((∃a∈pre,∃b∈Tg us a,b∉r/\B2 (wst r a b)=r')∨∃b∈Tg us a,b∉r/\B2 (wst r a b)=r')) (OkF.for (λzk (s:Int)=>∃l:Nat,s=l/\∀j,l.testBit j=true↔∃r',(sts o g)[j]?=some r'/\((∃a∈pre,∃b∈Tg us a,b∉r/\B2 (wst r a b)=r')∨∃b∈zk,b∉r/\B2 (wst r a b)=r')) ⟨l,rfl,λj=>by rw[hl1];simp⟩ ?_) ?_
  ·rintro zk b s hb wZ ⟨l,rfl,vy⟩
   by_cases c:b∈r
   ·rw[wX c]
    refine .nx ⟨l,rfl,λj=>(vy j).trans ⟨λ⟨r',e,z⟩=>⟨r',e,z.imp id λ⟨b,hb,z⟩=>⟨b,BM _ hb,z⟩⟩,λ⟨r',e,z⟩=>⟨r',e,z.imp id λ⟨b',uf,z⟩=>?_⟩⟩⟩
    rcases A9.mp uf with q | q
    ·exact⟨b',q,z⟩
    ·rw[Aa.mp q]at z
     exact zX c z.1
   ·rw[wY c]
    have hw:=Zh h hS ha hb c;obtain⟨k,hk,ek⟩:=C2 ((GK sm hg h1).mpr hw)
    have Ϛ:(sts o g)[k]?=some (B2 (wst r a b)):=by rw[AU hk,ek]
    simp only[UK,if_true];rw[qy (by rw[hS.1];lia)];simp only[AB];rw[F.nu,sU (Yf sm hg h1) Ϛ];simp only[AB];rw[Oy (by lia)];simp only[AB];rw[Vr];refine .nx ⟨_,rfl,λj=>(gz vy j).trans ⟨?_,?_⟩⟩
    ·rintro(⟨r',e,z⟩ | rfl)
     ·exact⟨r',e,z.imp id λ⟨b,hb,z⟩=>⟨b,BM _ hb,z⟩⟩
     ·exact⟨_,Ϛ,.inr ⟨b,by simp,c,rfl⟩⟩
    ·rintro⟨r',e,z | ⟨b',uf,z1,z2⟩⟩
     ·exact .inl ⟨r',e,.inl z⟩
     ·rcases A9.mp uf with q | q
      ·exact .inl ⟨r',e,.inr ⟨b',q,z1,z2⟩⟩
      ·right
       rw[Aa.mp q]at z2;rw[<-z2,<-Ϛ]at e;exact(cx hk (Yf sm hg h1)).mp e.symm
  ·rintro s ⟨l,rfl,vy⟩
   refine⟨l,rfl,λj=>(vy j).trans ⟨λ⟨r',e,z⟩=>⟨r',e,?_⟩,λ⟨r',e,a',yZ,z⟩=>⟨r',e,?_⟩⟩⟩
   ·rcases z with⟨a',yZ,z⟩ | z
    ·exact⟨a',BM _ yZ,z⟩
    ·exact⟨a,by simp,z⟩
   ·rcases A9.mp yZ with q | q
    ·exact .inl ⟨a',q,z⟩
    ·rw[Aa.mp q]at z
     exact .inr z
 ·rintro s ⟨l,rfl,hl1⟩
  exact .rt ⟨l,rfl,hl1⟩
theorem cO{α:Type}{ev:List α}{pre:List (Int×α)}{x:Int×α}(h:pre++[x] <+: De ev):∃r,ev[pre.length]?=some r/\x=((pre.length:Int),r):=by
 obtain⟨t,ht⟩:=h
 have hx:(De ev)[pre.length]?=some x:=by rw[<-ht,Bu];simp
 unfold De at hx;rw[Ak,Im]at hx
 cases hr:ev[pre.length]? with
 | none=>rw[hr]at hx;cases hx
 | some r=>rw[hr]at hx;exact⟨r,rfl,by have:=By hx;rw[<-this];simp⟩
theorem tT(h:L5 o us)(hg:g<=o)(h1:1<=g)(F:Fk o g us kd f)(hr:(sts o g)[i]?=some r):Ok (EU f i) λv=>∃l:Nat,v=l/\∀j,l.testBit j=true↔∃r',(sts o g)[j]?=some r'/\LkA us r r':=by
 have sm:=h.sm;have hS:=(GK sm hg h1).mp (BL hr);obtain⟨-,-,-,hl⟩:=Nz o sm g (by lia) hg h1;unfold EU ES;rw[F.ev,TJ hr];simp only[AB,BH];refine OkF.out (OkF.seq (OkF.for (λpre (s:Int)=>∃l:Nat,s=l/\∀j,l.testBit j=true↔j < pre.length/\∃r',(sts o g)[j]?=some r'/\LkA us r r') ⟨0,rfl,λj=>by simp⟩ ?_) ?_)
 ·rintro pre x s hx hp ⟨l,rfl,hl1⟩
  obtain⟨n',e1,rfl⟩:=cO hp
  have uw:pre.length < (sts o g).length:=by rw[<-F.pl];exact(AE.mp e1).1
  have er:(sts o g)[pre.length]?=some ((sts o g)[pre.length]):=AU uw;generalize (sts o g)[pre.length]=r' at er;have ϛ:=(GK sm hg h1).mp (BL er);obtain⟨n,e2,n1,n2⟩:=F.pb _ _ er;rw[e1]at e2;cases e2;obtain⟨b,eb,hb⟩:=pq h n1 (rest:=r) hS.2.1 (db hS.2.2);rw[F.tk];dsimp only;rw[eb];simp only[AB]
  have uf:b=true↔LkA us r r':=by
   rw[hb]
   refine exists_congr λs=>⟨λq=>q.imp λx hx=>?_,λq=>?_⟩
   ·intro z
    have:=InS.rg h hS.2.1 q x hx;exact(n2 x this.1 (by lia)).mp z
   ·refine q.imp λx _ z=>?_
    have:=ϛ.2.1 x z;exact(n2 x this.1 (by lia)).mpr z
  have up:∀j,(j < (pre++[((pre.length:Int),(n:Int))]).length/\∃r',(sts o g)[j]?=some r'/\LkA us r r')↔(j < pre.length/\∃r',(sts o g)[j]?=some r'/\LkA us r r')∨(pre.length=j/\LkA us r r'):=λj=>by
   rw[AX,Au]
   constructor
   ·rintro⟨a,s,q1,q2⟩
    by_cases e:pre.length=j
    ·subst e
     rw[er]at q1;cases q1;exact .inr ⟨rfl,q2⟩
    ·exact .inl ⟨by lia,s,q1,q2⟩
   ·rintro(⟨a,q⟩ | ⟨rfl,q⟩)
    ·exact⟨by lia,q⟩
    ·exact⟨by lia,r',er,q⟩
  cases b with
  | true=>
   have hL:=uf.mp rfl;rw[qX rfl,Oy (by lia)];simp only[AB];rw[Vr];exact .nx ⟨_,rfl,λj=>(gz hl1 j).trans (Iff.trans ⟨λz=>z.imp id λe=>⟨e,hL⟩,λz=>z.imp id λe=>e.1⟩ (up j).symm)⟩
  | false=>
   have hL:¬LkA us r r':=λz=>by cases uf.mpr z
   exact .nx ⟨l,rfl,λj=>(hl1 j).trans (Iff.trans ⟨.inl,λz=>z.elim id λe=>zX e.2 hL⟩ (up j).symm)⟩
 ·rintro s ⟨l,rfl,hl1⟩
  refine .rt ⟨l,rfl,λj=>(hl1 j).trans ⟨λz=>z.2,λ⟨r',e,z⟩=>⟨?_,r',e,z⟩⟩⟩;rw[show(De f.pb).length=f.pb.length by unfold De;simp,F.pl];exact(AE.mp e).1
def Lk(kd:Str)(us:List ZPi)(r r':ZLi):Prop:=if kd = "one" then Lk1 us r r' else LkA us r r'
theorem fV(h:L5 o us)(hg:g<=o)(h1:1<=g)(F:Fk o g us kd f)(hr:(sts o g)[i]?=some r):Ok (Fu f i) λv=>∃l:Nat,v=l/\∀j,l.testBit j=true↔∃r',(sts o g)[j]?=some r'/\Lk kd us r r':=by
 have sm:=h.sm;obtain⟨-,-,-,hl⟩:=Nz o sm g (by lia) hg h1;have hi:=(AE.mp hr).1;unfold Fu Lb;rw[qX ⟨by lia,by lia⟩,F.kd]
 by_cases c:kd = "one"
 ·rw[wX c,qX rfl,show Lk kd us r=Lk1 us r from funext λ_=>qX c]
  exact sP h hg h1 F hr
 ·rw[wY c,qY AK,show Lk kd us r=LkA us r from funext λ_=>qY c]
  exact tT h hg h1 F hr
theorem g9(h:L5 o us)(hg:g<=o)(h1:1<=g)(F:Fk o g us kd f)(hr:(sts o g)[i]?=some r){c:Int}(hc:0<=c/\c < o):Ok (Fv f i c) λv=>∃l:Nat,v=l/\∀j,l.testBit j=true↔∃r',(sts o g)[j]?=some r'/\Lk kd us r r'/\c∈r':=by
 obtain⟨v,e,l,rfl,hl⟩:=fV h hg h1 F hr
 obtain⟨-,hv⟩:=tG (n:=o) (ev:=sts o g) λr hr x hx=>((GK h.sm hg h1).mp hr).2.1 x hx
 obtain⟨b,b1,b2⟩:=hv c.toNat (by lia);unfold Fv HJ;dsimp only;rw[e,F.hv,IC hc.1 b1];simp only[AB];rw[Rh];refine⟨_,rfl,_,rfl,λj=>?_⟩;rw[TZ,DJ,hl,b2];dsimp only;rw[BR hc.1];exact⟨λ⟨⟨r',e1,q1⟩,r'',e2,q2⟩=>by rw[e1]at e2;cases e2;exact⟨r',e1,q1,q2⟩,λ⟨r',e1,q1,q2⟩=>⟨⟨r',e1,q1⟩,r',e1,q2⟩⟩
theorem lI(h:L5 o us)(F:Fk o g us kd f)(hr:(sts o g)[i]?=some r):Gn f i=some ((DW 0 o).filter λc=>!decide (c∈r)):=by
 have sm:=h.sm;unfold Gn IL;rw[F.ev,TJ hr,F.tk,show(tkl o us).length=o by unfold tkl;rw[AF,CN]];simp only[AB,BH];rw[J3 (by lia) (by lia),As];simp only[AB];rw[F9 (P:=λc=>!decide (c∈r)) (by rw[CN];lia) λ_ _=>rfl];rfl
end
open PySem L2 L4
structure Dl(f:Fp)(N:Nat)(cl:Nat->ZLi)(B:Nat->Int->Nat->Prop):Prop where
 ln:f.ev.length=N
 sm:N<=400
 cs:∀n,n < N->Gn f n=some (cl n)/\(cl n).length<=1000/\(cl n).Pairwise (· < ·)
 bh:∀n,n < N->∀c∈cl n,Ok (Fv f n c) λv=>∃l:Nat,v=l/\∀j,l.testBit j=true↔B n c j
 rg:∀n c j,B n c j->j < N
abbrev TL:=List (Int×ZPi)
structure Fa(N:Nat)(cl:Nat->ZLi)(B:Nat->Int->Nat->Prop)(T:TL):Prop where
 nd:(T.map (·.1)).Nodup
 rg:∀n∈T.map (·.1),0<=n/\n < (N:Int)
 ok:∀(m:Nat) z,Ai T (m:Int)=some z->1<=z.1/\z.2∈cl m/\(∀j,B m z.2 j->∃y,Ai T (j:Int)=some y/\y.1 < z.1)/\(∀c∈cl m,c < z.2->∃j,B m c j/\∀y,Ai T (j:Int)=some y->z.1<=y.1)/\(2<=z.1->∀c∈cl m,∃j,B m c j/\∀y,Ai T (j:Int)=some y->z.1<=y.1+1)
 no:∀m:Nat,m < N->Ai T (m:Int)=none->∀c∈cl m,∃j,B m c j/\Ai T (j:Int)=none
 hi:∀(m:Nat) z,Ai T (m:Int)=some z->z.1<=N
section
variable{f:Fp}{N:Nat}{cl:Nat->ZLi}{B:Nat->Int->Nat->Prop}{b:Nat}
def RE(B:Nat->Int->Nat->Prop)(b m:Nat)(c:Int):Prop:=∀j,B m c j->b.testBit j=false
def Fst(cl:Nat->ZLi)(B:Nat->Int->Nat->Prop)(b m:Nat)(c:Int):Prop:=c∈cl m/\RE B b m c/\∀c'∈cl m,c' < c->¬RE B b m c'
theorem Sb(h:¬RE B b m c):∃j,B m c j/\b.testBit j=true:=RJ λz=>h λj hj=>by
 cases hb:b.testBit j with
 | false=>rfl
 | true=>exact zX ⟨j,hj,hb⟩ z
theorem hW:(a &&& b)=0↔∀j,a.testBit j=true->b.testBit j=false:=by
 constructor
 ·intro h j hj
  have:t7 (a &&& b) j=t7 0 j:=by rw[h]
  rw[TZ,hj,WZ,iQ]at this;exact this
 ·intro h
  refine Nat.eq_of_testBit_eq λj=>?_
  rw[TZ,iQ]
  cases ha:a.testBit j with
  | false=>rfl
  | true=>rw[h j ha];rfl
def FN(cl:Nat->ZLi)(B:Nat->Int->Nat->Prop)(b:Nat)(K:List ZPi):Prop:=(K.map (·.1)).Nodup/\(∀n∈K.map (·.1),0<=n/\b.testBit n.toNat=true)/\∀(m:Nat) c,Ai K (m:Int)=some c↔b.testBit m=true/\Fst cl B b m c
theorem ZO(hb:b < 2 ^ N)(h:b.testBit i=true):i < N:=iT λhle=>by
 have h0:b.testBit i=false:=YK (AV hb (Ir (by decide) hle));rw[h0]at h;cases h
theorem PL{α:Type}{K:List (Int×α)}(h1:(K.map (·.1)).Nodup)(h2:∀n∈K.map (·.1),0<=n/\n < (N:Int)):K.length<=N:=by
 have:=Jb (k:=DW 0 N) h1 λx hx=>by rw[CO];have:=h2 x hx;lia
 rwa [CN,AF]at this
open Classical in
theorem Ug(D:Dl f N cl B)(hb:b < 2 ^ N):Ok (Ep f (b:Int)) (FN cl B b):=by
 obtain⟨l,e,lu,lm⟩:=UY hb (by have:=D.sm;lia)
 have hlN:∀x∈l,0<=x/\x < (N:Int):=λx hx=>by
  obtain⟨x0,hx⟩:=(lm x).mp hx;have:=ZO hb hx
  lia
 unfold Ep IJ;rw[e];simp only[AB,BH];refine OkF.out (OkF.seq (OkF.for (λpre (s:List ZPi)=>(s.map (·.1)).Nodup/\(∀n∈s.map (·.1),n∈pre)/\∀(m:Nat) c,Ai s (m:Int)=some c↔(m:Int)∈pre/\Fst cl B b m c) ⟨by simp,λ_ h=>h,λm c=>⟨λh=>(nomatch h),λh=>(nomatch h.1)⟩⟩ ?_) ?_)
 ·rintro pre x s hx hp ⟨s1,s2,s3⟩
  obtain⟨x0,hxb⟩:=(lm x).mp hx
  obtain⟨m,rfl⟩:∃m:Nat,x=m:=⟨x.toNat,by lia⟩
  rw[As]at hxb;have hm:=ZO hb hxb;obtain⟨c1,c2,c3⟩:=D.cs m hm
  have hxp:(m:Int)∉pre:=by
   have:=lu.sublist hp.sublist;rw[BU]at this;intro z;have:=this.2.2 _ z _ (Wi _)
   lia
  rw[c1];simp only[AB]
  rw[F9 (P:=λc=>decide (RE B b m c)) (by lia) λc hc=>by
   obtain⟨v,e1,q,rfl,hq⟩:=D.bh m hm c hc;rw[e1];simp only[AB];rw[Rh]
   congr 1
   refine decide_eq_decide.mpr ?_;rw[show((q &&& b:Nat):Int)=0↔(q &&& b)=0 by lia,hW]
   exact forall_congr' λj=>imp_congr_left (hq j)]
  simp only[AB,BH]
  have fl:∀c,c∈(cl m).filter (λc=>decide (RE B b m c))↔c∈cl m/\RE B b m c:=λc=>by rw[An,decide_eq_true_eq]
  have fu:((cl m).filter λc=>decide (RE B b m c)).Pairwise (· < ·):=c3.filter _;generalize (cl m).filter (λc=>decide (RE B b m c))=lost at fl fu
  cases lost with
  | nil=>
   have nf:∀c,¬Fst cl B b m c:=λc ⟨h1,h2,_⟩=>nomatch (fl c).mpr ⟨h1,h2⟩
   refine .nx ⟨s1,λn hn=>BM _ (s2 n hn),λk c=>(s3 k c).trans ⟨λ⟨a,q⟩=>⟨BM _ a,q⟩,λ⟨a,q⟩=>⟨?_,q⟩⟩⟩
   rcases A9.mp a with a | a
   ·exact a
   ·have e:k=m:=by have:=Aa.mp a;lia
    subst e;exact zX q (nf c)
  | cons c0 lost=>
   have f0:Fst cl B b m c0:=by
    obtain⟨h1,h2⟩:=(fl c0).mp (Af ..);refine⟨h1,h2,λc' h3 h4 h5=>?_⟩
    rcases Ap.mp ((fl c').mpr ⟨h3,h5⟩)with h | h
    ·lia
    ·have:=(Ju.mp fu).1 c' h;lia
   have f1:∀c,Fst cl B b m c↔c=c0:=λc=>⟨by
    rintro ⟨h1,h2,h3⟩
    rcases Int.lt_trichotomy c c0 with h | h | h
    ·exact zX h2 (f0.2.2 c h1 h)
    ·exact h
    ·exact zX f0.2.1 (h3 c0 f0.1 h),λh=>by rw[h];exact f0⟩
   have za:s.length<=N:=PL s1 λn hn=>hlN n ((List.sublist_append_left pre [(m:Int)]).trans hp.sublist |>.subset (s2 n hn))
   have hN:=D.sm;rw[show(!(c0 :: lost).isEmpty)=true from rfl,qX rfl,show atI (c0 :: lost) 0=some c0 from IC (by decide) rfl];simp only[AB];rw[show Gy s (m:Int) c0=some (CG s (m:Int) c0)from qX (by lia)];refine .nx ⟨?_,λn hn=>?_,λk c=>?_⟩
   ·rw[HQ]
    split
    ·exact s1
    ·rename_i hk
     exact Fg.mpr ⟨s1,by simp,λy hy z hz=>by rw[Aa.mp hz];intro e;subst e;exact hk hy⟩
   ·rw[HQ]at hn
    split at hn
    ·exact BM _ (s2 n hn)
    ·rcases A9.mp hn with h | h
     ·exact BM _ (s2 n h)
     ·exact BY _ h
   ·rw[C9]
    by_cases e:(k:Int)=m
    ·have e':k=m:=by lia
     subst e';rw[qX rfl,f1];exact⟨λh=>⟨by simp,(By h).symm⟩,λh=>by rw[h.2]⟩
    ·rw[qY e,s3]
     refine and_congr_left λ_=>⟨BM _,λh=>?_⟩
     rcases A9.mp h with h | h
     ·exact h
     ·exact zX (Aa.mp h) e
 ·rintro s ⟨s1,s2,s3⟩
  refine .rt ⟨s1,λn hn=>(lm n).mp (s2 n hn),λm c=>(s3 m c).trans (and_congr_left λ_=>?_)⟩;rw[lm];exact⟨λh=>by rw[As]at h;exact h.2,λh=>⟨by lia,by rw[As];exact h⟩⟩
structure Rnd(N:Nat)(cl:Nat->ZLi)(B:Nat->Int->Nat->Prop)(s:TL×Int×Int×List ZPi)(b:Nat):Prop where
 lf:s.2.1=b
 lt:b < 2 ^ N
 bt:∀j,b.testBit j=true↔j < N/\Ai s.1 (j:Int)=none
 st:1<=s.2.2.1
 nd:(s.1.map (·.1)).Nodup
 rg:∀n∈s.1.map (·.1),0<=n/\n < (N:Int)
 ok:∀(m:Nat) z,Ai s.1 (m:Int)=some z->z.1 < s.2.2.1/\1<=z.1/\z.2∈cl m/\(∀j,B m z.2 j->∃y,Ai s.1 (j:Int)=some y/\y.1 < z.1)/\(∀c∈cl m,c < z.2->∃j,B m c j/\∀y,Ai s.1 (j:Int)=some y->z.1<=y.1)/\(2<=z.1->∀c∈cl m,∃j,B m c j/\∀y,Ai s.1 (j:Int)=some y->z.1<=y.1+1)
 mn:2<=s.2.2.1->∀m:Nat,m < N->Ai s.1 (m:Int)=none->∀c∈cl m,∃j,B m c j/\∀y,Ai s.1 (j:Int)=some y->s.2.2.1<=y.1+1
 fn:FN cl B b s.2.2.2
 sl:s.2.2.1<=s.1.length+1
theorem Xk{l:ZLi}{P:Int->Prop}(h:∃c∈l,P c):∃c∈l,P c/\∀c'∈l,c' < c->¬P c':=by
 induction l with
 | nil=>obtain⟨c,h,_⟩:=h;cases h
 | cons x l ih=>
  by_cases hl:∃c∈l,P c
  ·obtain⟨c,h1,h2,h3⟩:=ih hl
   by_cases hx:P x/\x < c
   ·exact⟨x,Af ..,hx.1,λc' h4 h5 h6=>by
     rcases Ap.mp h4 with h | h
     ·lia
     ·exact h3 c' h (by lia) h6⟩
   ·exact⟨c,AY _ h1,h2,λc' h4 h5 h6=>by
     rcases Ap.mp h4 with h | h
     ·exact hx ⟨by rw[<-h];exact h6,by omega⟩
     ·exact h3 c' h h5 h6⟩
  ·obtain⟨c,h1,h2⟩:=h
   rcases Ap.mp h1 with h | h
   ·subst h
    exact⟨c,Af ..,h2,λc' h4 h5 h6=>by
     rcases Ap.mp h4 with h | h
     ·omega
     ·exact hl ⟨c',h,h6⟩⟩
   ·exact zX ⟨c,h,h2⟩ hl
theorem jd(D:Dl f N cl B)(h:Rnd N cl B s b)(um:s.2.2.2≠[]) :
  ∃s' b',BF (Er (s.2.2.2.map (·.1)) (s.1,s.2.1) λ(vj:TL×Int) uV=>BF (((Ai s.2.2.2 uV).bind λuZ=>some (s.2.2.1,uZ)).bind λwu=>(Gy vj.1 uV wu).bind λwO=>some (.nx wO)) λvm=>Dx (λxo=>(vm,xo)) ((Oz (1:Int) uV).bind λvJ=>some (.nx (Ew vj.2 vJ)))) (λvR=>BF (some (.nx (s.2.2.1+(1:Int)))) λvn=>Dx (λym=>(vR.1,vR.2,vn,ym)) ((Ep f vR.2).bind λxZ=>some (.nx xZ)))=some (.nx (ρ:=TL) s')/\Rnd N cl B s' b'/\s.1.length < s'.1.length:=by
 obtain⟨T,left,uD,K⟩:=s;obtain⟨lf,lt,bt,st,nd,rg,ok,mn,fn,sl⟩:=h;dsimp only at lf bt st nd rg ok mn fn um sl ⊢;subst lf;have hN:=D.sm;obtain⟨k1,k2,k3⟩:=fn
 have kN:∀n∈K.map (·.1),0<=n/\n < (N:Int):=λn hn=>by
  obtain⟨a,q⟩:=k2 n hn;have:=ZO lt q
  lia
 have kT:∀n∈K.map (·.1),Ai T n=none:=λn hn=>by
  obtain⟨a,q⟩:=k2 n hn;have:=((bt _).mp q).2;rwa [BR a]at this
 obtain⟨⟨T',left'⟩,e,t1,t2,t3,b',rfl,b1,b2⟩:=PX (ρ:=TL) (l:=K.map (·.1)) (s0:=(T,(b:Int))) (q:=λ(vj:TL×Int) uV=>BF (((Ai K uV).bind λuZ=>some (uD,uZ)).bind λwu=>(Gy vj.1 uV wu).bind λwO=>some (.nx wO)) λvm=>Dx (λxo=>(vm,xo)) ((Oz (1:Int) uV).bind λvJ=>some (.nx (Ew vj.2 vJ))))
  (λpre s=>(s.1.map (·.1)).Nodup/\(∀n∈s.1.map (·.1),0<=n/\n < (N:Int))/\(∀n,Ai s.1 n=if n∈pre then(Ai K n).map λc=>(uD,c)else Ai T n)/\∃b':Nat,s.2=b'/\b' < 2 ^ N/\∀j:Nat,b'.testBit j=true↔b.testBit j=true/\(j:Int)∉pre)
  ⟨nd,rg,λn=>by simp,b,rfl,lt,λj=>by simp⟩ (by
   rintro pre x ⟨T',left'⟩ hx hp ⟨t1,t2,t3,b',rfl,b1,b2⟩;dsimp only at t1 t2 t3 ⊢;obtain⟨x0,xN⟩:=kN x hx;obtain⟨-,xb⟩:=k2 x hx
   have xp:x∉pre:=by
    have:=k1.sublist hp.sublist;unfold IZ at this;rw[BU]at this
    exact λz=>this.2.2 _ z _ (Wi _) rfl
   obtain⟨c,hc⟩:=CZ.mp ((DH K x).mpr hx);have hl:=PL t1 t2;rw[hc];simp only[AB];rw[show Gy T' x (uD,c)=some (CG T' x (uD,c))from qX (by lia)];simp only[AB,BH];rw[show x=((x.toNat:Nat):Int) by lia,Oy (by lia)];simp only[AB];rw[ig,<-show x=((x.toNat:Nat):Int) by lia];refine⟨_,rfl,?_,λn hn=>?_,λn=>?_,_,rfl,Nat.xor_lt_two_pow b1 (Nat.pow_lt_pow_right (by decide) (by lia)),λj=>?_⟩
   ·rw[HQ]
    split
    ·exact t1
    ·rename_i hk
     exact Fg.mpr ⟨t1,by simp,λy hy z hz=>by rw[Aa.mp hz];intro e;subst e;exact hk hy⟩
   ·rw[HQ]at hn
    split at hn
    ·exact t2 n hn
    ·rcases A9.mp hn with h | h
     ·exact t2 n h
     ·rw[Aa.mp h];exact⟨x0,xN⟩
   ·rw[C9]
    by_cases e:n=x
    ·subst e
     rw[qX rfl,qX (by simp),hc];rfl
    ·rw[qY e,t3]
     have:n∈pre++[x]↔n∈pre:=by rw[A9,Aa];exact⟨λz=>z.elim id λz=>zX z e,.inl⟩
     simp only[this]
   ·rw[Nat.testBit_xor,Jr,bne_iff_ne,ne_eq,A9,Aa]
    have uf:=b2 j
    by_cases e:x.toNat=j
    ·subst e
     rw[wX rfl];have:b'.testBit x.toNat=true:=(b2 _).mpr ⟨xb,by rw[BR x0];exact xp⟩;rw[this];refine⟨λz=>zX rfl z,λz=>zX (.inr (by lia)) z.2⟩
    ·rw[wY e]
     have:¬(j:Int)=x:=by lia
     rw[Bool.not_eq_false,uf]
     exact and_congr_right λ_=>⟨λz q=>q.elim z this,λz q=>z (.inl q)⟩)
 rw[e];simp only[BH];dsimp only at t1 t2 t3;obtain⟨K',eK,hK⟩:=Ug D b1;rw[eK]
 have tv:∀n,Ai T' n=match Ai K n with | some c=>some (uD,c) | none=>Ai T n:=λn=>by
  rw[t3]
  by_cases h:n∈K.map (·.1)
  ·rw[qX h]
   obtain⟨c,hc⟩:=CZ.mp ((DH K n).mpr h);rw[hc];rfl
  ·rw[qY h]
   cases hc:Ai K n with
   | none=>rfl
   | some c=>exact zX ((DH K n).mp (by rw[hc];rfl)) h
 have told:∀n z,Ai T n=some z->Ai T' n=some z:=λn z hz=>by
  rw[tv]
  cases hc:Ai K n with
  | none=>exact hz
  | some c=>
   have:=kT n ((DH K n).mp (by rw[hc];rfl));rw[this]at hz;cases hz
 have wd:∀n z,Ai T' n=some z->Ai T n=some z∨(Ai T n=none/\z.1=uD):=λn z hz=>by
  rw[tv]at hz
  cases hc:Ai K n with
  | none=>rw[hc]at hz;exact .inl hz
  | some c=>
   rw[hc]at hz;cases hz;exact .inr ⟨kT n ((DH K n).mp (by rw[hc];rfl)),rfl⟩
 have bt':∀j,b'.testBit j=true↔j < N/\Ai T' (j:Int)=none:=λj=>by
  rw[b2,bt,tv]
  constructor
  ·rintro⟨⟨h1,h2⟩,h3⟩
   refine⟨h1,?_⟩
   cases hc:Ai K (j:Int)with
   | none=>exact h2
   | some c=>exact zX ((DH K _).mp (by rw[hc];rfl)) h3
  ·rintro⟨h1,h2⟩
   cases hc:Ai K (j:Int)with
   | none=>rw[hc]at h2;exact⟨⟨h1,h2⟩,λz=>by have:=(DH K _).mpr z;rw[hc]at this;cases this⟩
   | some c=>rw[hc]at h2;cases h2
 have up:∀(j:Nat) (r:Int),r<=uD->(∀y,Ai T (j:Int)=some y->r<=y.1)->∀y,Ai T' (j:Int)=some y->r<=y.1:=λj r hr h y hy=>by
  rcases wd _ _ hy with h1 | ⟨_,h2⟩
  ·exact h y h1
  ·lia
 have hlen:T.length < T'.length:=by
  cases K with
  | nil=>exact zX rfl um
  | cons x K=>
   have hx:=kT x.1 (Af ..);have hn:((x.1:Int) :: T.map (·.1)).Nodup:=Bt.mpr ⟨λz=>AK (by have:=(DH T _).mpr z;rw[hx]at this;exact this),nd⟩
   have:=Jb (k:=T'.map (·.1)) hn λy hy=>by
    rw[<-DH]
    rcases Ap.mp hy with h | h
    ·subst h
     rw[tv];obtain⟨c,hc⟩:=CZ.mp ((DH (x :: K) x.1).mpr (Af ..));rw[hc];rfl
    ·obtain⟨z,hz⟩:=CZ.mp ((DH T y).mpr h)
     rw[told _ _ hz];rfl
   rw[BB,AF,AF]at this
   lia
 refine⟨(T',(b':Int),uD+1,K'),b',rfl,⟨rfl,b1,bt',by show 1<=uD+1;lia,t1,t2,λm z hz=>?_,λ_ m hm hz c hc=>?_,hK,by show uD+1<=(T'.length:Int)+1;lia⟩,hlen⟩
 ·dsimp only at hz ⊢
  rcases wd _ _ hz with h1 | ⟨h1,h2⟩
  ·obtain⟨o1,o2,o3,o4,o5,o6⟩:=ok m z h1
   refine⟨by lia,o2,o3,λj hj=>?_,λc hc uw=>?_,λh2 c hc=>?_⟩
   ·obtain⟨y,y1,y2⟩:=o4 j hj
    exact⟨y,told _ _ y1,y2⟩
   ·obtain⟨j,j1,j2⟩:=o5 c hc uw
    exact⟨j,j1,up j z.1 (by lia) j2⟩
   ·obtain⟨j,j1,j2⟩:=o6 h2 c hc
    refine⟨j,j1,λy hy=>?_⟩;have:=up j (z.1 - 1) (by lia) (λy hy=>by have:=j2 y hy;lia) y hy
    lia
  ·obtain⟨r,c⟩:=z
   have hc:Ai K (m:Int)=some c:=by
    have:=tv (m:Int);rw[hz]at this
    cases hc:Ai K (m:Int)with
    | none=>rw[hc,h1]at this;cases this
    | some c'=>rw[hc]at this;cases this;rfl
   dsimp only at h2;subst h2;obtain⟨f0,f1,f2,f3⟩:=(k3 m c).mp hc;refine⟨by dsimp only;lia,st,f1,λj hj=>?_,λc' uN uw=>?_,λh2 c' uN=>?_⟩
   ·have hjN:=D.rg _ _ _ hj
    cases hv:Ai T (j:Int)with
    | none=>
     have:=(bt j).mpr ⟨hjN,hv⟩;rw[f2 j hj]at this;cases this
    | some y=>exact⟨y,told _ _ hv,(ok j y hv).1⟩
   ·obtain⟨j,j1,j2⟩:=Sb (f3 c' uN uw)
    refine⟨j,j1,λy hy=>?_⟩
    rcases wd _ _ hy with q | ⟨_,q⟩
    ·rw[((bt j).mp j2).2]at q;cases q
    ·dsimp only;lia
   ·obtain⟨j,j1,j2⟩:=mn h2 m ((bt m).mp f0).1 h1 c' uN
    refine⟨j,j1,λy hy=>?_⟩
    rcases wd _ _ hy with q | ⟨_,q⟩
    ·exact j2 y q
    ·dsimp only;lia
 ·dsimp only at hz ⊢
  obtain⟨h1,h2⟩:=(b2 m).mp ((bt' m).mpr ⟨hm,hz⟩)
  have nl:¬RE B b m c:=λhl=>by
   obtain⟨c0,q1,q2,q3⟩:=Xk (P:=RE B b m) ⟨c,hc,hl⟩;have:=(k3 m c0).mpr ⟨h1,q1,q2,q3⟩;exact h2 ((DH K _).mp (by rw[this];rfl))
  obtain⟨j,j1,j2⟩:=Sb nl;refine⟨j,j1,λy hy=>?_⟩
  rcases wd _ _ hy with q | ⟨_,q⟩
  ·rw[((bt j).mp j2).2]at q;cases q
  ·lia
theorem gb(D:Dl f N cl B):Ok (Mv f) (Fa N cl B):=by
 have hN:=D.sm;unfold Mv O2;rw[D.ln,Oy (by lia)];simp only[AB,BH];have hp:0 < 2 ^ N:=lX N;rw[show((2 ^ N:Nat):Int) - 1=((2 ^ N - 1:Nat):Int) by omega]
 have lt:2 ^ N - 1 < 2 ^ N:=by omega
 obtain⟨K,eK,hK⟩:=Ug D lt;rw[eK];simp only[AB,BH];have R0:Rnd N cl B ([],((2 ^ N - 1:Nat):Int),1,K) (2 ^ N - 1):=⟨rfl,lt,λj=>by rw[Nat.testBit_two_pow_sub_one,decide_eq_true_eq];exact⟨λh=>⟨h,rfl⟩,λh=>h.1⟩,uA 1,EX,λ_ h=>(nomatch h),λm z h=>(nomatch h),λh=>zX (show(2:Int)<=1 from h) (by decide),hK,uA 1⟩
 obtain⟨s',e,⟨b,h⟩,hc⟩:=YN (ρ:=TL) (c:=λ(uM:TL×Int×Int×(List ZPi))=>some (!uM.2.2.2.isEmpty)) (q:=λ(s:TL×Int×Int×(List ZPi))=>BF (Er (s.2.2.2.map (·.1)) (s.1,s.2.1) λ(vj:TL×Int) uV=>BF (((Ai s.2.2.2 uV).bind λuZ=>some (s.2.2.1,uZ)).bind λwu=>(Gy vj.1 uV wu).bind λwO=>some (.nx wO)) λvm=>Dx (λxo=>(vm,xo)) ((Oz (1:Int) uV).bind λvJ=>some (.nx (Ew vj.2 vJ)))) (λvR=>BF (some (.nx (s.2.2.1+(1:Int)))) λvn=>Dx (λym=>(vR.1,vR.2,vn,ym)) ((Ep f vR.2).bind λxZ=>some (.nx xZ)))) (λs=>∃b,Rnd N cl B s b) (λs=>N - s.1.length) (by
   rintro s ⟨b,h⟩
   cases hk:s.2.2.2 with
   | nil=>left;rfl
   | cons x K=>
    right
    obtain⟨s',b',e1,e2,e3⟩:=jd D h (by rw[hk];exact λz=>nomatch z);rw[hk]at e1;refine⟨rfl,s',e1,⟨b',e2⟩,?_⟩;have:=PL e2.nd e2.rg;show N - s'.1.length < N - s.1.length
    omega) wN _ ⟨_,R0⟩ (by show N - 0 < wN;unfold wN;lia)
 simp only[BH]at e;rw[e];refine⟨s'.1,rfl,?_⟩
 have hk:s'.2.2.2=[]:=by
  have:=By hc
  cases hk:s'.2.2.2 with
  | nil=>rfl
  | cons x K=>rw[hk]at this;cases this
 obtain⟨lf,lt,bt,st,nd,rg,ok,mn,fn,sl⟩:=h;refine⟨nd,rg,λm z hz=>(ok m z hz).2,λm hm hz c hc=>?_,λm z hz=>by have:=(ok m z hz).1;have:=PL nd rg;lia⟩;have hb:=(bt m).mpr ⟨hm,hz⟩
 have nl:¬RE B b m c:=λhl=>by
  obtain⟨c0,q1,q2,q3⟩:=Xk (P:=RE B b m) ⟨c,hc,hl⟩;have:=(fn.2.2 m c0).mpr ⟨hb,q1,q2,q3⟩;rw[hk]at this;cases this
 obtain⟨j,j1,j2⟩:=Sb nl;exact⟨j,j1,((bt j).mp j2).2⟩
end
theorem bO(l:ZLi)(x:Int):Ow (l++[x])=Ow l+x:=by
 rw[Vd,Vd,List.sum_append];simp
theorem jR(P:Int->Bool):∀n:Nat,∃b:Nat,Ow (((DW 0 n).filter P).map λx=>((2 ^ x.toNat:Nat):Int))=b/\b < 2 ^ n/\∀j,b.testBit j=true↔j < n/\P (j:Int)=true:=by
 intro n
 induction n with
 | zero=>exact⟨0,rfl,by decide,λj=>by simp⟩
 | succ n ih=>
  obtain⟨b,h1,h2,h3⟩:=ih
  have e:DW 0 (n+1)=DW 0 n++[(n:Int)]:=by
   unfold DW;rw[Mb,Ca];simp
  rw[e,Qp]
  by_cases hp:P (n:Int)=true
  ·rw[qX hp,Ca,List.map_singleton,bO,h1,As]
   refine⟨b+2 ^ n,by lia,by rw[Qs];lia,λj=>?_⟩;have ho:=Nat.two_pow_add_eq_or_of_lt h2 1;rw[Nat.mul_one]at ho;rw[Nat.add_comm,ho,U0,Jr,JH,decide_eq_true_eq,h3]
   constructor
   ·rintro(rfl | ⟨a,q⟩)
    ·exact⟨by lia,hp⟩
    ·exact⟨by lia,q⟩
   ·rintro⟨a,q⟩
    by_cases e:n=j
    ·exact .inl e
    ·exact .inr ⟨by lia,q⟩
  ·rw[qY hp]
   refine⟨b,h1,by rw[Qs];lia,λj=>(h3 j).trans ⟨λ⟨a,q⟩=>⟨by lia,q⟩,λ⟨a,q⟩=>⟨?_,q⟩⟩⟩
   by_cases e:j=n
   ·subst e;exact zX q hp
   ·lia
section
variable{f:Fp}{N:Nat}{cl:Nat->ZLi}{B:Nat->Int->Nat->Prop}{T:TL}
theorem cY(D:Dl f N cl B):∃b:Nat,HN f T=some (b:Int)/\b < 2 ^ N/\∀j,b.testBit j=true↔j < N/\Ai T (j:Int)=none:=by
 have hN:=D.sm;obtain⟨b,h1,h2,h3⟩:=jR (λx=>!(Ai T x).isSome) N;refine⟨b,?_,h2,λj=>(h3 j).trans (and_congr_right λ_=>by cases Ai T (j:Int) <;> simp)⟩;unfold HN HG;rw[D.ln];simp only[AB];rw[J3 (by lia) (by lia),As];simp only[AB]
 rw[Pb (P:=λx=>!(Ai T x).isSome) (f:=λx=>((2 ^ x.toNat:Nat):Int)) (by rw[CN];lia) (λ_ _=>rfl) λx hx _=>by
  obtain⟨x0,x1⟩:=CO.mp hx
  conv=>lhs;rw[show x=((x.toNat:Nat):Int) by lia]
  exact Oy (by lia)]
 simp only[AB];rw[h1];rfl
theorem kW(F:Fa N cl B T):B2 (T.map (·.1))=(DW 0 N).filter λn=>(Ai T n).isSome:=Mq (Ox F.nd) ((RT 0 N).filter _) λx=>by
 rw[Ei,An,DH,CO];exact⟨λh=>⟨by have:=F.rg x h;lia,h⟩,λh=>h.2⟩
end
def evN(o g:Nat)(n:Int):ZLi:=(sts o g).getD n.toNat []
def clS(o g:Nat)(n:Nat):ZLi:=(DW 0 o).filter λc=>!decide (c∈evN o g n)
def BS(o g:Nat)(us:List ZPi)(kd:Str)(n:Nat)(c:Int)(j:Nat):Prop:=∃r r',(sts o g)[n]?=some r/\(sts o g)[j]?=some r'/\Lk kd us r r'/\c∈r'
section
variable{o g:Nat}{us:List ZPi}{kd:Str}{f:Fp}{T:TL}
theorem OT{n:Nat}{r:ZLi}(h:(sts o g)[n]?=some r):evN o g n=r:=by
 unfold evN;rw[As,Bx,h];rfl
theorem tP(h:L5 o us)(hg:g<=o)(h1:1<=g)(F:Fk o g us kd f):Dl f (sts o g).length (clS o g) (BS o g us kd):=by
 have sm:=h.sm;obtain⟨-,-,-,hl⟩:=Nz o sm g (by lia) hg h1;refine⟨by rw[F.ev],by lia,λn hn=>?_,λn hn c hc=>?_,λn c j ⟨r,r',_,e,_⟩=>(AE.mp e).1⟩
 ·have hr:=AU hn
  refine⟨?_,?_,(RT 0 o).filter _⟩
  ·rw[lI h F hr]
   unfold clS;rw[OT hr]
  ·have:=Ce (λc=>!decide (c∈evN o g n)) (DW 0 o)
   rw[CN]at this;unfold clS
   lia
 ·have hr:=AU hn
  unfold clS at hc;obtain⟨h2,-⟩:=An.mp hc;obtain⟨c0,c1⟩:=CO.mp h2
  refine(g9 h hg h1 F hr (c:=c) ⟨c0,by lia⟩).imp λv ⟨l,e,hl⟩=>⟨l,e,λj=>(hl j).trans ⟨λ⟨r',q⟩=>⟨_,r',hr,q⟩,λ⟨r,r',q1,q⟩=>?_⟩⟩
  rw[hr]at q1;cases q1;exact⟨r',q⟩
theorem p0(h:L5 o us)(hg:g<=o)(h1:1<=g):∃T:TL,Fa (sts o g).length (clS o g) (BS o g us kd) T /\
  NZ (o,us) g kd=some (((DW 0 (sts o g).length).filter λn=>!(Ai T n).isSome).map (evN o g)) /\
  RV (o,us) g kd=some (((DW 0 (sts o g).length).filter λn=>(Ai T n).isSome).map λn=>(evN o g n,(Ai T n).getD (0,0))):=by
 have sm:=h.sm;obtain⟨-,-,-,hl⟩:=Nz o sm g (by lia) hg h1;obtain⟨f,ef,F⟩:=k9 (kd:=kd) h hg h1;have D:=tP h hg h1 F;obtain⟨T,eT,hT⟩:=gb D
 have at':∀n∈DW 0 (sts o g).length,atI f.ev n=some (evN o g n):=λn hn=>by
  obtain⟨n0,n1⟩:=CO.mp hn;have hr:=AU (l:=sts o g) (i:=n.toNat) (by lia);rw[F.ev,IC n0 hr]
  congr 1
  have:=OT hr;rw[BR n0]at this;exact this.symm
 refine⟨T,hT,?_,?_⟩
 ·obtain⟨b,e1,b1,b2⟩:=cY (T:=T) D
  obtain⟨l,e2,l1,l2⟩:=UY b1 (by lia)
  have el:l=(DW 0 (sts o g).length).filter λn=>!(Ai T n).isSome:=Mq l1 ((RT 0 _).filter _) λx=>by
   rw[l2,An,CO,b2]
   constructor
   ·rintro⟨x0,a,q⟩
    rw[BR x0]at q;exact⟨⟨x0,by lia⟩,by rw[q];rfl⟩
   ·rintro⟨⟨x0,a⟩,q⟩
    refine⟨x0,by lia,?_⟩;rw[BR x0]
    cases hv:Ai T x with
    | none=>rfl
    | some z=>rw[hv]at q;cases q
  unfold NZ NX;simp only[AB];rw[ef];simp only[AB,BH];rw[eT];simp only[AB];rw[e1];simp only[AB];rw[e2];simp only[AB];rw[el,GR (f:=evN o g) (by have:=Ce (λn=>!(Ai T n).isSome) (DW 0 (sts o g).length);rw[CN]at this;lia) λn hn=>at' n (An.mp hn).1];rfl
 ·unfold RV RU
  simp only[AB];rw[ef];simp only[AB,BH];rw[eT];simp only[AB,BH]
  rw[kW hT,GR (f:=λn=>(evN o g n,(Ai T n).getD (0,0))) (by have:=Ce (λn=>(Ai T n).isSome) (DW 0 (sts o g).length);rw[CN]at this;lia) λn hn=>by
   obtain⟨h1,h2⟩:=An.mp hn;rw[at' n h1];obtain⟨z,hz⟩:=CZ.mp h2;rw[hz]
   rfl]
  rfl
end
open PySem L2 L4
open Srt (ltL)
theorem Se:z∈DO us x↔((x:Int),z)∈us∨(z,(x:Int))∈us:=by
 rw[<-Yy];exact Ei.symm
theorem UW:∀{us:List ZPi},us.Nodup->(∀t∈us,t.1 < t.2)->(DO us x).Nodup
 | [],_,_=>EX
 | t :: us,h,h1=>by
  have ih:=UW (x:=x) (Bt.mp h).2 λs hs=>h1 s (AY _ hs)
  have nt:=(Bt.mp h).1;have lt:=h1 t Af
  have e:DO (t :: us) x=((if t.1=(x:Int)then[t.2]else[])++(if t.2=(x:Int)then[t.1]else[]))++DO us x:=by
   unfold DO;rw[Kl]
  rw[e]
  have lt':∀a b:Int,(a,b)∈us->a < b:=λa b hm=>h1 _ (AY _ hm)
  by_cases c1:t.1=(x:Int)
  ·rw[qX c1,qY (by lia),CB]
   show(t.2 :: DO us x).Nodup;rw[Bt];refine⟨λz=>?_,ih⟩
   rcases Se.mp z with z | z
   ·rw[<-c1]at z;exact nt z
   ·have:=lt' _ _ z;lia
  ·rw[qY c1,iW]
   by_cases c2:t.2=(x:Int)
   ·rw[qX c2]
    show(t.1 :: DO us x).Nodup;rw[Bt];refine⟨λz=>?_,ih⟩
    rcases Se.mp z with z | z
    ·have:=lt' _ _ z;lia
    ·rw[<-c2]at z;exact nt z
   ·rw[qY c2];exact ih
section
variable{o:Nat}{ts:List ZPi}
theorem Kf.ties(h:Kf o ts)(ho:o < 8):L5 o (Gj ts):=by
 have rg:∀g:Int,0<=g->g < o->∀x∈nr (Gj ts) g.toNat,0<=x/\x < o/\x≠g:=λg h0 h1 x hx=>by
  rw[Yy,h.mem,h.mem,BR h0]at hx
  rcases hx with hx | hx
  ·have:0<=g/\g < x/\x < o:=h.rg _ hx;lia
  ·have:0<=x/\x < g/\g < o:=h.rg _ hx;lia
 have nd:∀g:Int,0<=g->g < o->(nr (Gj ts) g.toNat).Nodup:=λg _ _=>by
  refine(Eo _).nodup_iff.mpr (UW ?_ λt ht=>?_)
  ·rw[(P1 ts).nodup_iff,h.nrm];exact h.nd
  ·exact(h.rg t (h.mem.mp ht)).2.1
 refine⟨ho,λg h0 h1=>?_,rg,nd⟩;have n2:(g :: nr (Gj ts) g.toNat).Nodup:=Bt.mpr ⟨λz=>(rg g h0 h1 g z).2.2 rfl,nd g h0 h1⟩
 have:=Jb (k:=DW 0 o) n2 λx hx=>by
  rw[CO]
  rcases Ap.mp hx with rfl | hx
  ·lia
  ·have:=rg g h0 h1 x hx;lia
 rw[CN,BB]at this
 lia
theorem o0(h:Kf o ts)(y:Int):(lnr ts y).Nodup:=by
 unfold lnr IZ;rw[Cf]
 refine(h.nd.filter _).imp_of_mem λ{a b} ha uf ne e=>ne ?_
 obtain⟨a1,a2⟩:=An.mp ha;obtain⟨b1,b2⟩:=An.mp uf;have a2:=of_decide_eq_true a2;have b2:=of_decide_eq_true b2;have ra:=h.rg a a1;have rb:=h.rg b b1;simp only[Ap,MA,or_false]at a2 b2
 refine UF ?_ ?_ <;> omega
theorem nU(h:Kf o ts)(g:Int):([g]++B2 (lnr ts g)).Nodup:=by
 show(g :: B2 (lnr ts g)).Nodup;rw[Bt,(Eo _).nodup_iff,Ei,aB];refine⟨λz=>?_,o0 h g⟩
 rcases z with z | z <;> (have:=h.rg _ z;lia)
theorem jV(h:Kf o ts)(h0:0<=g):x∈[g]++B2 (lnr ts g)↔x∈Tg (Gj ts) g:=by
 rw[TM,h.near h0];simp
structure Rw(us:List ZPi)(gs:ZLi)(s:List ZLi):Prop where
 mem:∀r,r∈s↔r.length=gs.length/\r.Nodup/\∀y∈gs.zip r,y.2∈Tg us y.1
 nd:s.Nodup
 ln:s.length<=7 ^ gs.length
theorem Yj(h:r.length=n+1):∃t p,r=t++[p]/\t.length=n:=by
 have um:r≠[]:=λz=>by rw[z]at h;cases h
 exact⟨r.dropLast,r.getLast um,(List.dropLast_concat_getLast um).symm,by rw[List.length_dropLast,h];rfl⟩
theorem Sd:(t++[p]).Nodup↔t.Nodup/\p∉t:=by
 unfold IZ;rw[BU]
 constructor
 ·rintro⟨a,-,c⟩
  exact⟨a,λz=>c p z p (by simp) rfl⟩
 ·rintro⟨a,b⟩
  exact⟨a,by simp,λx hx y hy e=>b (by rw[Aa.mp hy]at e;rw[<-e];exact hx)⟩
def lnx(v:ZLi)(r:ZLi):List ZLi:=(v.filter λp=>!decide (p∈r)).map λp=>r++[p]
theorem RY:t∈lnx v r↔∃p,t=r++[p]/\p∈v/\p∉r:=by
 unfold lnx;rw[BO]
 constructor
 ·rintro⟨p,hp,rfl⟩
  obtain⟨p1,p2⟩:=An.mp hp;exact⟨p,rfl,p1,by simpa using p2⟩
 ·rintro⟨p,rfl,p1,p2⟩
  exact⟨p,An.mpr ⟨p1,by simpa using p2⟩,rfl⟩
theorem aA:(lnx v r).length<=v.length:=by
 unfold lnx;rw[AF];exact Ce _ _
theorem Sg(hv:v.length<=7):∀L:List ZLi,(L.flatMap (lnx v)).length<=7 * L.length
 | []=>by simp
 | t :: L=>by
  rw[Kl,AX,BB];have:=Sg hv L;have:=aA (v:=v) (r:=t)
  lia
theorem Rw.step(h:Rw us gs s)(hv:∀x,x∈v↔x∈Tg us g)(hn:v.Nodup)(hl:v.length<=7):Rw us (gs++[g]) (s.flatMap (lnx v)):=by
 refine⟨λr=>?_,?_,?_⟩
 ·rw[iD]
  constructor
  ·rintro⟨t,ht,hr⟩
   obtain⟨p,rfl,p1,p2⟩:=RY.mp hr;obtain⟨a,b,c⟩:=(h.mem t).mp ht;refine⟨by rw[AX,AX,a];rfl,Sd.mpr ⟨b,p2⟩,λy hy=>?_⟩;rw[iU a.symm]at hy
   rcases A9.mp hy with hy | hy
   ·exact c y hy
   ·rw[Ph,cj,Aa]at hy
    rw[hy];exact(hv p).mp p1
  ·rintro⟨a,b,c⟩
   rw[AX,Au]at a;obtain⟨t,p,rfl,ht⟩:=Yj a;obtain⟨b1,b2⟩:=Sd.mp b;rw[iU ht.symm]at c;refine⟨t,(h.mem t).mpr ⟨ht,b1,λy hy=>c y (BM _ hy)⟩,RY.mpr ⟨p,rfl,(hv p).mpr (c (g,p) (BY _ (by simp))),b2⟩⟩
 ·unfold IZ
  rw[List.pairwise_flatMap];refine⟨λt _=>?_,h.nd.imp λ{a b} ne x hx y hy e=>?_⟩
  ·unfold lnx
   rw[Cf]
   refine(hn.filter _).imp λ{a b} ne e=>ne ?_
   simpa using e
  ·obtain⟨p,rfl,_⟩:=RY.mp hx
   obtain⟨q,rfl,_⟩:=RY.mp hy;exact ne (List.append_inj' e rfl).1
 ·have:=Sg hl s
  have:=h.ln;rw[AX,Au,Qs]
  lia
end
open PySem L2 L4
def Fs(BZ:(List ZPi))(Az:ZLi)(Eg:Int)(Be:Str):Option (Fw (List ZLi) Unit):=
 BF (if (decide (Be=("one" : Str)))=true then BF ((((some (Az.length:Int)).bind MK).bind λl15=>D3 l15 (λx5=>((((atI Az x5).bind λyi=>some (yi,())).bind λwL=>some (BZ,wL)).bind λwb=>IX wb.1 wb.2.1).bind λx7=>some (decide (Eg∈x7))) (λx5=>some x5)).bind λvh=>some (.nx vh)) λv3=>((D3 v3 (λwa=>some true) (λwa=>(((some (Eg :: [])).bind FP).bind λϙ=>NE (Nr Az none (some wa)) ϙ).bind λwM=>NE wM (Nr Az (some (wa+(1:Int))) none))).bind SE).bind λvJ=>some (.rt vJ)else some (.nx ())) λ_=>BF (((((some []).bind FP).bind λx41=>some (x41 :: [])).bind FP).bind λxS=>some (.nx xS)) λvn=>BF (Er Az vn λ(zg:(List ZLi)) yn=>BF ((((some (yn :: [])).bind FP).bind λy0=>(IX BZ yn).bind λxj=>NE y0 xj).bind λzm=>some (.nx zm)) λxq=>BF (((some []).bind FP).bind λwy=>some (.nx wy)) λϜ=>BF (Er zg Ϝ λ(s59:(List ZLi)) ϝ=>Dx (λv61=>v61) ((D3 xq (λzo=>some (!decide (zo∈ϝ))) (λzo=>((some (zo :: [])).bind FP).bind λzp=>NE ϝ zp)).bind λϞ=>(NE s59 Ϟ).bind λl63=>some (.nx l63))) λs73=>Dx (λ_=>s73) (some (.nx ()))) λzY=>((D3 zY (λzq=>some (decide (Eg∈zq))) (λzq=>some zq)).bind SE).bind λx83=>some (.rt x83)
def Dk(BZ:(List ZPi))(Az:ZLi)(Eg:Int)(Be:Str):Option (List ZLi):=GM (Fs BZ Az Eg Be)
theorem Mg(W:Wd)(BZ:(List ZPi))(Az:ZLi)(Eg:Int)(Be:Str):VF (HY W) [.z ((oL (eP D.int D.int)) BZ),.v ((eT D.int) Az),.v (D.int Eg),.v (D.str Be)] (rN (oL (eT D.int))) (Dk BZ Az Eg Be):=by
 refine EZ (n:=10) (b:=Jm W) (p:=Fs BZ Az Eg Be) (B:=λ_=>[]) ?_;show VS [.z ((oL (eP D.int D.int)) BZ),.v ((eT D.int) Az),.v (D.int Eg),.v (D.str Be),.u,.u,.u,.u,.u,.u] _ _ _ _;unfold Jm Fs;exact(BA (Fj (B:=(λ(_:Unit)=>[.z ((oL (eP D.int D.int)) BZ),.v ((eT D.int) Az),.v (D.int Eg),.v (D.str Be),.u,.u,.u,.u,.u,.u])) (Gi (Nx aV fH (AI rfl) (CQ rfl))) (BA (EO (CD (Ck (VI.k (Dr (jA (AI rfl)))) (λx5=>(Gi (nB Dh (AI rfl) (Fn (B9 (Kq (DI rfl) (Cu (VW (AI rfl) (AI rfl)) CF)) (λwb=>Qi W wb.1 wb.2.1) (λ_=>rfl) Gm))))) (λx5=>(AI rfl))))) (λv3=>(Ej (Wu (Fn (CD (Ck (VI.k (Jy rfl)) (λwa=>GJ) (λwa=>(NV (NV (Zm (AI rfl) VQ (RN (AI rfl))) (LJ (Ek (AI rfl) DV))) (Zm (AI rfl) (RN (GZ (AI rfl) (CQ rfl))) VQ)))))))))) (GV (.refl _))) (λ_=>(BA (EO (CD (DN (Ek (LJ DV) DV)))) (λvn=>(BA (EJ (s0:=vn) (B:=(λ(ϟ:(List ZLi))=>[.z ((oL (eP D.int D.int)) BZ),.v ((eT D.int) Az),.v (D.int Eg),.v (D.str Be),.u,.y ((oL (eT D.int)) ϟ),.u,.u,.u,.u])) (Pv (AI rfl)) Dg (.refl _) (λzg yn=>(BA (EO (Zn (Fn (CD (DN (Ek (AI rfl) DV)))) (Fn (B9 (Kq (DI rfl) (Cu (AI rfl) CF)) (λz53=>Qi W z53.1 z53.2.1) (λ_=>rfl) Gm)))) (λxq=>(BA (Gu (CD (DN DV))) (λϜ=>(BA (EJ (s0:=Ϝ) (B:=(λ(s74:(List ZLi))=>[.z ((oL (eP D.int D.int)) BZ),.v ((eT D.int) Az),.v (D.int Eg),.v (D.str Be),.u,.y ((oL (eT D.int)) zg),.v (D.int yn),.y ((oL D.int) xq),.w 8 ((oL (eT D.int)) s74),.u])) (Jy rfl) Dg (.refl _) (λs59 ϝ=>(Cp (dB rfl (CD (Ck (VI.k (Jy rfl)) (λzo=>(Gi (RO Dh (AI rfl) (AI rfl)))) (λzo=>(NV (AI rfl) (LJ (Ek (AI rfl) DV)))))) rfl) (λv61=>(.same (.same (.same (.same (.same (.same (.same (.same (.same (.drop .nil)))))))))))))) (λs73=>(Cp (YO 8 rfl rfl (Pu rfl)) (λ_=>(.same (.same (.same (.same (.same (.same (.drop (.drop (.drop (.same .nil)))))))))))))))))))) (λzY=>(Ej (Wu (Fn (CD (Ck (VI.k (Jy rfl)) (λzq=>(Gi (m9 Dh (AI rfl) (AI rfl)))) (λzq=>(AI rfl)))))))))))))
def Iv(Ay:ZLi)(JE:Int)(Ke:Int):Option (Fw ZLi Unit):=
 BF ((((some ((Ay.length:Int) - JE)).bind λx6=>some (if x6 > (0:Int)then x6 else(0:Int))).bind λx8=>some (if x8 < Ke then x8 else Ke)).bind λx9=>some (.nx x9)) λv1=>(((some v1).bind MK).bind λε=>D3 ε (λuU=>some true) (λuU=>(Z0 Ay (some (JE+uU)) none (some Ke)).bind λxX=>some (Ow xX))).bind λvi=>some (.rt vi)
def Iy(Ay:ZLi)(JE:Int)(Ke:Int):Option ZLi:=GM (Iv Ay JE Ke)
theorem Va(W:Wd)(Ay:ZLi)(JE:Int)(Ke:Int):VF (Lm W) [.v (eF Ay),.v (D.int JE),.v (D.int Ke)] (rN (oL D.int)) (Iy Ay JE Ke):=by
 refine EZ (n:=4) (b:=Lv W) (p:=Iv Ay JE Ke) (B:=λ_=>[]) ?_;show VS [.v (eF Ay),.v (D.int JE),.v (D.int Ke),.u] _ _ _ _;unfold Lv Iv;exact(BA (D8 (VU (AI rfl) (i9 (CQ rfl) (JN (VV (AI rfl)) (AI rfl))))) (λv1=>(Ej (CD (Ck (VI.k (Dr (AI rfl))) (λuU=>GJ) (λuU=>(dE (Fn (dH (AI rfl) (RN (GZ (AI rfl) (AI rfl))) VQ (RN (AI rfl)))))))))))
def Iw(BZ:(List ZPi))(Ae:Int)(Jp:(List ZLi))(Az:ZLi)(Cq:ZLi)(Be:Str):Option (Fw Bool Unit):=
 BF (Er Cq Az λ(s1:ZLi) x2=>BF ((((some Ae).bind MK).bind λl7=>D3 l7 (λx4=>some (!decide (x4∈s1))) (λx4=>some x4)).bind λx8=>some (.nx x8)) λv3=>Dx (λzT=>zT) ((((some []).bind FP).bind λuU=>some (!decide (v3=uU))).bind λxT=>if xT=true then BF (((((((QG x2 (v3.length:Int)).bind λvh=>atI v3 vh).bind λxX=>some (xX,(Be,()))).bind λzd=>some (s1,zd)).bind λuV=>some (BZ,uV)).bind λwQ=>Dk wQ.1 wQ.2.1 wQ.2.2.1 wQ.2.2.2.1).bind λϑ=>some (.nx ϑ)) λv11=>BF ((D3 v11 (λuZ=>some (Tw (B2 uZ) Jp)) (λuZ=>some uZ)).bind λwM=>some (.nx wM)) λwc=>BF ((((some []).bind FP).bind λxl=>some (decide (wc=xl))).bind λxQ=>if xQ=true then some (.rt false)else some (.nx ())) λ_=>Dx (λvn=>vn) ((((QG (x2 / 7) (wc.length:Int)).bind λx46=>atI wc x46).bind λθ=>some (B2 θ)).bind λxZ=>some (.nx xZ))else some (.nx s1))) λs53=>some (.rt true)
def Iz(BZ:(List ZPi))(Ae:Int)(Jp:(List ZLi))(Az:ZLi)(Cq:ZLi)(Be:Str):Option Bool:=GM (Iw BZ Ae Jp Az Cq Be)
theorem Vb(W:Wd)(BZ:(List ZPi))(Ae:Int)(Jp:(List ZLi))(Az:ZLi)(Cq:ZLi)(Be:Str):VF (Ln W) [.z ((oL (eP D.int D.int)) BZ),.v (D.int Ae),.z ((oL (eT D.int)) Jp),.v ((eT D.int) Az),.z ((oL D.int) Cq),.v (D.str Be)] (rV D.bl) (Iz BZ Ae Jp Az Cq Be):=by
 refine EZ (n:=10) (b:=Lx W) (p:=Iw BZ Ae Jp Az Cq Be) (B:=λ_=>[]) ?_;show VS [.z ((oL (eP D.int D.int)) BZ),.v (D.int Ae),.z ((oL (eT D.int)) Jp),.v ((eT D.int) Az),.z ((oL D.int) Cq),.v (D.str Be),.u,.u,.u,.u] _ _ _ _;unfold Lx Iw;exact(BA (EJ (s0:=Az) (B:=(λ(zr:ZLi)=>[.z ((oL (eP D.int D.int)) BZ),.v (D.int Ae),.z ((oL (eT D.int)) Jp),.v ((eT D.int) zr),.z ((oL D.int) Cq),.v (D.str Be),.u,.u,.u,.u])) (YS rfl) Dg (.refl _) (λs1 x2=>(BA (EO (CD (Ck (VI.k (Dr (AI rfl))) (λx4=>(Gi (RO Dh (AI rfl) (AI rfl)))) (λx4=>(AI rfl))))) (λv3=>(Cp (Fj (B:=(λ(s51:ZLi)=>[.z ((oL (eP D.int D.int)) BZ),.v (D.int Ae),.z ((oL (eT D.int)) Jp),.v ((eT D.int) s51),.z ((oL D.int) Cq),.v (D.str Be),.v (D.int x2),.y ((oL D.int) v3),.u,.u])) (Gi (dI Dh (CU rfl) (Fn (CD (DN DV))))) (BA (EO (B9 (Kq (DI rfl) (Cu (AI rfl) (Cu (E9 (CU rfl) (OD (AI rfl) (Is (CU rfl)))) (Cu (AI rfl) CF)))) (λwQ=>Mg W wQ.1 wQ.2.1 wQ.2.2.1 wQ.2.2.2.1) (λ_=>rfl) Gm)) (λv11=>(BA (EO (CD (Ck (VI.k (Jy rfl)) (λuZ=>(Gi (Zk (JI (Fn (Kp (AI rfl)))) (DI rfl)))) (λuZ=>(AI rfl))))) (λwc=>(BA (Fj (B:=(λ(_:Unit)=>[.z ((oL (eP D.int D.int)) BZ),.v (D.int Ae),.z ((oL (eT D.int)) Jp),.v ((eT D.int) s1),.z ((oL D.int) Cq),.v (D.str Be),.v (D.int x2),.y ((oL D.int) v3),.y ((oL (eT D.int)) v11),.y ((oL (eT D.int)) wc)])) (Gi (dO (Re Dh) (CU rfl) (Fn (CD (DN DV))))) (E8 (CQ rfl)) (GV (.refl _))) (λ_=>(Cp (D8 (JI (Fn (Kp (E9 (CU rfl) (OD (Oo rfl (AI rfl)) (Is (CU rfl)))))))) (λvn=>(.same (.same (.same (.same (.same (.same (.same (.same (.drop (.drop .nil)))))))))))))))))) (GV (.refl _))) (λzT=>(.same (.same (.same (.same (.same (.same (.drop (.drop (.same (.same .nil)))))))))))))))) (λs53=>(E8 (CQ rfl))))
def Ix(BZ:(List ZPi))(Ef:(List (ZLi×Int×Int)))(Az:ZLi)(Cq:ZLi)(Be:Str):Option (Fw Bool Unit):=
 BF (some (.nx [])) λv1=>BF (Er Ef v1 λ(s3:(List (ZLi×ZPi))) x4=>Dx (λv7=>v7) ((Gy s3 x4.1 (x4.2.1,x4.2.2)).bind λxY=>some (.nx xY))) λwR=>BF ((((Ai wR Az).bind λvh=>some vh.1).bind MK).bind λl76=>Er l76 Az λ(vK:ZLi) wt=>BF ((Ai wR vK).bind λvI=>some (.nx vI)) λvQ=>BF ((Dk BZ vK vQ.2 Be).bind λwM=>some (.nx wM)) λy8=>BF ((((some []).bind FP).bind λxl=>some (decide (y8=xl))).bind λxQ=>if xQ=true then some (.rt true)else some (.nx ())) λ_=>BF ((fM (3:Int) wt).bind λxS=>some (.nx xS)) λvn=>BF ((((some []).bind FP).bind λyn=>some (!decide (Cq=yn))).bind λx53=>if x53=true then Dx (λxq=>xq) (((QG wt (Cq.length:Int)).bind λϠ=>atI Cq Ϡ).bind λxU=>some (.nx xU))else some (.nx vn)) λzr=>BF ((((QG zr (y8.length:Int)).bind λx61=>atI y8 x61).bind λϞ=>some (B2 Ϟ)).bind λν=>some (.nx ν)) λzt=>Dx (λ_=>zt) ((if (!(Ai wR zt).isSome)=true then some true else((Ai wR zt).bind λzp=>some zp.1).bind λx66=>some (decide (vQ.1<=x66))).bind λϡ=>if ϡ=true then some (.rt false)else some (.nx ()))) λzY=>some (.rt false)
def JA(BZ:(List ZPi))(Ef:(List (ZLi×Int×Int)))(Az:ZLi)(Cq:ZLi)(Be:Str):Option Bool:=GM (Ix BZ Ef Az Cq Be)
theorem Vc(W:Wd)(BZ:(List ZPi))(Ef:(List (ZLi×Int×Int)))(Az:ZLi)(Cq:ZLi)(Be:Str):VF (Lp W) [.z ((oL (eP D.int D.int)) BZ),.z ((oL (eP3 (eT D.int) D.int D.int)) Ef),.v ((eT D.int) Az),.z ((oL D.int) Cq),.v (D.str Be)] (rV D.bl) (JA BZ Ef Az Cq Be):=by
 refine EZ (n:=12) (b:=Ly W) (p:=Ix BZ Ef Az Cq Be) (B:=λ_=>[]) ?_;show VS [.z ((oL (eP D.int D.int)) BZ),.z ((oL (eP3 (eT D.int) D.int D.int)) Ef),.v ((eT D.int) Az),.z ((oL D.int) Cq),.v (D.str Be),.u,.u,.u,.u,.u,.u,.u] _ _ _ _;unfold Ly Ix;exact(BA (Gu dR) (λv1=>(BA (EJ (s0:=v1) (B:=(λ(s13:(List (ZLi×ZPi)))=>[.z ((oL (eP D.int D.int)) BZ),.z ((oL (eP3 (eT D.int) D.int D.int)) Ef),.v ((eT D.int) Az),.z ((oL D.int) Cq),.v (D.str Be),.w 5 ((oDR (eP D.int D.int)) s13),.u,.u,.u,.u,.u,.u])) (YS rfl) dA (.refl _) (λs3 x4=>(Cp (dC rfl (AI rfl) (Jz (AI rfl) (AI rfl)) rfl) (λv7=>(.same (.same (.same (.same (.same (.same (.drop (.drop (.drop (.same (.same (.same .nil)))))))))))))))) (λwR=>(BA (EJ (s0:=Az) (B:=(λ(ϟ:ZLi)=>[.z ((oL (eP D.int D.int)) BZ),.z ((oL (eP3 (eT D.int) D.int D.int)) Ef),.v ((eT D.int) ϟ),.z ((oL D.int) Cq),.v (D.str Be),.w 5 ((oDR (eP D.int D.int)) wR),.u,.u,.u,.u,.u,.u])) (Dr (VX (Op (HB rfl) (AI rfl)))) Dg (.refl _) (λvK wt=>(BA (iw (Op (HB rfl) (AI rfl))) (λvQ=>(BA (EO (B9 (Kq (DI rfl) (Cu (AI rfl) (Cu (AI rfl) (Cu (AI rfl) CF)))) (λzZ=>Mg W zZ.1 zZ.2.1 zZ.2.2.1 zZ.2.2.2.1) (λ_=>rfl) Gm)) (λy8=>(BA (Fj (B:=(λ(_:Unit)=>[.z ((oL (eP D.int D.int)) BZ),.z ((oL (eP3 (eT D.int) D.int D.int)) Ef),.v ((eT D.int) vK),.z ((oL D.int) Cq),.v (D.str Be),.w 5 ((oDR (eP D.int D.int)) wR),.u,.v (D.int vQ.1),.v (D.int vQ.2),.v (D.int wt),.y ((oL (eT D.int)) y8),.u])) (Gi (dO (Re Dh) (CU rfl) (Fn (CD (DN DV))))) (E8 (CQ rfl)) (GV (.refl _))) (λ_=>(BA (D8 (dJ (CQ rfl) (AI rfl))) (λvn=>(BA (Fj (B:=(λ(s55:Int)=>[.z ((oL (eP D.int D.int)) BZ),.z ((oL (eP3 (eT D.int) D.int D.int)) Ef),.v ((eT D.int) vK),.z ((oL D.int) Cq),.v (D.str Be),.w 5 ((oDR (eP D.int D.int)) wR),.u,.v (D.int vQ.1),.v (D.int vQ.2),.v (D.int wt),.y ((oL (eT D.int)) y8),.v (D.int s55)])) (Gi (dI Dh (DI rfl) (Fn (CD (DN DV))))) (Cp (D8 (E9 (DI rfl) (OD (AI rfl) (Is (DI rfl))))) (λxq=>(.refl _))) (GV (.refl _))) (λzr=>(BA (D8 (JI (Fn (Kp (E9 (CU rfl) (OD (AI rfl) (Is (CU rfl)))))))) (λzt=>(Cp (Fj (B:=(λ(_:Unit)=>[.z ((oL (eP D.int D.int)) BZ),.z ((oL (eP3 (eT D.int) D.int D.int)) Ef),.v ((eT D.int) zt),.z ((oL D.int) Cq),.v (D.str Be),.w 5 ((oDR (eP D.int D.int)) wR),.u,.v (D.int vQ.1),.v (D.int vQ.2),.v (D.int wt),.y ((oL (eT D.int)) y8),.v (D.int zr)])) (rC (Gi (dP (AI rfl) (HB rfl))) (Gi (rB (VX (Op (HB rfl) (AI rfl))) (AI rfl)))) (E8 (CQ rfl)) (GV (.refl _))) (λ_=>(.same (.same (.same (.same (.same (.same (.same (.drop (.drop (.drop (.drop (.drop .nil)))))))))))))))))))))))))))) (λzY=>(E8 (CQ rfl))))))))
def Zy(Ay:ZLi):Option (Fw Bool Unit):=
 BF ((CK Ay (0:Int)).bind λx7=>some (.nx x7)) λv1=>BF (some (.nx (((2:Int)+(v1 % 5))+(if (decide (((v1 / 84) % 8)=(1:Int)))=true then 1 else 0)))) λv8=>BF ((IV Ay (3:Int) v8).bind λuZ=>some (.nx uZ)) λv20=>BF (((IM Ay v20).bind λvJ=>c9 v8 vJ).bind λxQ=>some (.nx xQ)) λvm=>BF ((((CK Ay (1:Int)).bind λxj=>((((some ((3:Int) :: ((5:Int) :: []))).bind FP).bind λl51=>atI l51 (if (decide (v8 < (6:Int)))=true then 1 else 0)).bind λy0=>some (if y0 < v8 then y0 else v8)).bind λzm=>QG xj zm).bind λwy=>some ((1:Int)+wy)).bind λι=>some (.nx ι)) λxr=>BF ((((some (("one" : Str) :: (("all" : Str) :: []))).bind FP).bind λl71=>((CK Ay (2:Int)).bind λzp=>some (zp % 2)).bind λx72=>atI l71 x72).bind λϡ=>some (.nx ϡ)) λwV=>BF ((IW v8 xr).bind λx80=>some (.nx x80)) λwW=>BF ((NZ vm xr wV).bind λx89=>some (.nx x89)) λy9=>BF ((RV vm xr wV).bind λx98=>some (.nx x98)) λyo=>BF ((Iy Ay (0:Int) (40:Int)).bind λϢ=>some (.nx Ϣ)) λya=>BF (((((QG (Ow Ay) (wW.length:Int)).bind λϣ=>atI wW ϣ).bind λϤ=>((atI wW (0:Int)).bind λϥ=>((atI wW (-(1:Int))).bind λϦ=>some (Ϧ :: [])).bind λϧ=>some (ϥ :: ϧ)).bind λϨ=>some (Ϥ :: Ϩ)).bind FP).bind λϩ=>Er ϩ () λ(_:Unit) vt=>Dx (λ_=>()) (if (Tw vt y9)=true then Dx (λ_=>()) (((Iz v20 v8 y9 vt ya wV).bind λϪ=>some (!Ϫ)).bind λϫ=>if ϫ=true then some (.rt false)else some (.nx ()))else Dx (λ_=>()) (((JA v20 yo vt ya wV).bind λϬ=>some (!Ϭ)).bind λϭ=>if ϭ=true then some (.rt false)else some (.nx ())))) λ_=>some (.rt true)
def ee(Ay:ZLi):Option Bool:=GM (Zy Ay)
theorem rE(W:Wd)(Ay:ZLi):VF (aR W) [.v (eF Ay)] (rV D.bl) (ee Ay):=by
 refine EZ (n:=12) (b:=hV W) (p:=Zy Ay) (B:=λ_=>[]) ?_;show VS [.v (eF Ay),.u,.u,.u,.u,.u,.u,.u,.u,.u,.u,.u] _ _ _ _;unfold hV Zy;exact(BA (D8 (B9 (Cu (AI rfl) (Cu (CQ rfl) CF)) (λz6=>Fo W z6.1 z6.2.1) (λ_=>rfl) GX)) (λv1=>(BA (D8 (GZ (GZ (CQ rfl) (Om rfl (AI rfl))) (dN (Nx Dh Mx (Om rfl (Oo rfl (AI rfl))) (CQ rfl))))) (λv8=>(BA (EO (B9 (Cu (AI rfl) (Cu (CQ rfl) (Cu (AI rfl) CF))) (λϮ=>W4 W Ϯ.1 Ϯ.2.1 Ϯ.2.2.1) (λ_=>rfl) Gm)) (λv20=>(BA (EO (mw (AI rfl) (Fn (B9 (Cu (AI rfl) (Kq (CU rfl) CF)) (λz34=>Ti W z34.1 z34.2.1) (λ_=>rfl) Gm)))) (λvm=>(BA (D8 (GZ (CQ rfl) (OD (B9 (Cu (AI rfl) (Cu (CQ rfl) CF)) (λz43=>Fo W z43.1 z43.2.1) (λ_=>rfl) GX) (VU (AI rfl) (E9 (Fn (CD (DN (Ek (CQ rfl) (Ek (CQ rfl) DV))))) (dN (lg (AI rfl) (CQ rfl)))))))) (λxr=>(BA (D8 (E9 (Fn (CD (DN (Ek (CQ rfl) (Ek (CQ rfl) DV))))) (Om rfl (B9 (Cu (AI rfl) (Cu (CQ rfl) CF)) (λz69=>Fo W z69.1 z69.2.1) (λ_=>rfl) GX)))) (λwV=>(BA (EO (B9 (Cu (AI rfl) (Cu (AI rfl) CF)) (λz79=>W5 W z79.1 z79.2.1) (λ_=>rfl) Gm)) (λwW=>(BA (EO (B9 (Kq (CU rfl) (Cu (AI rfl) (Cu (AI rfl) CF))) (λϯ=>bI W ϯ.1 ϯ.2.1 ϯ.2.2.1) (λ_=>rfl) Gm)) (λy9=>(BA (EO (B9 (Kq (CU rfl) (Cu (AI rfl) (Cu (AI rfl) CF))) (λϰ=>jH W ϰ.1 ϰ.2.1 ϰ.2.2.1) (λ_=>rfl) Gm)) (λyo=>(BA (EO (B9 (Cu (AI rfl) (Cu (CQ rfl) (Cu (CQ rfl) CF))) (λyb=>Va W yb.1 yb.2.1 yb.2.2.1) (λ_=>rfl) Gm)) (λya=>(BA (EJ (s0:=()) (B:=(λ(_:Unit)=>[.v (eF Ay),.v (D.int v1),.v (D.int v8),.y ((oL (eP D.int D.int)) v20),.y ((HA W) vm),.v (D.int xr),.v (D.str wV),.y ((oL (eT D.int)) wW),.y ((oL (eT D.int)) y9),.y ((oL (eP3 (eT D.int) D.int D.int)) yo),.y ((oL D.int) ya),.u])) (Pw (CD (DN (Ek (E9 (CU rfl) (OD (i6 (AI rfl)) (Is (CU rfl)))) (Ek (E9 (CU rfl) (CQ rfl)) (Ek (E9 (CU rfl) (VR (CQ rfl))) DV)))))) Dg (.refl _) (λ_ vt=>(Cp (Fj (B:=(λ(_:Unit)=>[.v (eF Ay),.v (D.int v1),.v (D.int v8),.y ((oL (eP D.int D.int)) v20),.y ((HA W) vm),.v (D.int xr),.v (D.str wV),.y ((oL (eT D.int)) wW),.y ((oL (eT D.int)) y9),.y ((oL (eP3 (eT D.int) D.int D.int)) yo),.y ((oL D.int) ya),.v ((eT D.int) vt)])) (Gi (Zk (AI rfl) (CU rfl))) (Cp (Fj (B:=(λ(_:Unit)=>[.v (eF Ay),.v (D.int v1),.v (D.int v8),.y ((oL (eP D.int D.int)) v20),.y ((HA W) vm),.v (D.int xr),.v (D.str wV),.y ((oL (eT D.int)) wW),.y ((oL (eT D.int)) y9),.y ((oL (eP3 (eT D.int) D.int D.int)) yo),.y ((oL D.int) ya),.v ((eT D.int) vt)])) (VZ (VY (B9 (Kq (CU rfl) (Cu (AI rfl) (Kq (CU rfl) (Cu (AI rfl) (Kq (CU rfl) (Cu (AI rfl) CF)))))) (λvL=>Vb W vL.1 vL.2.1 vL.2.2.1 vL.2.2.2.1 vL.2.2.2.2.1 vL.2.2.2.2.2.1) (λ_=>rfl) GX))) (E8 (CQ rfl)) (GV (.refl _))) (λ_=>(.refl _))) (Cp (Fj (B:=(λ(_:Unit)=>[.v (eF Ay),.v (D.int v1),.v (D.int v8),.y ((oL (eP D.int D.int)) v20),.y ((HA W) vm),.v (D.int xr),.v (D.str wV),.y ((oL (eT D.int)) wW),.y ((oL (eT D.int)) y9),.y ((oL (eP3 (eT D.int) D.int D.int)) yo),.y ((oL D.int) ya),.v ((eT D.int) vt)])) (VZ (VY (B9 (Kq (CU rfl) (Kq (CU rfl) (Cu (AI rfl) (Kq (CU rfl) (Cu (AI rfl) CF))))) (λwe=>Vc W we.1 we.2.1 we.2.2.1 we.2.2.2.1 we.2.2.2.2.1) (λ_=>rfl) GX))) (E8 (CQ rfl)) (GV (.refl _))) (λ_=>(.refl _)))) (λ_=>(.same (.same (.same (.same (.same (.same (.same (.same (.same (.same (.same (.drop .nil)))))))))))))))) (λ_=>(E8 (CQ rfl))))))))))))))))))))))))
open PySem L2 L4
open Srt (ltL)
def Ans(kd:Str)(us:List ZPi)(r:ZLi)(c:Int)(s:ZLi):Prop:=if kd = "one" then ∃a∈r,c∈nr us a.toNat/\s=wst r a c else cZ us r c s
theorem jS{s r:ZLi}(hs:s.Nodup)(h:∀x∈s,x∈r)(hl:s.length=r.length):∀x∈r,x∈s:=λx hx=>RJ λhn=>by
 have:=Jb (k:=r) (Bt.mpr ⟨hn,hs⟩) λy hy=>by
  rcases Ap.mp hy with rfl | hy
  ·exact hx
  ·exact h y hy
 rw[BB]at this
 lia
section
variable{o g:Nat}{us ts:List ZPi}{kd:Str}{r r':ZLi}{c:Int}
theorem WN(h:L5 o us)(hr:Stg o g r)(hc:c∉r):(∃s,Ans kd us r c s/\B2 s=r')↔Stg o g r'/\Lk kd us r r'/\c∈r':=by
 unfold Ans Lk
 by_cases k:kd = "one"
 ·simp only[qX k]
  constructor
  ·rintro⟨s,⟨a,ha,hn,rfl⟩,rfl⟩
   have hb:c∈Tg us a:=TM.mpr (.inr hn);exact⟨Zh h hr ha hb hc,⟨a,ha,c,hb,hc,rfl⟩,Ei.mpr ((VJ ha).mpr (.inl rfl))⟩
  ·rintro⟨-,⟨a,ha,b,hb,hbr,rfl⟩,h3⟩
   have e:c=b:=by
    rcases(VJ ha).mp (Ei.mp h3)with e | e
    ·exact e
    ·exact zX e.1 hc
   subst e
   rcases TM.mp hb with e | e
   ·rw[e]at hc;exact zX ha hc
   ·exact⟨_,⟨a,ha,e,rfl⟩,rfl⟩
 ·simp only[qY k]
  constructor
  ·rintro⟨s,hs,rfl⟩
   have rg:=cZ.rg h hr.2.1 hs;refine⟨⟨by rw[(Eo _).length_eq,hs.1,hr.1],λx hx=>rg x (Ei.mp hx),Ox hs.2.1⟩,⟨s,hs.1,hs.2.1,hs.2.2.1,λx hx=>Ei.mpr hx⟩,Ei.mpr hs.2.2.2⟩
  ·rintro⟨h1,⟨s,s1,s2,s3,s4⟩,h3⟩
   have all:=jS s2 s4 (by rw[s1,hr.1,h1.1]);exact⟨s,⟨s1,s2,s3,all c h3⟩,Mq (Ox s2) h1.2.2 λx=>Ei.trans ⟨s4 x,all x⟩⟩
theorem ii(hn:r.Nodup)(hk:k < r.length)(x:Int):r.take k++[x]++r.drop (k+1)=wst r r[k] x:=by
 have e:r.set k x=r.take k++x :: r.drop (k+1):=by rw[List.set_eq_take_append_cons_drop,qX hk]
 rw[Bu,FY,<-e]
 refine Hl λi=>?_
 unfold wst;rw[Ak,DU]
 by_cases c:k=i
 ·subst c
  rw[qX rfl,qX hk,AU hk];show some x=some (if r[k]=r[k]then x else r[k]);rw[qX rfl]
 ·rw[qY c]
  cases hi:r[i]? with
  | none=>rfl
  | some y=>
   obtain⟨h1,h2⟩:=AE.mp hi;show some y=some (if y=r[k]then x else y);rw[qY];intro z;rw[<-h2]at z;exact c ((RI hn).mp z).symm
theorem Zu(h:∀r∈f,r≠[]):SE f=some (J1 f):=qX (MD.mpr λr hr=>by
 cases r with
 | nil=>exact zX rfl (h _ hr)
 | cons a r=>rfl)
theorem oy(h:Kf o ts)(hg:∀g∈gs,0<=g/\g < (o:Int))(hn:gs.Nodup)(h0:gs≠[])(hl:gs.length<=6)(x:Int):Ok (Dk ts gs x "one") λB=>(∀s,s∈B↔∃a∈gs,x∈nr (Gj ts) a.toNat/\s=wst gs a x)/\B.length<=117649:=by
 have hts:=h.ln;unfold Dk Fs;rw[qX (wX rfl)];simp only[AB];rw[J3 (by lia) (by lia),As];simp only[AB]
 rw[F9 (P:=λk:Int=>decide (x∈B2 (lnr ts (gs.getD k.toNat 0)))) (by rw[CN];lia) λk hk=>by
  obtain⟨k0,k1⟩:=CO.mp hk
  have w5:k.toNat < gs.length:=by lia
  rw[IC k0 (AU w5)];simp only[AB];rw[aC (by lia),Bx,AU w5]
  rfl]
 simp only[AB,BH];have vB:=Ce (λk:Int=>decide (x∈B2 (lnr ts (gs.getD k.toNat 0)))) (DW 0 gs.length);rw[CN]at vB
 rw[GR (f:=λk:Int=>wst gs (gs.getD k.toNat 0) x) (by lia) λk hk=>by
  obtain⟨k0,k1⟩:=CO.mp (An.mp hk).1
  have w5:k.toNat < gs.length:=by lia
  rw[pr];simp only[AB];rw[show k=((k.toNat:Nat):Int) by lia,qB gs (by lia),show((k.toNat:Nat):Int)+1=((k.toNat+1:Nat):Int) by lia,gn gs (by lia),Ng (by rw[Di,Au];lia)];simp only[AB];rw[Ng (by rw[AX,Di,IY,Au];omega),ii hn w5,As,Bx,AU w5]
  rfl]
 simp only[AB]
 have hm:∀s,s∈((DW 0 gs.length).filter λk:Int=>decide (x∈B2 (lnr ts (gs.getD k.toNat 0)))).map (λk:Int=>wst gs (gs.getD k.toNat 0) x)↔∃a∈gs,x∈nr (Gj ts) a.toNat/\s=wst gs a x:=λs=>by
  rw[BO]
  constructor
  ·rintro⟨k,hk,rfl⟩
   obtain⟨h1,h2⟩:=An.mp hk;obtain⟨k0,k1⟩:=CO.mp h1
   have w5:k.toNat < gs.length:=by lia
   have ea:gs.getD k.toNat 0=gs[k.toNat]:=by rw[Bx,AU w5];rfl
   rw[ea]at h2 ⊢;exact⟨_,Ct w5,(h.near (hg _ (Ct w5)).1 x).mpr (of_decide_eq_true h2),rfl⟩
  ·rintro⟨a,ha,hx,rfl⟩
   obtain⟨k,hk,rfl⟩:=C2 ha
   have ea:gs.getD ((k:Int)).toNat 0=gs[k]:=by rw[As,Bx,AU hk];rfl
   refine⟨(k:Int),An.mpr ⟨CO.mpr ⟨by lia,by lia⟩,?_⟩,by rw[ea]⟩;rw[ea];exact wX ((h.near (hg _ (Ct hk)).1 x).mp hx)
 have zu:(((DW 0 gs.length).filter λk:Int=>decide (x∈B2 (lnr ts (gs.getD k.toNat 0)))).map (λk:Int=>wst gs (gs.getD k.toNat 0) x)).length<=117649:=by rw[AF];lia
 generalize ((DW 0 gs.length).filter λk:Int=>decide (x∈B2 (lnr ts (gs.getD k.toNat 0)))).map (λk:Int=>wst gs (gs.getD k.toNat 0) x)=f at hm zu
 rw[Zu λr hr z=>by
  obtain⟨a,_,_,e⟩:=(hm r).mp hr;rw[z]at e;unfold wst at e
  exact h0 (List.map_eq_nil_iff.mp e.symm)]
 exact⟨_,rfl,λs=>(FA f).mem_iff.trans (hm s),by rw[(FA f).length_eq];exact zu⟩
theorem pB(h:Kf o ts)(ho:o < 8)(hg:∀g∈gs,0<=g/\g < (o:Int))(h0:gs≠[])(hl:gs.length<=6)(x:Int)(hk:¬kd = "one"):Ok (Dk ts gs x kd) λB=>(∀s,s∈B↔cZ (Gj ts) gs x s)/\B.length<=117649:=by
 unfold Dk Fs;rw[wY hk,qY AK];simp only[BH,gY,pr,AB];refine OkF.out (OkF.seq (OkF.for (λpre s=>Rw (Gj ts) pre s) ⟨λr=>?_,by simp,AL _⟩ ?_) ?_)
 ·rw[Aa]
  exact⟨λe=>by rw[e];exact⟨rfl,EX,by simp⟩,λe=>Rq e.1⟩
 ·intro pre g s yg hp hs
  have uz:=hp.length_le;rw[AX,Au]at uz;have ϱ:=hg g yg;rw[aC (by have:=h.ln;lia)];simp only[AB]
  have hvm:=λx=>jV h (g:=g) (x:=x) ϱ.1
  have hvn:=nU h g
  have hv:([g]++B2 (lnr ts g)).length<=7:=by
   have:=Jb (k:=DW 0 o) hvn λx hx=>by
    have:=((h.ties ho).tg ϱ.1 ϱ.2).2.1 x ((hvm x).mp hx);rw[CO];lia
   rw[CN]at this
   lia
  rw[Ng (l:=[g]) (k:=B2 (lnr ts g)) (by rw[<-AX];lia)];generalize [g]++B2 (lnr ts g)=v at hv hvm hvn;simp only[AB,BH];have h7:(7:Nat) ^ pre.length<=16807:=Aw (Ir (by decide) (show pre.length<=5 by lia)) (by decide);have za:=hs.ln;refine OkF.seq (N:=λs'=>s'=s.flatMap (lnx v)) (OkF.for (λp2 s2=>s2=p2.flatMap (lnx v)) rfl ?_) ?_
  ·rintro p2 r s2 hr wZ rfl
   have hp2l:=wZ.length_le;rw[AX,Au]at hp2l;have hrl:=((hs.mem r).mp hr).1;rw[Pb (P:=λp=>!decide (p∈r)) (f:=λp=>r++[p]) (by lia) (λ_ _=>rfl) λp _ _=>Ng (by rw[Au];lia)];simp only[AB];have k1:=Sg hv p2;have k2:=aA (v:=v) (r:=r);unfold lnx at k2;rw[Ng (by lia)];refine .nx ?_;show p2.flatMap (lnx v)++_=(p2++[r]).flatMap (lnx v);rw[bB,Kl,List.flatMap_nil,CB];rfl
  ·rintro s2 rfl
   exact .nx (hs.step hvm hvn hv)
 ·intro s hs
  have h7:(7:Nat) ^ gs.length<=117649:=Aw (Ir (by decide) hl) (by decide);have za:=hs.ln;rw[F9 (P:=λr=>decide (x∈r)) (by lia) λ_ _=>rfl];simp only[AB]
  have hm:∀r,r∈s.filter (λr=>decide (x∈r))↔cZ (Gj ts) gs x r:=λr=>by
   rw[An,hs.mem,decide_eq_true_eq];exact⟨λ⟨⟨a,b,c⟩,d⟩=>⟨a,b,c,d⟩,λ⟨a,b,c,d⟩=>⟨⟨a,b,c⟩,d⟩⟩
  have vB:(s.filter λr=>decide (x∈r)).length<=117649:=Aw (Ce _ _) (Aw za h7);generalize s.filter (λr=>decide (x∈r))=f at hm vB
  rw[Zu λr hr z=>by
   have:=((hm r).mp hr).1;rw[z]at this
   exact h0 (Rq this.symm)]
  exact .rt ⟨λr=>(FA f).mem_iff.trans (hm r),by rw[(FA f).length_eq];exact vB⟩
theorem ss(h:Kf o ts)(ho:o < 8)(hs:Stg o g gs)(h1:1<=g)(h6:g<=6)(x:Int)(kd:Str):Ok (Dk ts gs x kd) λB=>(∀s,s∈B↔Ans kd (Gj ts) gs x s)/\B.length<=117649:=by
 have h0:gs≠[]:=λz=>by have:=hs.1;rw[z]at this;simp at this;lia
 by_cases k:kd = "one"
 ·subst k
  refine(oy h hs.2.1 (db hs.2.2) h0 (by rw[hs.1];exact h6) x).imp λB hB=>⟨λs=>(hB.1 s).trans ?_,hB.2⟩
  unfold Ans;rw[qX rfl]
 ·refine(pB h ho hs.2.1 h0 (by rw[hs.1];exact h6) x k).imp λB hB=>⟨λs=>(hB.1 s).trans ?_,hB.2⟩
  unfold Ans;rw[qY k]
end
section
variable{o g:Nat}{ts:List ZPi}{kd:Str}{T:TL}
theorem dn(ho:o < 8)(hg:g<=o)(h1:1<=g)(h:Stg o g r):∃n:Nat,(sts o g)[n]?=some r/\n < (sts o g).length:=by
 obtain⟨n,hn,e⟩:=C2 ((GK ho hg h1).mpr h);exact⟨n,by rw[AU hn,e],hn⟩
theorem jU{i j:Nat}{r:ZLi}(ho:o < 8)(hg:g<=o)(h1:1<=g)(hi:(sts o g)[i]?=some r)(hj:(sts o g)[j]?=some r):i=j:=(cx (AE.mp hi).1 (Yf ho hg h1)).mp (hi.trans hj.symm)
theorem gv(h:(sts o g)[n]?=some r):c∈clS o g n↔(0<=c/\c < (o:Int))/\c∉r:=by
 unfold clS;rw[An,CO,OT h];simp
theorem gx(ht:L5 o us)(hg:g<=o)(h1:1<=g)(hn:(sts o g)[n]?=some r)(hc:c∉r):BS o g us kd n c j↔∃s,Ans kd us r c s/\(sts o g)[j]?=some (B2 s):=by
 have hr:=(GK ht.sm hg h1).mp (BL hn)
 constructor
 ·rintro⟨r1,r',e1,e2,q⟩
  rw[hn]at e1;cases e1;obtain⟨s,h3,h4⟩:=(WN (kd:=kd) ht hr hc).mpr ⟨(GK ht.sm hg h1).mp (BL e2),q⟩;exact⟨s,h3,by rw[h4];exact e2⟩
 ·rintro⟨s,h3,e2⟩
  exact⟨r,_,hn,e2,((WN (kd:=kd) ht hr hc).mp ⟨s,h3,rfl⟩).2⟩
theorem PJ(ho:o < 8)(hg:g<=o)(h1:1<=g):r∈((DW 0 (sts o g).length).filter λn=>!(Ai T n).isSome).map (evN o g)↔∃n:Nat,(sts o g)[n]?=some r/\Ai T (n:Int)=none:=by
 rw[BO]
 constructor
 ·rintro⟨x,hx,rfl⟩
  obtain⟨h2,h3⟩:=An.mp hx;obtain⟨x0,x1⟩:=CO.mp h2;have hr:=AU (l:=sts o g) (i:=x.toNat) (by lia);have:=OT hr;rw[BR x0]at this;refine⟨x.toNat,by rw[this];exact hr,?_⟩;rw[BR x0]
  cases hv:Ai T x with
  | none=>rfl
  | some z=>rw[hv]at h3;cases h3
 ·rintro⟨n,hn,hv⟩
  exact⟨(n:Int),An.mpr ⟨CO.mpr ⟨by lia,by have:=(AE.mp hn).1;lia⟩,by rw[hv];rfl⟩,OT hn⟩
theorem jI(ns:ZLi)(vF:ns.length<=63):∃cells,Iy ns 0 40=some cells/\cells.length<=40:=by
 unfold Iy Iv;simp only[AB,BH]
 have hr:∃k:Nat,k<=40/\(if (if (ns.length:Int) - 0 > (0:Int)then(ns.length:Int) - 0 else(0:Int)) < (40:Int)then(if (ns.length:Int) - 0 > (0:Int)then(ns.length:Int) - 0 else(0:Int))else(40:Int))=(k:Int):=⟨(if (if (ns.length:Int) - 0 > (0:Int)then(ns.length:Int) - 0 else(0:Int)) < (40:Int)then(if (ns.length:Int) - 0 > (0:Int)then(ns.length:Int) - 0 else(0:Int))else(40:Int)).toNat,by split <;> split <;> lia,by split <;> split <;> lia⟩
 obtain⟨k,hk,ek⟩:=hr;rw[ek,J3 (by lia) (by lia),As];simp only[AB]
 rw[GR (f:=λx=>Ow (pickG ns (some (0+x)) none (some 40))) (by rw[CN];lia) λx _=>by
  unfold Z0;rw[qY (by decide)]
  rfl]
 exact⟨_,rfl,by rw[AF,CN];exact hk⟩
theorem kU(h:Kf o ts)(ho:o < 8)(hg:g<=o)(h1:1<=g)(h6:g<=6)(hL:∀r∈L,Stg o g r)(hc:∀r∈L,∀c:Int,0<=c->c < o->c∉r->∃s,Ans kd (Gj ts) r c s/\B2 s∈L)(hr:r∈L):Iz ts o L r cells kd=some true:=by
 refine Ok.is (v:=true) ?_;unfold Iz Iw;refine OkF.out (OkF.seq (OkF.for (λ_ (s:ZLi)=>s∈L) hr ?_) λ_ _=>.rt rfl);intro pre cell s uv hp hs;have hS:=hL s hs;simp only[AB];rw[J3 (by lia) (by lia),As];simp only[AB];rw[F9 (P:=λx=>!decide (x∈s)) (by rw[CN];lia) λ_ _=>rfl];simp only[AB,BH,gY]
 have fm:∀c,c∈(DW 0 o).filter (λx=>!decide (x∈s))->(0<=c/\c < (o:Int))/\c∉s:=λc hc=>by
  obtain⟨h2,h3⟩:=An.mp hc;have:=CO.mp h2;exact⟨by lia,by simpa using h3⟩
 generalize (DW 0 o).filter (λx=>!decide (x∈s))=free at fm
 by_cases hf:free=[]
 ·rw[wX hf]
  exact OkF.map (N:=λs=>s∈L) (.nx hs) λ_ h=>h
 ·rw[wY hf]
  simp only[UK,if_true];rw[J8 (by have:=EB.mpr hf;lia)];simp only[AB];obtain⟨c,ec,hcm⟩:=Lz (l:=free) cell hf;rw[ec];simp only[AB];obtain⟨⟨c0,c1⟩,c2⟩:=fm c hcm;obtain⟨B,eB,hB,hBl⟩:=ss h ho hS h1 h6 c kd;obtain⟨z,hz1,hz2⟩:=hc s hs c c0 c1 c2;rw[eB];simp only[AB,BH];rw[F9 (P:=λx=>Tw (B2 x) L) (by lia) λ_ _=>rfl];simp only[AB,BH,gY]
  have gm:∀x,x∈B.filter (λx=>Tw (B2 x) L)↔x∈B/\B2 x∈L:=λx=>by rw[An];unfold Tw;rw[decide_eq_true_eq]
  have A':B.filter (λx=>Tw (B2 x) L)≠[]:=List.ne_nil_of_mem ((gm z).mpr ⟨(hB z).mpr hz1,hz2⟩);generalize B.filter (λx=>Tw (B2 x) L)=good at gm A';rw[wY A',qY AK];simp only[BH];rw[J8 (by have:=EB.mpr A';lia)];simp only[AB];obtain⟨x,ex,hx⟩:=Lz (l:=good) (cell / 7) A';rw[ex];exact .nx ((gm x).mp hx).2
theorem nI(ho:o < 8)(hg:g<=o)(h1:1<=g):∃D:List (ZLi×ZPi),Er (ρ:=Bool) (((DW 0 (sts o g).length).filter λn=>(Ai T n).isSome).map λn=>(evN o g n,(Ai T n).getD (0,0))) ([]:List (ZLi×ZPi)) (λ(s3:List (ZLi×ZPi)) x4=>Dx (λv7=>v7) ((Gy s3 x4.1 (x4.2.1,x4.2.2)).bind λxY=>some (.nx xY)))=some (.nx D)/\∀(n:Nat) r,(sts o g)[n]?=some r->Ai D r=Ai T (n:Int):=by
 obtain⟨-,-,-,hl⟩:=Nz o ho g (by lia) hg h1
 have at':∀x∈DW 0 (sts o g).length,(sts o g)[x.toNat]?=some (evN o g x):=λx hx=>by
  obtain⟨x0,x1⟩:=CO.mp hx;have hr:=AU (l:=sts o g) (i:=x.toNat) (by lia);have:=OT hr;rw[BR x0]at this;rw[this];exact hr
 obtain⟨D,e,hD,-⟩:=PX (ρ:=Bool) (l:=((DW 0 (sts o g).length).filter λn=>(Ai T n).isSome).map λn=>(evN o g n,(Ai T n).getD (0,0))) (s0:=([]:List (ZLi×ZPi))) (q:=λ(s3:List (ZLi×ZPi)) x4=>Dx (λv7=>v7) ((Gy s3 x4.1 (x4.2.1,x4.2.2)).bind λxY=>some (.nx xY)))
  (λpre s=>(∀(n:Nat) r,(sts o g)[n]?=some r->Ai s r=if (r,(Ai T (n:Int)).getD (0,0))∈pre then Ai T (n:Int)else none)/\s.length<=pre.length) ⟨λn r h=>rfl,AL _⟩ (by
   rintro pre x s hx hp ⟨h2,h3⟩;obtain⟨k,hk,rfl⟩:=BO.mp hx;obtain⟨k1,k2⟩:=An.mp hk;obtain⟨z,hz⟩:=CZ.mp k2;have ak:=at' k k1;obtain⟨k0,kl⟩:=CO.mp k1;have uz:=hp.length_le;have vB:=Ce (λn=>(Ai T n).isSome) (DW 0 (sts o g).length);rw[AX,Au,AF]at uz;rw[CN]at vB;refine⟨CG s (evN o g k) z,?_,λn r hr=>?_,?_⟩
   ·rw[hz]
    show Dx _ ((Gy s (evN o g k) (z.1,z.2)).bind _)=_;rw[show Gy s (evN o g k) (z.1,z.2)=some (CG s (evN o g k) z)from qX (by lia)];rfl
   ·rw[C9]
    by_cases e:r=evN o g k
    ·subst e
     have en:=jU ho hg h1 hr ak
     have en':(n:Int)=k:=by lia
     rw[qX rfl,en',qX (by simp),hz]
    ·rw[qY e,h2 n r hr]
     have:(r,(Ai T (n:Int)).getD (0,0))∈pre++[(evN o g k,(Ai T k).getD (0,0))]↔(r,(Ai T (n:Int)).getD (0,0))∈pre:=by
      rw[A9,Aa];exact⟨λq=>q.elim id λq=>zX (Wf q).1 e,.inl⟩
     simp only[this]
   ·rw[AX,Au]
    exact Aw (Mu _ _ _) (by lia))
 refine⟨D,e,λn r hr=>?_⟩;rw[hD n r hr]
 cases hv:Ai T (n:Int)with
 | none=>simp
 | some z=>
  rw[qX];refine BO.mpr ⟨(n:Int),An.mpr ⟨CO.mpr ⟨by lia,by have:=(AE.mp hr).1;lia⟩,by rw[hv];rfl⟩,?_⟩;rw[OT hr,hv]
theorem lB(h:Kf o ts)(ho:o < 8)(hg:g<=o)(h1:1<=g)(h6:g<=6)(F:Fa (sts o g).length (clS o g) (BS o g (Gj ts) kd) T){cells:ZLi}{n:Nat}{r:ZLi}(hn:(sts o g)[n]?=some r){z:Int×Int}(hz:Ai T (n:Int)=some z) :
  JA ts (((DW 0 (sts o g).length).filter λn=>(Ai T n).isSome).map λn=>(evN o g n,(Ai T n).getD (0,0))) r cells kd=some true:=by
 refine Ok.is (v:=true) ?_;have zw:=h.ties ho;obtain⟨D,eD,hD⟩:=nI (T:=T) ho hg h1;unfold JA Ix;simp only[BH];rw[eD];simp only[BH];rw[hD n r hn,hz];simp only[AB];obtain⟨-,-,-,hl⟩:=Nz o ho g (by lia) hg h1;have hz1:=(F.ok n z hz).1;have hzN:=F.hi n z hz;rw[J3 (by lia) (by lia)];simp only[AB];refine OkF.out (OkF.seq (OkF.for (λpre (s:ZLi)=>∃(m:Nat) (y:Int×Int),(sts o g)[m]?=some s/\Ai T (m:Int)=some y/\y.1<=z.1 - pre.length) ⟨n,z,hn,hz,by simp⟩ ?_) ?_)
 ·rintro pre k s hk hp ⟨m,y,hm,hy,hle⟩
  have hS:=(GK ho hg h1).mp (BL hm);obtain⟨y1,y2,y3,-⟩:=F.ok m y hy;obtain⟨k0,k1⟩:=CO.mp hk;rw[hD m s hm,hy];simp only[AB,BH];obtain⟨Bl,eB,hB,hBl⟩:=ss h ho hS h1 h6 y.2 kd;rw[eB];simp only[AB,BH,gY]
  by_cases c:Bl=[]
  ·rw[wX c,qX rfl]
   exact .rt rfl
  ·rw[wY c,qY AK]
   simp only[BH];rw[show fM 3 k=some (3 * k)from qX (.inl ⟨by decide,by decide⟩)];simp only[AB,BH]
   have uv:∃w:Int,(if (!decide (cells=[]))=true then Dx (ρ:=Bool) (λxq=>xq) (((QG k (cells.length:Int)).bind λϠ=>atI cells Ϡ).bind λxU=>some (.nx xU))else some (.nx (3 * k)))=some (.nx w):=by
    by_cases ce:cells=[]
    ·rw[wX ce]
     exact⟨_,rfl⟩
    ·rw[wY ce]
     simp only[UK,if_true];rw[J8 (by have:=EB.mpr ce;lia)];obtain⟨w,ew,-⟩:=Lz (l:=cells) k ce;simp only[AB];rw[ew];exact⟨w,rfl⟩
   obtain⟨w,ew⟩:=uv;rw[ew];simp only[BH];rw[J8 (by have:=EB.mpr c;lia)];obtain⟨x,ex,hx⟩:=Lz (l:=Bl) w c;simp only[AB];rw[ex];simp only[AB,BH];have hA:=(hB x).mp hx;have hcf:=(gv hm).mp y2;obtain⟨ϛ,-⟩:=(WN (kd:=kd) zw hS hcf.2).mp ⟨x,hA,rfl⟩;obtain⟨j,ej,-⟩:=dn ho hg h1 ϛ;obtain⟨v,hv1,hv2⟩:=y3 j ((gx zw hg h1 hm hcf.2).mpr ⟨x,hA,ej⟩);rw[hD j _ ej,hv1];simp only[Od,mW,EY,if_false,AB];rw[wY (show ¬y.1<=v.1 by lia),qY AK]
   refine OkF.map (N:=λ_=>True) (.nx trivial) λ_ _=>⟨j,v,ej,hv1,?_⟩
   rw[AX,Au]
   lia
 ·rintro s ⟨m,y,hm,hy,hle⟩
  have:=(F.ok m y hy).1;rw[CN]at hle
  lia
end
theorem sr(ns:ZLi)(vF:ns.length<=63):ee ns=some true:=by
 refine Ok.is (v:=true) ?_;unfold ee Zy;rw[show CK ns 0=some (ns.getD 0 0)from TB ns 0,show CK ns 1=some (ns.getD 1 0)from TB ns 1,show CK ns 2=some (ns.getD 2 0)from TB ns 2];simp only[AB,BH]
 have ho:∃o:Nat,2<=o/\o < 8/\(2+ns.getD 0 0 % 5+if decide (ns.getD 0 0 / 84 % 8=1)=true then 1 else 0)=(o:Int):=
  ⟨(2+ns.getD 0 0 % 5+if decide (ns.getD 0 0 / 84 % 8=1)=true then 1 else 0).toNat,by split <;> omega,by split <;> omega,by split <;> lia⟩
 obtain⟨o,o2,o8,eo⟩:=ho;rw[eo];obtain⟨P,e1⟩:=nJ ns vF 3 (by decide) o2 o8;rw[show IV ns 3 o=_ from e1];have ht:=jM o8 P;generalize (prs o).filter P=ts at ht;simp only[AB,BH];obtain⟨hs,e2,h2⟩:=gD ns (ts:=ts) (by have:=ht.ln;lia);rw[e2];simp only[AB];rw[ht.web (by lia) (by lia) h2];simp only[AB,BH,few2]
 have hg:∃g:Nat,1<=g/\g<=5/\g<=o/\(((atI [(3:Int),5] (if decide ((o:Int) < 6)=true then 1 else 0)).bind λy0=>some (if y0 < (o:Int)then y0 else(o:Int))).bind λzm=>QG (ns.getD 1 0) zm)=some ((g:Int) - 1):=by
  by_cases c:(o:Int) < 6
  ·rw[wX c,qX rfl,show atI [(3:Int),5] 1=some 5 from IC (by decide) rfl]
   simp only[AB]
   have hm:(0:Int) < (if (5:Int) < (o:Int)then(5:Int)else(o:Int))/\(if (5:Int) < (o:Int)then(5:Int)else(o:Int))<=5/\(if (5:Int) < (o:Int)then(5:Int)else(o:Int))<=o:=by split <;> lia
   rw[J8 hm.1];have h1:=lc (ns.getD 1 0) (show(if (5:Int) < (o:Int)then(5:Int)else(o:Int))≠0 by omega);have h2:=c7 (ns.getD 1 0) hm.1;exact⟨(ns.getD 1 0 % (if (5:Int) < (o:Int)then(5:Int)else(o:Int))).toNat+1,by lia,by omega,by lia,by congr 1;lia⟩
  ·rw[wY c,qY AK,show atI [(3:Int),5] 0=some 3 from IC (by decide) rfl]
   simp only[AB];rw[qX (show(3:Int) < (o:Int) by lia),J8 (by decide)];exact⟨(ns.getD 1 0 % 3).toNat+1,by lia,by lia,by lia,by congr 1;lia⟩
 obtain⟨g,g1,g5,go,eg⟩:=hg;rw[eg];simp only[AB,BH];rw[show(1:Int)+((g:Int) - 1)=(g:Int) by lia]
 obtain⟨kd,ek⟩:∃kd:Str,atI [("one" : Str), "all"] (ns.getD 2 0 % 2)=some kd:=by
  obtain⟨x,hx,-⟩:=Lz (l:=[("one" : Str), "all"]) (ns.getD 2 0) (by simp);exact⟨x,hx⟩
 rw[ek];simp only[AB,BH];have zw:=ht.ties o8;obtain⟨-,es,um,hl⟩:=Nz o o8 g (by lia) go g1;obtain⟨T,hT,eL,eF⟩:=p0 (kd:=kd) zw go g1;rw[es];simp only[AB,BH];rw[eL];simp only[AB,BH];rw[eF];simp only[AB,BH];obtain⟨cells,ec,-⟩:=jI ns vF;rw[ec];simp only[AB,BH];have hpos:0 < (sts o g).length:=EB.mpr um;rw[J8 (by lia)];simp only[AB];obtain⟨r1,e3,m1⟩:=Lz (l:=sts o g) (Ow ns) um;rw[e3];simp only[AB]
 obtain⟨r2,e4,m2⟩:∃r,atI (sts o g) 0=some r/\r∈sts o g:=⟨_,IC (by decide) (AU hpos),Ct _⟩
 obtain⟨r3,e5,m3⟩:∃r,atI (sts o g) (-1)=some r/\r∈sts o g:=by
  have uw:((sts o g).length:Int) + -1=(((sts o g).length - 1:Nat):Int):=by lia
  refine⟨(sts o g)[(sts o g).length - 1],?_,Ct _⟩;unfold atI ixN;rw[qY (by decide),qX (by lia)];show(sts o g)[_]?=_;rw[<-AU]
  congr 1
  lia
 rw[e4,e5];simp only[AB,few3]
 have mem:∀r∈[r1,r2,r3],Stg o g r:=λr hr=>(GK o8 go g1).mp (by
  rcases Ap.mp hr with h | h
  ·rw[h];exact m1
  ·rcases Ap.mp h with h | h
   ·rw[h];exact m2
   ·rw[Aa.mp h];exact m3)
 have L1:∀r∈((DW 0 (sts o g).length).filter λn=>!(Ai T n).isSome).map (evN o g),Stg o g r:=λr hr=>by
  obtain⟨n,hn,-⟩:=(PJ o8 go g1).mp hr;exact(GK o8 go g1).mp (BL hn)
 have L2':∀r∈((DW 0 (sts o g).length).filter λn=>!(Ai T n).isSome).map (evN o g),∀c:Int,0<=c->c < o->c∉r->∃s,Ans kd (Gj ts) r c s/\B2 s∈((DW 0 (sts o g).length).filter λn=>!(Ai T n).isSome).map (evN o g):=λr hr c c0 c1 c2=>by
  obtain⟨n,hn,hv⟩:=(PJ o8 go g1).mp hr;obtain⟨j,hj,hjv⟩:=hT.no n (AE.mp hn).1 hv c ((gv hn).mpr ⟨⟨c0,c1⟩,c2⟩);obtain⟨s,hs,ej⟩:=(gx zw go g1 hn c2).mp hj;exact⟨s,hs,(PJ o8 go g1).mpr ⟨j,ej,hjv⟩⟩
 refine OkF.out (OkF.seq (OkF.for (λ_ _=>True) trivial ?_) λ_ _=>.rt rfl);intro pre r _ hr _ _
 refine OkF.map (N:=λ_=>True) ?_ λ_ _=>trivial
 unfold Tw
 by_cases c:r∈((DW 0 (sts o g).length).filter λn=>!(Ai T n).isSome).map (evN o g)
 ·rw[wX c,qX rfl,kU ht o8 go g1 (by lia) L1 L2' c]
  exact .nx trivial
 ·rw[wY c,qY AK]
  obtain⟨n,hn,-⟩:=dn o8 go g1 (mem r hr)
  cases hv:Ai T (n:Int)with
  | none=>exact zX ((PJ o8 go g1).mpr ⟨n,hn,hv⟩) c
  | some z=>
   rw[lB ht o8 go g1 (by lia) hT hn hv];exact .nx trivial
theorem good:∀(W:Wd),W.excs.Nodup->∀ns:ZLi,ns.length<=63->∃S',aR W [.fro (ns.map D.int)] []=.ok (.bl true) S':=λW _ ns h=>VF.law (by rw[<-sr ns h];exact rE W ns)
end M
namespace PySem.W.Fast
def tw14785134041472754228:Nat:=0
def tw4970766224133674787:Nat:=0
def tw6308708546128364567:Nat:=0
def tw5834123727866666335:Nat:=0
def tw15780528584080610270:Nat:=0
def tw15998628198827161631:Nat:=0
def tw16402610498734939670:Nat:=0
def tw8442260594417448104:Nat:=0
def tw17103987341975438150:Nat:=0
def tw625764076182044165:Nat:=0
def tw2295906452720346613:Nat:=0
def tw7158067837711231301:Nat:=0
def tw8105836810611109026:Nat:=0
def tw9137770919033243214:Nat:=0
def tw14528040692322847425:Nat:=0
def tw11974585094920319872:Nat:=0
def tw12867740234703150151:Nat:=0
def tw17566812123824552339:Nat:=0
def tw2500155359466262738:Nat:=0
def tw4488151008982822630:Nat:=0
def tw11919338903844612619:Nat:=0
def tw5105457168829086168:Nat:=0
def tw8556676016707816878:Nat:=0
def tw7150428861667275695:Nat:=0
def tw370552495505644826:Nat:=0
def tw4945579859621296550:Nat:=0
def tw5610051306212763497:Nat:=0
def tw5929927743611457690:Nat:=0
def tw14744099882955551484:Nat:=0
def tw12446900319530447289:Nat:=0
def tw385011196521905864:Nat:=0
def tw14385598413200709150:Nat:=0
def tw17449807256527466497:Nat:=0
def tw2585302614862455375:Nat:=0
def tw18204671695497888071:Nat:=0
def tw16570592764454680439:Nat:=0
def tw6681023717037872890:Nat:=0
def tw4874339059624196715:Nat:=0
def tw16220472124264453792:Nat:=0
def tw7904544834972489115:Nat:=0
def tw6578293949895322472:Nat:=0
def tw4124099032441823781:Nat:=0
def tw11160933368171429756:Nat:=0
def tw311077513915836114:Nat:=0
def tw11482574435491841073:Nat:=0
def tw15913252902238816648:Nat:=0
def tw7809668661767738001:Nat:=0
def tw8628330508091642879:Nat:=0
def tw4902187367836507047:Nat:=0
def tw1771191224189492474:Nat:=0
def tw1622756874905438303:Nat:=0
def tw9898569413290222318:Nat:=0
def tw6134609295848431359:Nat:=0
def tw2043047313137549290:Nat:=0
def tw14464387061723013295:Nat:=0
def tw6887701653540003447:Nat:=0
def tw15202464155715061126:Nat:=0
def tw8567248031052969596:Nat:=0
def tw12724049485068502153:Nat:=0
def tw4790530941392501499:Nat:=0
def tw11628111959115102229:Nat:=0
def tw7976562673676344503:Nat:=0
def tw6485954285886752953:Nat:=0
def tw10893673406381514092:Nat:=0
def tw13219136074888290135:Nat:=0
def tw4157025044175643539:Nat:=0
def tw15201483694094049990:Nat:=0
def tw18341377662350792902:Nat:=0
def tw7879205813205495072:Nat:=0
def tw5008102852892576526:Nat:=0
def tw8021867970689008239:Nat:=0
def tw15887365321846602030:Nat:=0
def tw17416528775885367934:Nat:=0
def tw6802046671172629916:Nat:=0
def tw4690751420425580862:Nat:=0
def tw3196023138294552107:Nat:=0
def tw10119707229310279269:Nat:=0
def tw3344571322196101901:Nat:=0
def tw13531859033410452052:Nat:=0
def tw7898258769148824291:Nat:=0
def tw15856073595804801934:Nat:=0
def tw18162469358810981900:Nat:=0
def tw3499326421417259033:Nat:=0
def tw3764242146974309135:Nat:=0
def tw17026931244131160383:Nat:=0
def tw2837281216377374207:Nat:=0
def tw17960278342462194830:Nat:=0
def tw15513503774116627356:Nat:=0
def tw6376905345012170725:Nat:=0
def tw803026147509348779:Nat:=0
def tw13809458963788713459:Nat:=0
def tw12459890827400568088:Nat:=0
def tw9523945019361873098:Nat:=0
def tw1399691874824546856:Nat:=0
def tw8902075449766013915:Nat:=0
def tw15439091529948924487:Nat:=0
def tw13687524134623311653:Nat:=0
def tw12222741437280616519:Nat:=0
def tw13644149029393384913:Nat:=0
def tw11247183587303488643:Nat:=0
def tw17483322394771060709:Nat:=0
def tw14725042077687572718:Nat:=0
def tw2936925106780879610:Nat:=0
def tw3839857771643670188:Nat:=0
def tw14963829672832979183:Nat:=0
def tw6645448691109238677:Nat:=0
def tw17221494779494746152:Nat:=0
def tw10133592894370324114:Nat:=0
def tw14322864421586330823:Nat:=0
def tw13535505058192984783:Nat:=0
def tw772675939746161347:Nat:=0
def tw9965353463960082231:Nat:=0
def tw13821177046036702452:Nat:=0
def tw11388530624726510997:Nat:=0
def tw2221220401716845192:Nat:=0
def tw9136285940525941912:Nat:=0
def tw1944930544833666358:Nat:=0
def tw7683731885903107329:Nat:=0
def tw10938619858317297549:Nat:=0
def tw8114067512532024308:Nat:=0
def tw4159649136421817582:Nat:=0
end PySem.W.Fast
namespace M
open PySem PySem.Spec PyProof.Rows L2 PySem.W
theorem qF{l:OpenLaw}{w:CV}{K:Frag}{h:DT}{mg:Str->Option AJ}{fa:Ab}(X:K.In h)(G:h.Ns Bc mg)(hfa:mg "law" = some (.ref fa))
  {f1 f2 f3 f4 f5 f6 f7 f8 f9 f10 f11 f12 f13 f14 f15 f16 f17 f18 f19 f20 f21 f22 f23 f24 f25 f26 f27 f28 f29 f30 f31 f32 f33 f34 f35 f36 f37 f38 vM uc:Ab} {ux uh:Tok}
  (o_Web:ClsAt K "Web" vM)
  (o_Field:ClsAt K "Field" uc)
  (d1:EC K "checked_ties" JR f1)
  (d2:EC K "near_sets_of" JP f2)
  (d4:EC K "refuse_no_place" HD f4)
  (d5:EC K "near" Yp f5)
  (d6:EC K "takes_of" OH f6)
  (d7:EC K "bits_of" P8 f7)
  (d8:EC K "members" P6 f8)
  (d9:EC K "settle" SJ f9)
  (d10:EC K "fits" Yq f10)
  (d11:EC K "with_step" Mj f11)
  (d12:EC K "sets_of" P5 f12)
  (d13:EC K "ways_to_choose" Hv f13)
  (d14:EC K "how_many" OI f14)
  (d15:EC K "standings" Ml f15)
  (d22:EC K "falling_now" KL f22)
  (d23:EC K "fallen" SK f23)
  (d24:EC K "lasting_bits" JQ f24)
  (d25:EC K "lasting" P7 f25)
  (d26:EC K "falls" Vm f26)
  (d27:EC K "_law_cell_at" JS f27)
  (d28:EC K "_law_pairs" LR f28)
  (d29:EC K "_law_first_ties" HE f29)
  (d30:EC K "_law_ties" Mm f30)
  (d31:EC K "_law_handed" KM f31)
  (d32:EC K "_law_near" Mo f32)
  (d33:EC K "_law_sets" Mn f33)
  (d34:EC K "_law_answers" JT f34)
  (d35:EC K "_law_turns" LQ f35)
  (d36:EC K "_law_lasts" LS f36)
  (d37:EC K "_law_falls" LU f37)
  (d38:EC K "law" Zs f38)
  (d3:N8 K vM "__init__" "Web.__init__" OJ f3)
  (d16:N8 K uc "linked_by_one" "Field.linked_by_one" FM f16)
  (d17:N8 K uc "linked_by_all" "Field.linked_by_all" FO f17)
  (d18:N8 K uc "__init__" "Field.__init__" LV f18)
  (d19:N8 K uc "calls" "Field.calls" KN f19)
  (d20:N8 K uc "linked" "Field.linked" JU f20)
  (d21:N8 K uc "behind" "Field.behind" JV f21)
  (n_Web_places:findIn K (.ref vM) "places" = some none)
  (n_Web_ties:findIn K (.ref vM) "ties" = some none)
  (n_Web_near_sets:findIn K (.ref vM) "near_sets" = some none)
  (n_Field_everything:findIn K (.ref uc) "everything" = some none)
  (n_Field_kind:findIn K (.ref uc) "kind" = some none)
  (n_Field_takes:findIn K (.ref uc) "takes" = some none)
  (n_Field_numbers:findIn K (.ref uc) "numbers" = some none)
  (n_Field_having:findIn K (.ref uc) "having" = some none)
  (n_Field_place_bits:findIn K (.ref uc) "place_bits" = some none)
  (n_Field_known:findIn K (.ref uc) "known" = some none)
  (z_enumerate:TV K Bc "enumerate" = some none)
  (z_int:TV K Bc "int" = some none)
  (z_len:TV K Bc "len" = some none)
  (z_list:TV K Bc "list" = some none)
  (z_max:TV K Bc "max" = some none)
  (z_min:TV K Bc "min" = some none)
  (z_range:TV K Bc "range" = some none)
  (z_reversed:TV K Bc "reversed" = some none)
  (z_sorted:TV K Bc "sorted" = some none)
  (z_sum:TV K Bc "sum" = some none)
  (z_tuple:TV K Bc "tuple" = some none)
  (g_MOST_PLACES:TV K Bc "MOST_PLACES" = some (some (.int 60 ux)))
  (g_MOST_STANDINGS:TV K Bc "MOST_STANDINGS" = some (some (.int 400 uh)))
  : ∃(W:Wd) (T:Txt K mg W),fa=T.d_law.f/\W.excs.Nodup/\∀(s:AS) (v:AJ),YB s T.d_law.fd ⟨[v],[]⟩ [("script",v)]:=by
 obtain⟨zl,_,_,_,_,_,_,_,_,_,l,c,k⟩:=d38;have F:=gR (st:=Zs) l c k
 let W:Wd:=⟨vM,uc⟩
 let T:Txt K mg W:={
  d_checked_ties:=mkD X G d1 (bd2 λ_ _ _ _ _ _ _ _ _ _=>rfl)
  d_near_sets_of:=mkD X G d2 (bd2 λ_ _ _ _ _ _ _ _ _ _=>rfl)
  d_Web_init:=mkM d3 (bd3 λ_ _ _ _ _ _ _ _ _ _ _=>rfl)
  d_refuse_no_place:=mkD X G d4 (bd2 λ_ _ _ _ _ _ _ _ _ _=>rfl)
  d_near:=mkD X G d5 (bd2 λ_ _ _ _ _ _ _ _ _ _=>rfl)
  d_takes_of:=mkD X G d6 (bd1 λ_ _ _ _ _ _ _ _ _=>rfl)
  d_bits_of:=mkD X G d7 (bd1 λ_ _ _ _ _ _ _ _ _=>rfl)
  d_members:=mkD X G d8 (bd1 λ_ _ _ _ _ _ _ _ _=>rfl)
  d_settle:=mkD X G d9 (bd5 λ_ _ _ _ _ _ _ _ _ _ _ _ _=>rfl)
  d_fits:=mkD X G d10 (bd3 λ_ _ _ _ _ _ _ _ _ _ _=>rfl)
  d_with_step:=mkD X G d11 (bd3 λ_ _ _ _ _ _ _ _ _ _ _=>rfl)
  d_sets_of:=mkD X G d12 (bd2 λ_ _ _ _ _ _ _ _ _ _=>rfl)
  d_ways_to_choose:=mkD X G d13 (bd2 λ_ _ _ _ _ _ _ _ _ _=>rfl)
  d_how_many:=mkD X G d14 (bd2 λ_ _ _ _ _ _ _ _ _ _=>rfl)
  d_standings:=mkD X G d15 (bd2 λ_ _ _ _ _ _ _ _ _ _=>rfl)
  d_Field_linked_by_one:=mkM d16 (bd2 λ_ _ _ _ _ _ _ _ _ _=>rfl)
  d_Field_linked_by_all:=mkM d17 (bd2 λ_ _ _ _ _ _ _ _ _ _=>rfl)
  d_Field_init:=mkM d18 (bd4 λ_ _ _ _ _ _ _ _ _ _ _ _=>rfl)
  d_Field_calls:=mkM d19 (bd2 λ_ _ _ _ _ _ _ _ _ _=>rfl)
  d_Field_linked:=mkM d20 (bd2 λ_ _ _ _ _ _ _ _ _ _=>rfl)
  d_Field_behind:=mkM d21 (bd3 λ_ _ _ _ _ _ _ _ _ _ _=>rfl)
  d_falling_now:=mkD X G d22 (bd2 λ_ _ _ _ _ _ _ _ _ _=>rfl)
  d_fallen:=mkD X G d23 (bd1 λ_ _ _ _ _ _ _ _ _=>rfl)
  d_lasting_bits:=mkD X G d24 (bd2 λ_ _ _ _ _ _ _ _ _ _=>rfl)
  d_lasting:=mkD X G d25 (bd3 λ_ _ _ _ _ _ _ _ _ _ _=>rfl)
  d_falls:=mkD X G d26 (bd3 λ_ _ _ _ _ _ _ _ _ _ _=>rfl)
  d__law_cell_at:=mkD X G d27 (bd2 λ_ _ _ _ _ _ _ _ _ _=>rfl)
  d__law_pairs:=mkD X G d28 (bd1 λ_ _ _ _ _ _ _ _ _=>rfl)
  d__law_first_ties:=mkD X G d29 (bd2 λ_ _ _ _ _ _ _ _ _ _=>rfl)
  d__law_ties:=mkD X G d30 (bd3 λ_ _ _ _ _ _ _ _ _ _ _=>rfl)
  d__law_handed:=mkD X G d31 (bd2 λ_ _ _ _ _ _ _ _ _ _=>rfl)
  d__law_near:=mkD X G d32 (bd2 λ_ _ _ _ _ _ _ _ _ _=>rfl)
  d__law_sets:=mkD X G d33 (bd2 λ_ _ _ _ _ _ _ _ _ _=>rfl)
  d__law_answers:=mkD X G d34 (bd4 λ_ _ _ _ _ _ _ _ _ _ _ _=>rfl)
  d__law_turns:=mkD X G d35 (bd3 λ_ _ _ _ _ _ _ _ _ _ _=>rfl)
  d__law_lasts:=mkD X G d36 (bd6 λ_ _ _ _ _ _ _ _ _ _ _ _ _ _=>rfl)
  d__law_falls:=mkD X G d37 (bd5 λ_ _ _ _ _ _ _ _ _ _ _ _ _=>rfl)
  d_law:=⟨f38,_,F,F.binds ((bd1 λ_ _ _ _ _ _ _ _ _=>rfl) _ _),qP X G zl⟩
  c_Web:=mkO X G o_Web d3
  n_Web_places:=n_Web_places
  n_Web_ties:=n_Web_ties
  n_Web_near_sets:=n_Web_near_sets
  c_Field:=mkO X G o_Field d18
  n_Field_everything:=n_Field_everything
  n_Field_kind:=n_Field_kind
  n_Field_takes:=n_Field_takes
  n_Field_numbers:=n_Field_numbers
  n_Field_having:=n_Field_having
  n_Field_place_bits:=n_Field_place_bits
  n_Field_known:=n_Field_known
  m_Field_linked_by_one:=mkE d16
  m_Field_linked_by_all:=mkE d17
  m_Field_calls:=mkE d19
  m_Field_linked:=mkE d20
  m_Field_behind:=mkE d21
  b_enumerate:=Fb X G z_enumerate
  b_int:=Fb X G z_int
  b_len:=Fb X G z_len
  b_list:=Fb X G z_list
  b_max:=Fb X G z_max
  b_min:=Fb X G z_min
  b_range:=Fb X G z_range
  b_reversed:=Fb X G z_reversed
  b_sorted:=Fb X G z_sorted
  b_sum:=Fb X G z_sum
  b_tuple:=Fb X G z_tuple
  g_MOST_PLACES:=⟨ux,qP X G g_MOST_PLACES⟩
  g_MOST_STANDINGS:=⟨uh,qP X G g_MOST_STANDINGS⟩ }
 refine⟨W,T,?_,EX,λs v=>.of_eq rfl⟩;have e:=hfa.symm.trans (qP X G zl);cases e;rfl
theorem walk{l:OpenLaw}{q:Bs}{loose:List Str}{XP:(Str->Option AJ)->DT->Prop}{YP:CV->DT->Prop}{d:DefRec}{K:Params->Frag}(hn:l.most=some 63)(yA:d.params.defaults=[])
  (hY:∀(w:CV) (h:DT),YP w h->(K w.params).In h)
  (F:∀(w:CV) (mg:Str->Option AJ) (fa:Ab) (h:DT),(K w.params).In h->h.Ns Bc mg->mg d.name=some (.ref fa) ->
   ∃(W:Wd) (T:Txt (K w.params) mg W),fa=T.d_law.f/\W.excs.Nodup/\∀(s:AS) (v:AJ),YB s T.d_law.fd ⟨[v],[]⟩ [("script",v)])
  (good:∀(W:Wd),W.excs.Nodup->∀ns:ZLi,ns.length<=63->∃S',aR W [.fro (ns.map D.int)] []=.ok (.bl true) S') :
  WalkO q loose XP YP l.row.toRowW d [] (λf vs=>aw f vs):=
 L2.ip (n:=63) (k:=18) (x:="script") (CX:=λw=>CXG l.prog w) (sp:=λw=>dr (K w.params)) hn (by decide) yA ⟨rfl,by decide,by decide⟩ hY
  (λw mg fa h KX G xx=>by
   obtain⟨W,T,e,nd,hb⟩:=F w mg fa h KX G xx;subst e
   exact⟨T.d_law.fd,hb,λbase _ _=>fY (oj T) (good W nd)⟩)
  (λ_ _ a ns hl hO hS=>⟨a,ns,rfl,pY hO hS,hl,λ_=>rfl⟩) (λw H s e s' z=>qA z)
end M
open PySem PySem.W PyProof.Rows
set_option maxRecDepth 100000 in
set_option maxHeartbeats 0 in
theorem PySem.Challenge.cw_guardround_k22_whole_two_hands_holds : PySem.Challenge.rw_guardround_k22_whole_two_hands.Holds := by
 w_on;o_law;k_head;(case hw=>w_witness2)
 k_fill
 refine M.walk (l:=IG) rfl rfl (λw h Y=>by first | exact kIn_of Y | exact km_in_of Y) ?F M.good
 case F=>
  intro w mg fa h KX G xx;refine' M.qF (l:=IG) (w:=w) KX G xx ?o_Web ?o_Field ?d1 ?d2 ?d4 ?d5 ?d6 ?d7 ?d8 ?d9 ?d10 ?d11 ?d12 ?d13 ?d14 ?d15 ?d22 ?d23 ?d24 ?d25 ?d26 ?d27 ?d28 ?d29 ?d30 ?d31 ?d32 ?d33 ?d34 ?d35 ?d36 ?d37 ?d38 ?d3 ?d16 ?d17 ?d18 ?d19 ?d20 ?d21 ?n_Web_places ?n_Web_ties ?n_Web_near_sets ?n_Field_everything ?n_Field_kind ?n_Field_takes ?n_Field_numbers ?n_Field_having ?n_Field_place_bits ?n_Field_known ?z_enumerate ?z_int ?z_len ?z_list ?z_max ?z_min ?z_range ?z_reversed ?z_sorted ?z_sum ?z_tuple ?g_MOST_PLACES ?g_MOST_STANDINGS
  (case o_Web | o_Field=>exact⟨by k_is,by k_is,by k_is,by k_is,by k_is,by k_is,by k_is⟩)
  (case d1 | d2 | d4 | d5 | d6 | d7 | d8 | d9 | d10 | d11 | d12 | d13 | d14 | d15 | d22 | d23 | d24 | d25 | d26 | d27 | d28 | d29 | d30 | d31 | d32 | d33 | d34 | d35 | d36 | d37 | d38=>exact⟨by k_is,_,_,_,_,_,_,_,_,_,by k_is,by k_is,by k_is⟩)
  (case d3 | d16 | d17 | d18 | d19 | d20 | d21=>exact⟨by k_is,by k_is,_,_,_,_,_,_,_,_,_,by k_is,by k_is,by k_is⟩)
  (case n_Web_places | n_Web_ties | n_Web_near_sets | n_Field_everything | n_Field_kind | n_Field_takes | n_Field_numbers | n_Field_having | n_Field_place_bits | n_Field_known | z_enumerate | z_int | z_len | z_list | z_max | z_min | z_range | z_reversed | z_sorted | z_sum | z_tuple | g_MOST_PLACES | g_MOST_STANDINGS=>k_is)
#print axioms PySem.Challenge.cw_guardround_k22_whole_two_hands_holds
