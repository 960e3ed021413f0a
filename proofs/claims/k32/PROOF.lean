import PyProof.Rows.All
import Wide.All
import OpenK.AllK
import Wide.FinOn
import Lean
import PyProof.EqAt
import PyProof.EqKinds
import PyProof.TupleCall
import PyProof.ExcBaseAll.ValueError
import PyProof.NsDelKeeps
import PyProof.NeKinds
import PyProof.Rows.SortShell
import PyProof.Rows.FStr
import PyProof.FString
import PyProof.ExcAttrAll.ValueError
import PyProof.ExcArgsOwn
import PyProof.Rows.SortRuns
import PyProof.TupleIter
import PyProof.Dict
import KE.KDictSum
import PyProof.Rows.SetFrom
import PyProof.SetRoads
import PyProof.Rows.Range3
import PyProof.WalksMore
import PyProof.TupleOfSeq
import PyProof.EnumMake
import PyProof.SliceList
import PyProof.MinMaxWalk
import PyProof.Rows.EnumRows
import PyProof.WalkInts
import PyProof.Rows.SeqCalls
import KE.KRevIter
import PyProof.CollectIter
import PyProof.TupleOfGen
import PyProof.Rows.FactsT2
import PyProof.ListRange
import PyProof.Rows.CallKwBuiltin
import PyProof.ZipIter
import PyProof.Rows.ZipGen
import PyProof.Rows.RuleM_int
import PyProof.Rows.AssignMoreSeq
import KE.KIntText
import PyProof.Rows.StrKeys3
import PyProof.StrBlock
import PyProof.StrCalls2
import PyProof.StrWalks
import PyProof.Rows.RuleN_abs
import PySem.Challenge.RW_guardround_k32_whole_known_webs
set_option Elab.async false
set_option linter.all false
set_option maxRecDepth 100000
set_option maxHeartbeats 8000000
theorem qX{c:Prop}{h:Decidable c}(hc:c){α:Sort u}{t e:α}:ite c t e=t:=if_pos hc
theorem qY{c:Prop}{h:Decidable c}(hc:Not c){α:Sort u}{t e:α}:ite c t e=e:=if_neg hc
theorem wX{p:Prop}[i:Decidable p](h:p):decide p=true:=decide_eq_true h
theorem wY{p:Prop}[i:Decidable p](h:Not p):decide p=false:=decide_eq_false h
theorem zX{a b:Prop}(h:a)(n:Not a):b:=absurd h n
noncomputable section
open Array renaming back?->mS,ext'->m6,getD_eq_getD_getElem?->IA,getElem?_eq_getElem->SD,getElem?_toList->V6,length_toList->Bq,mem_toList_iff->FF,perm_iff_toList_perm->Im,toList->jD,toList_map->J1
open Array.Perm renaming refl->Nr
open Bool renaming and_eq_true->Ax,false_eq_true->Dm,false_ne_true->AI,false_or->jC,not_eq_true'->Om,not_false->iT,not_true->jB,or_eq_true->Bk,true_and->jA,true_or->Ol
open Classical renaming byContradiction->FD,choose->Ca,choose_spec->Da
open Eq renaming trans->HD
open False renaming elim->D6
open ForInStep renaming yield->HN
open Int renaming fdiv_eq_ediv_of_nonneg->S7,le_antisymm->iS,le_refl->pz,lt_trichotomy->O7,natCast_nonneg->JL,one_mul->pw,toNat_natCast->Aq,toNat_of_nonneg->BD
open List renaming Nodup->Is,all_eq_true->CO,all_map->mN,any_cons->HY,any_eq_false->aB,any_eq_true->B9,any_toArray->Kh,append_assoc->D4,append_nil->CL,contains_iff_mem->A0,drop_drop->iR,drop_eq_getElem_cons->Jc,drop_nil->i9,drop_of_length_le->Gp,eq_nil_of_length_eq_zero->P9,exists_mem_of_ne_nil->FX,ext_getElem?->Ji,filterMap_cons->M4,filter_cons_of_neg->Ua,filter_cons_of_pos->UZ,find?_cons->B1,find?_eq_none->Ir,find?_isSome->aA,find?_some->di,flatMap_cons->Z9,foldl_append->Go,foldl_nil->SB,forIn_cons->dh,forIn_nil->SA,getD_eq_getElem?_getD->Bs,getElem?_append_left->Ao,getElem?_append_right->Bg,getElem?_drop->Nq,getElem?_eq_getElem->AZ,getElem?_eq_none->Bp,getElem?_eq_none_iff->FW,getElem?_eq_some_iff->AE,getElem?_map->Aa,getElem?_range->DX,getElem?_replicate->DQ,getElem?_set->DP,getElem?_set_ne->AY,getElem?_set_self->Ai,getElem?_zipIdx->Hl,getElem_inj->dN,getElem_mem->De,getElem_of_mem->CQ,getElem_zip->HV,length->MJ,length_append->As,length_cons->Aj,length_drop->FT,length_erase_of_mem->Js,length_filter_le->WF,length_map->AC,length_nil->Hw,length_range->Z8,length_replicate->Ln,length_set->DS,length_singleton->BW,length_take->EK,length_zip->Hv,lookup->Hk,lookup_cons->BQ,map->Xd,mapM_toArray->Z7,map_append->Cf,map_congr_left->DW,map_cons->A9,map_id->P8,map_id'->mM,map_map->BC,map_nil->Oh,map_take->i8,mem_append->BI,mem_append_left->BF,mem_append_right->BP,mem_cons->AV,mem_cons_of_mem->AJ,mem_cons_self->AO,mem_filter->BN,mem_filterMap->Z2,mem_map->Al,mem_map_of_mem->Ct,mem_of_find?_eq_some->Sy,mem_of_getElem?->BE,mem_range->Iq,mem_singleton->Ah,mem_singleton_self->UY,mergeSort_perm->Yf,ne_nil_of_mem->Ip,nil_append->df,nodup_append->Ev,nodup_cons->BM,nodup_nil->Dk,not_mem_nil->EJ,of_mem_zip->Hu,pairwise_append->Hj,pairwise_cons->Np,pairwise_iff_getElem->Sx,pairwise_map->Bc,pairwise_mergeSort->UX,pairwise_singleton->UW,range->C9,range_succ->Ky,replicate->Bf,set_set->mL,size_toArray->Ab,take_add_one->Jh,take_length->Kg,take_of_length_le->EY,take_sublist->Z6,take_zero->iQ,zipIdx_nil->de,zip_cons_cons->GB
open List.Nodup renaming mem_erase_iff->Pl
open List.Pairwise renaming and->SC,nil->mj
open Nat renaming add_le_add_left->CS,and_div_two->Rn,and_mod_two_pow->NA,le_of_eq->mf,le_of_lt->Kx,le_of_not_lt->P7,le_of_succ_le->O5,le_refl->AK,le_succ->MY,le_trans->Aw,lt_irrefl->Dd,lt_of_le_of_lt->At,lt_of_lt_of_le->AS,lt_of_not_le->dc,lt_succ_of_lt->O4,lt_succ_self->DD,lt_trans->me,min_le_right->db,mod_two_eq_zero_or_one->JK,ne_of_gt->Ec,ne_of_lt->BB,not_lt->HX,not_lt_zero->Lm,pow_le_pow_right->Ye,pow_succ->WE,strongRecOn->iP,succ_ne_self->da,testBit->pq,testBit_and->Rj,testBit_lt_two_pow->WD,testBit_or->Sw,testBit_succ->FV,testBit_two_pow->Ij,testBit_zero->FU,two_pow_pos->iO,zero_add->O3,zero_le->Dc,zero_testBit->dZ
open Nat.succ renaming inj->M3
open Ne renaming symm->CF
open Option renaming bind_some->AG,getD_none->Z1,getD_some->Og,isSome_iff_exists->C2,isSome_map->Gh,isSome_some->Xb,map->mJ,map_eq_some_iff->Gg
open Option.some renaming inj->Bh
open Or renaming inl->Of,inr->M2
open Prod renaming ext->Xa
open Prod.mk renaming inj->HM,injEq->Ri
open PyProof.Rows renaming AllBare->Jj,IntsAre->F9,IsTup->mO,Keyed->DA,SortKind->Nz,SortSt->Es,Subscript_->i6,arrOf->An,boot_bool->pp,boot_int->P6,boot_isinstance->pd,boot_max->pZ,boot_min->pY,boot_sorted->pX,boot_sum->pW,boot_tuple->pV,bubble->i5,callWith_builtin1->pU,callWith_type1->ER,envOfC->MV,firstOfTuple'->Yb,general'->V8,listUpdate_at->Ya,ltAt'->mE,mirror->Jx,mirror_perm->UQ,pairsOf->Kt,pairsOf_size->Rb,pendingOf->Bv,reverseSlice'->Pk,reverseSlice'_eq->L8,seqEpoch_at->dW,seqObj->JH,slot_tuple_getitem->Fo,sortedHeap->iy,subscriptTail->YY,subscriptTail_builtinR->Z4,tuples'->ly,wpS_bind->Bi,wpS_forRange->HW,wpS_get->Vz,wpS_modify->Jt,wpS_mono->Nt,wpS_pure->CT
open PyProof.Rows.IsTup renaming new->aC
open PyProof.Rows.SortSt renaming mk'->Kf
open PySem renaming Addr->AU,Around->CC,BindsTo->V5,Builtin->mR,DictEntry->Oj,FuncData->Jz,Heap->Cu,IsEnum->S6,IsPart->Sz,Keyword->Oi,NameKind->N0,Paired->Fj,PassesOwn->Sv,Program->Ba,Scope->Rh,Shared->AL,Stmt->DB,Value->AH,Within->UV,World->Bx,again->mF,assign->WB,assignEach->Gz,atKey->WA,attributeBase->EQ,backTo->Dp,backToKw->Rf,behindInMarks->DN,binaryOp->Cr,bindArgs->dY,bindC->Zz,bindL->Zy,bootBuiltins->Fv,builtinsNs->V9,cLine->Fi,call->Yc,call_meets->i4,callerA->Re,cellsFrom->B0,codeAny->MW,codeAny_mono->Rc,compareOp->CM,concat_meets->Z5,eval->CH,firstArgMember->Ny,foldedSetIterable->FR,getItem->MU,getMethod->Zx,holding->V0,isTrue->i3,keywordEach->Ku,letOwnedTupleGo->M1,mainGlobals->BL,mem_of_lookup->DT,model->Ak,newFunctionEnv->V7,noFill_tuple_add->Sq,preSum->P3,pushCells->Ea,pushCells_keeps->UU,pyIter->iz,pyNext->Sn,rawInt->Nx,relabel->Jd,seqIndex_of->dU,seq_tuple_add->YZ,setItem->mD,sizeLine_eq->dS,sliceBounds->Ik,slot_list_getitem->l8,standAt->lz,starEach->AX,storeName->mY,subscripted->UP,swapsWith->Fu,sysModules->Db,tupleKind->Sm,tupleKind_room_in1->Jw,valueAt->Ra,wpAny->Ae,wpAny_Call_Name_kw->Jv,wpAny_Dict_empty->mX,wpAny_Name->iw,wpAny_assign_Name->lw,wpAny_attempt->Pj,wpAny_bind->AB,wpAny_callSpecial?_slot->DZ,wpAny_call_entry->Dv,wpAny_comprehension_free->YX,wpAny_dictEntries->RZ,wpAny_dictEpoch->UT,wpAny_eqBool_int->mW,wpAny_execs_cons->mV,wpAny_execs_nil->M0,wpAny_field->HC,wpAny_fieldsOf->Nv,wpAny_holding->Pi,wpAny_isInstance->mU,wpAny_isOneOf_keyiter->M5,wpAny_isTrue_Compare1->dL,wpAny_loadName_cell->iM,wpAny_loadName_local->dR,wpAny_loadPart'->Mz,wpAny_mono->Gy,wpAny_newObj_type->Ce,wpAny_passesOwn->FE,wpAny_pure->AM,wpAny_pyIter_enum->Ks,wpAny_pyIter_keyiter->dQ,wpAny_pyIter_tuple->Ju,wpAny_rule->iu,wpAny_setField->Nu,wpAny_truthy_bool->DY,wpAny_typeNameOfWhole_keyiter->Ep,wpAny_typeNameOf_keyiter->Gi
open PySem.Around renaming under->US
open PySem.Builtin renaming bitAnd->BU,bitNot->aD,bitOr->CJ,bitXor->EA
open PySem.Builtin.Dict renaming dictSlotNone->p7,showsAll->QA
open PySem.Builtin.Dict_items renaming ownsTuple->Kv
open PySem.Builtin.Int renaming intBits->DG
open PySem.Builtin.List renaming listItems->Iu,listTooLong->Hx
open PySem.Builtin.Range renaming rangeSize->mz
open PySem.Builtin.Slice renaming sliceAdjust->HZ,sliceApplied->NB,sliceFields->mw,slicePartIndex->mr,slicePlaces->Ej
open PySem.Builtin.SmallTypes renaming nextOf->ES
open PySem.Builtin.Tuple renaming tupleExact->Ew,tupleItemsOf->mq
open PySem.Calls renaming Name_function_global->Ro,callWith_builtin->Ub
open PySem.Challenge renaming pw_guardround_k32_whole_known_webs->i7,rw_guardround_k32_whole_known_webs->G0
open PySem.Code renaming frames->mm,isFrame->V4
open PySem.Data renaming cell->dO,fields->Xf
open PySem.F renaming args_dict_keyiterator_next_1->MA,args_tuple_add_2->JI,args_tuple_iterator_next_1->S8,entry_dict_keyiterator_next->MH,entry_tuple_add->Jg,entry_tuple_iterator_next->UR,plainAttrs_list->Jf,slot_dict_iter->Su,slot_dict_keyiterator_next->CZ,slot_enumerate_next->Z3,slot_tuple_add->Jy,slot_tuple_iterator_next->FY
open PySem.Heap renaming ExtBut->Xe,SameBut->EZ,get?_push_of_some->AR,get?_push_size->Af,get?_update_ne->Yg,get?_update_other->V3,get?_update_self->Lp,lt_size->Ad,size_push->EL
open PySem.Heap.IsSliceOf renaming new->mP
open PySem.Heap.SameBut renaming refl->p0,update->G1
open PySem.NameKind renaming cell->Ck,free->FS
open PySem.Obj renaming cls_mapFields->dM,data_mapFields->JJ,isFreed_of_fields->Xc,mapFields->mK,mapSeq->FL
open PySem.Paired renaming length->Eb,snoc->V2
open PySem.SeqAt.RcAt renaming tuples->mZ
open PySem.Str renaming ofString->Il
open PySem.Value renaming bool->Rg,bytes->mI,float->WC,int->O0,isInt->mH,isStrOf->iN,none->DO,ref->BA,str->Oz,type->Fy
open PySem.W renaming Frag->AF,callWith_K->MX,cellsFrom_some->Ss,codeIn->P5,emptyDict->Cm,findIn->DC,fnOf->Hn,handedIn->Yd,hasDictIn->M9,instObj->Ds,isFn->Sr,kdu_collect->V1,keepIn->Eu,kia_one->CU,kitOne->Et,kitx_dict->XZ,kitx_list->XY,lookIn->Kw,makesIn->Z0,methodObj->M6,mg_none_of->Er,mg_of->dX,nsIn->P4,plainGet->Je,plainGet_of->L9,plainOver->XX,takerIn->O2
open PySem.W.Looks renaming here->md
open PySem.W.WData renaming int->pS
open PySem.W.WShape renaming has->mG
open PySem.Within renaming cons->pT
open Sum renaming inl->DR,inr->O1
open True renaming intro->EX
namespace L2
open PySem PySem.Spec PyProof.Rows
abbrev Key:=Sum Int Str
def SU:Key->AH->Bool
 | .inl k,v=>mH k v
 | .inr x,v=>iN x v
def keyH(w:Bx):Key->Int
 | .inl k=>hashInt k
 | .inr x=>hashStr w x
theorem DF:∀{k:Key} {v:AH},SU k v=true->(∃i t,k=DR i/\v=O0 i t)∨(∃x t,k=O1 x/\v=Oz x t)
 | .inl i,v,h=>by
  obtain⟨t,e⟩:=AH.isInt_shape (k:=i) (v:=v) h;exact .inl ⟨i,t,rfl,e⟩
 | .inr x,v,h=>by
  obtain⟨t,e⟩:=AH.isStrOf_shape (x:=x) (v:=v) h;exact .inr ⟨x,t,rfl,e⟩
theorem ZT(i:Int)(t:Tok):SU (.inl i) (.int i t)=true:=by simp[SU,mH]
theorem ZS(x:Str)(t:Tok):SU (.inr x) (.str x t)=true:=by simp[SU,iN]
theorem ko(a b:Int):decide ((DR a:Key)=DR b)=(a==b):=by
 by_cases e:a=b
 ·subst e;simp
 ·have h:¬(DR a:Key)=DR b:=λq=>e (DR.inj q)
  rw[wY h];exact(beq_eq_false_iff_ne.mpr e).symm
theorem kj(a b:Str):decide ((O1 a:Key)=O1 b)=decide (a=b):=by
 by_cases e:a=b
 ·subst e;simp
 ·have h:¬(O1 a:Key)=O1 b:=λq=>e (O1.inj q)
  rw[wY h,wY e]
theorem kn(a:Int)(b:Str):decide ((DR a:Key)=O1 b)=false:=wY (λq=>nomatch q)
theorem kl(a:Str)(b:Int):decide ((O1 a:Key)=DR b)=false:=wY (λq=>nomatch q)
def D8(prog:Ba)(w:Bx):PySem.KeyKind prog w Key where
 is:=SU
 hash:=keyH w
 inj:=λv a b ha hb=>by
  rcases DF ha with⟨i,t,rfl,rfl⟩ | ⟨x,t,rfl,rfl⟩
  ·rcases DF hb with⟨j,u,rfl,e⟩ | ⟨y,u,rfl,e⟩
   ·injection e with e1 _;rw[e1]
   ·exact nomatch e
  ·rcases DF hb with⟨j,u,rfl,e⟩ | ⟨y,u,rfl,e⟩
   ·exact nomatch e
   ·injection e with e1 _;rw[e1]
 byValue:=λk v h=>by
  rcases DF h with⟨i,t,rfl,rfl⟩ | ⟨x,t,rfl,rfl⟩ <;> rfl
 pyHash:=λhv h=>by
  rcases DF hv with⟨i,t,rfl,rfl⟩ | ⟨x,t,rfl,rfl⟩
  ·exact wpAny_pyHash_int h
  ·exact wpAny_pyHash_str h
 eqBool:=λhu hv h=>by
  rcases DF hu with⟨i,t,rfl,rfl⟩ | ⟨x,t,rfl,rfl⟩
  ·rcases DF hv with⟨j,u,rfl,rfl⟩ | ⟨y,u,rfl,rfl⟩
   ·rw[ko]at h;exact mW h
   ·rw[kn]at h;exact SeqAt.EqAt.int_str i t y u _ _ _ _ h
  ·rcases DF hv with⟨j,u,rfl,rfl⟩ | ⟨y,u,rfl,rfl⟩
   ·rw[kl]at h;exact SeqAt.EqAt.str_int x t j u _ _ _ _ h
   ·rw[kj]at h;exact wpAny_eqBool_str h
 «strs»:=λk x t v h=>by
  rcases DF h with⟨i,u,rfl,e⟩ | ⟨y,u,rfl,e⟩
  ·exact nomatch e
  ·injection e with e1 _
   subst e1
   cases v <;> rfl
theorem VY(prog:Ba)(w:Bx)(i:Int)(t:Tok):(D8 prog w).is (.inl i) (.int i t)=true:=ZT i t
theorem VX(prog:Ba)(w:Bx)(x:Str)(t:Tok):(D8 prog w).is (.inr x) (.str x t)=true:=ZS x t
inductive V where
 | non | bl (b:Bool) | int (i:Int) | str (x:Str) | byt (b:Array UInt8) | flt (b:UInt64) | ref (a:AU) | ty (n:String)
 deriving DecidableEq
def RelV:V->AH->Prop
 | .non,u=>u=DO
 | .bl b,u=>u=Rg b
 | .int i,u=>∃t,u=O0 i t
 | .str x,u=>∃t,u=Oz x t
 | .byt b,u=>∃t,u=mI b t
 | .flt b,u=>∃t,u=WC b t
 | .ref a,u=>u=BA a
 | .ty n,u=>u=Fy n
abbrev Bn:List V->List AH->Prop:=Fj RelV
theorem Bn.length(r:Bn xs us):xs.length=us.length:=Eb r
theorem Bn.get:∀{xs:List V} {us:List AH} {i:Nat} {x:V},Bn xs us->xs[i]?=some x->∃u,us[i]?=some u/\RelV x u
 | _,_,_,_,.nil,e=>by simp at e
 | _,_,0,_,.cons r _,e=>by simp at e;subst e;exact⟨_,rfl,r⟩
 | _,_,i+1,x,.cons _ t,e=>by
  obtain⟨u,h1,h2⟩:=Bn.get (i:=i) (x:=x) t (by simpa using e);exact⟨u,by simpa using h1,h2⟩
theorem Bn.set(r:RelV x u):∀{xs:List V} {us:List AH} (i:Nat),Bn xs us->Bn (xs.set i x) (us.set i u)
 | _,_,_,.nil=>.nil
 | _,_,0,.cons _ t=>.cons r t
 | _,_,i+1,.cons q t=>.cons q (Bn.set r i t)
theorem Bn.append:∀{xs ys:List V} {us ws:List AH},Bn xs us->Bn ys ws->Bn (xs++ys) (us++ws)
 | _,_,_,_,.nil,s=>s
 | _,_,_,_,.cons r t,s=>.cons r (Bn.append t s)
theorem Bn.take:∀{xs:List V} {us:List AH} (n:Nat),Bn xs us->Bn (xs.take n) (us.take n)
 | _,_,0,_=>.nil
 | _,_,_+1,.nil=>.nil
 | _,_,n+1,.cons r t=>.cons r (Bn.take n t)
theorem Bn.drop:∀{xs:List V} {us:List AH} (n:Nat),Bn xs us->Bn (xs.drop n) (us.drop n)
 | _,_,0,r=>r
 | _,_,_+1,.nil=>.nil
 | _,_,n+1,.cons _ t=>Bn.drop n t
def MF:Option V->Option AH->Prop
 | some v,some u=>RelV v u
 | none,none=>True
 | _,_=>False
def KV{κ:Type}:List (κ×V)->List (κ×AH)->Prop:=Fj λ(p:κ×V) (q:κ×AH)=>p.1=q.1/\RelV p.2 q.2
def kV:Key->V
 | .inl i=>.int i
 | .inr x=>.str x
inductive HO where
 | lst (xs:List V)
 | tup (xs:List V)
 | dK (f':List (Key×V)) | dT (f':List (List Key×V))
 | set (S:Int->Bool) (n:Nat)
 | ins (C dx:AU) (fs:List (Str×V))
 | own (x:AU)
 | xd (fs:List (Str×V))
 | met (f x:AU)
 | rng (lo hi:Int)
 | frz (o:Obj) (u:HO)
 | tbl (ps:Array AH)
 | ext (φ:Cu->Prop)
abbrev Hp:=AU->Option HO
def upd(H:Hp)(a:AU)(o:HO):Hp:=λb=>if b=a then some o else H b
theorem Bu:upd H a o a=some o:=by unfold upd;rw[qX rfl]
theorem BX(h:b≠a):upd H a o b=H b:=by unfold upd;rw[qY h]
theorem oP{H:Hp}{a b:AU}{o u:HO}(h:H a=some o)(h':H b=some u)(d:o≠u):a≠b:=by
 intro e;subst e;rw[h]at h';exact d (Bh h')
theorem CP{H:Hp}{a b:AU}{o:HO}(h:H a=some o)(h':H b=none):a≠b:=by
 intro e;subst e;rw[h]at h';cases h'
section
variable(P:Ba)(w:Bx)
def Cj(H:Hp)(h:Cu)(a:AU):HO->Prop
 | .lst xs=>xs.length<=sizeLine/\∃(i':List AH) (n:Nat),Bn xs i'/\h.get? a=some { cls:=.type "list",data:=.seq i'.toArray n }
 | .tup xs=>(xs.length<=sizeLine/\∃o,h.get? a=some o/\o.dict=none)/\∃i':List AH,Bn xs i'/\mO h a i'.toArray
 | .dK f'=>f'.length<=sizeLine/\(a==Db)=false/\∃vs,KV f' vs/\h.DictOf (D8 P w) a vs
 | .dT f'=>f'.length<=sizeLine/\(a==Db)=false/\∃xs:List (List Key×AU×AH),
   Fj (λ(p:List Key×V) (q:List Key×AU×AH)=>p.1=q.1/\H q.2.1=some (.tup (p.1.map kV))/\RelV p.2 q.2.2) f' xs /\
   ∃o es ep,h.get? a=some o/\o.ExactDict/\o.data=.dict es ep/\es.toList=xs.map (entryOfKey (Sm (D8 P w)))/\(xs.map (·.1)).Nodup
 | .set S n=>h.SetOf (intKind P w) a S n
 | .ins C dx fs=>H dx=some (.own a)/\fs.length<=1000/\dx≠a/\h.get? a=some (Ds C dx) /\
   ∃mA,h.Ns1 dx mA/\(∀f,MF (fs.lookup f) (mA f))/\UV mA (fs.map (·.1))
 | .own _=>∃o,h.get? a=some o
 | .xd fs=>∃mA,h.Ns1 a mA/\∀f,MF (fs.lookup f) (mA f)
 | .rng lo hi=>∃t u v,h.get? a=some { cls:=.type "range",data:=.fields #[.int lo t,.int hi u,.int 1 v] }
 | .frz o u=>h.get? a=some o/\Cj H h a u
 | .tbl ps=>h.get? a=some { cls:=.none,data:=.fields ps }
 | .met f x=>h.get? a=some (M6 (.ref f) (.ref x))
 | .ext φ=>φ h/\(∃o,h.get? a=some o)/\∀h1 h2:Cu,φ h1->(∀o,h1.get? a=some o->h2.get? a=some o)->φ h2
def HOk(H:Hp)(h:Cu):Prop:=∀a o,H a=some o->Cj P w H h a o
end
section
variable{P:Ba}{w:Bx}{H H':Hp}{h h':Cu}{a:AU}{o:HO}
theorem Cj.lt(x:Cj P w H h a o):a < h.objs.size:=by
 cases o with
 | lst xs=>obtain⟨_,_,_,_,e⟩:=x;exact Ad e
 | tup xs=>obtain⟨_,_,_,p⟩:=x;exact p.lt
 | dK f'=>obtain⟨_,_,_,_,o,_,_,e,_⟩:=x;exact Ad e
 | dT f'=>obtain⟨_,_,_,_,o,_,_,e,_⟩:=x;exact Ad e
 | set S n=>obtain⟨o,_,_,_,e,_⟩:=x;exact Ad e
 | ins C dx fs=>obtain⟨_,_,_,e,_⟩:=x;exact Ad e
 | own y=>obtain⟨_,e⟩:=x;exact Ad e
 | xd fs=>obtain⟨_,⟨_,_,_,e,_⟩,_⟩:=x;exact Ad e
 | rng lo hi=>obtain⟨_,_,_,e⟩:=x;exact Ad e
 | frz ob u=>obtain⟨e,_⟩:=x;exact Ad e
 | tbl ps=>exact Ad (show h.get? a=some _ from x)
 | met f y=>exact Ad (show h.get? a=some _ from x)
 | ext φ=>obtain⟨_,⟨_,e⟩,_⟩:=x;exact Ad e
theorem Fj.mapP{α β:Type}{F G:α->β->Prop}:∀{l₁:List α} {l₂:List β},Fj F l₁ l₂->(∀a b,F a b->G a b)->Fj G l₁ l₂
 | _,_,.nil,_=>.nil
 | _,_,.cons r t,f=>.cons (f _ _ r) (Fj.mapP t f)
theorem Cj.stay(x:Cj P w H h a o)(k:∀b u,(b=a∨H b=some (.own a))->h.get? b=some u->h'.get? b=some u)
  (ho:∀b,H b=some (.own a)->H' b=some (.own a)) (ht:∀b xs,H b=some (.tup xs)->H' b=some (.tup xs)):Cj P w H' h' a o:=by
 induction o with
 | lst xs=>obtain⟨z,i',n,r,e⟩:=x;exact⟨z,i',n,r,k _ _ (.inl rfl) e⟩
 | tup xs=>obtain⟨⟨z,o2,e2,c2⟩,i',r,ob,e,c⟩:=x;exact⟨⟨z,o2,k _ _ (.inl rfl) e2,c2⟩,i',r,ob,k _ _ (.inl rfl) e,c⟩
 | dK f'=>obtain⟨z,y,vs,r,ob,es,ep,e,c⟩:=x;exact⟨z,y,vs,r,ob,es,ep,k _ _ (.inl rfl) e,c⟩
 | dT f'=>
  obtain⟨z,y,xs,r,ob,es,ep,e,c⟩:=x;exact⟨z,y,xs,Fj.mapP r λp q z=>⟨z.1,ht _ _ z.2.1,z.2.2⟩,ob,es,ep,k _ _ (.inl rfl) e,c⟩
 | set S n=>obtain⟨ob,es,ep,t,e,c⟩:=x;exact⟨ob,es,ep,t,k _ _ (.inl rfl) e,c⟩
 | ins C dx fs=>
  obtain⟨d,z,ne,e,mA,⟨od,es,ep,e2,c⟩,r⟩:=x;exact⟨ho _ d,z,ne,k _ _ (.inl rfl) e,mA,⟨od,es,ep,k _ _ (.inr d) e2,c⟩,r⟩
 | own y=>obtain⟨ob,e⟩:=x;exact⟨ob,k _ _ (.inl rfl) e⟩
 | xd fs=>obtain⟨mA,⟨od,es,ep,e,c⟩,r⟩:=x;exact⟨mA,⟨od,es,ep,k _ _ (.inl rfl) e,c⟩,r⟩
 | rng lo hi=>obtain⟨t,u,v,e⟩:=x;exact⟨t,u,v,k _ _ (.inl rfl) e⟩
 | frz ob u ih=>obtain⟨e,q⟩:=x;exact⟨k _ _ (.inl rfl) e,ih q⟩
 | tbl ps=>
  have e:h.get? a=some { cls:=.none,data:=.fields ps }:=x;show h'.get? a=some { cls:=.none,data:=.fields ps };exact k a _ (.inl rfl) e
 | met f y=>
  have e:h.get? a=some (M6 (.ref f) (.ref y)):=x;show h'.get? a=some (M6 (.ref f) (.ref y));exact k a _ (.inl rfl) e
 | ext φ=>obtain⟨p,⟨o,e⟩,st⟩:=x;exact⟨st _ _ p λo q=>k _ _ (.inl rfl) q,⟨o,k _ _ (.inl rfl) e⟩,st⟩
theorem HOk.lt(x:HOk P w H h)(e:H a=some o):a < h.objs.size:=(x a o e).lt
theorem HOk.fresh(x:HOk P w H h)(e:h.objs.size<=a):H a=none:=by
 cases q:H a with
 | none=>rfl
 | some u=>exact zX (AS (x.lt q) e) (Dd _)
theorem HOk.kept(x:HOk P w H h)(k:∀b u,h.get? b=some u->h'.get? b=some u):HOk P w H h':=λa o e=>
 (x a o e).stay (λb u _ q=>k b u q) (λ_ q=>q) λ_ _ q=>q
theorem HOk.laid(x:HOk P w H h)(k:∀b u,h.get? b=some u->h'.get? b=some u)(hp:h.objs.size<=a)(new:Cj P w (upd H a o) h' a o):HOk P w (upd H a o) h':=λb u e=>by
 have hn:=x.fresh hp
 by_cases hb:b=a
 ·subst hb;rw[Bu]at e;cases e;exact new
 ·rw[BX hb]at e
  exact(x b u e).stay (λc v _ q=>k c v q) (λc q=>by rw[BX (CP q hn)];exact q) λc xs q=>by rw[BX (CP q hn)];exact q
end
def Rd(H:Hp)(a:AU)(u:HO):Prop:=H a=some u∨∃o,H a=some (.frz o u)
theorem Rd.ok(r:Rd H a u)(x:HOk P w H h):Cj P w H h a u:=by
 rcases r with r | ⟨o,r⟩
 ·exact x a u r
 ·obtain⟨_,q⟩:=x a _ r
  exact q
def Mut:Option HO->Prop
 | some (.lst _)=>True
 | some (.dK _)=>True
 | some (.dT _)=>True
 | some (.set _ _)=>True
 | some (.ins _ _ _)=>True
 | some (.ext _)=>True
 | _=>False
section
variable{P:Ba}{w:Bx}{H:Hp}{h h':Cu}{x e:AU}
theorem HOk.write(ok:HOk P w H h)(mu:Mut (H x))(he:e=x∨H e=some (.own x))(k:∀b u,b≠e->h.get? b=some u->h'.get? b=some u)(tF:∃u,h'.get? e=some u)
  (new:Cj P w (upd H x o') h' x o'):HOk P w (upd H x o') h':=λb u q=>by
 have tS:∀c y,H c=some (.own y)->c≠x:=λc y r z=>by subst z;rw[r]at mu;exact mu
 have vx:∀c xs,H c=some (.tup xs)->c≠x:=λc xs r z=>by subst z;rw[r]at mu;exact mu
 by_cases hb:b=x
 ·subst hb;rw[Bu]at q;cases q;exact new
 ·rw[BX hb]at q
  by_cases hbe:b=e
  ·have q':H b=some (.own x):=by
    rcases he with z | z
    ·exact zX (hbe.trans z) hb
    ·rw[hbe];exact z
   rw[q]at q';cases q';obtain⟨v,hv⟩:=tF;exact⟨v,by rw[hbe];exact hv⟩
  ·refine(ok b u q).stay (λc v hc r=>k c v ?_ r) (λc r=>by rw[BX (tS c b r)];exact r) λc xs r=>by rw[BX (vx c xs r)];exact r
   rcases hc with rfl | hc
   ·exact hbe
   ·rintro rfl
    rcases he with z | z
    ·exact tS c b hc z
    ·rw[hc]at z;cases z;exact hb rfl
end
structure Un(fs ex:List AU)(H H':Hp)(h h':Cu):Prop where
 keep:∀b o,h.get? b=some o->H b=none->b∉fs->b∉ex->h'.get? b=some o
 slot:∀b o,h.get? b=some o->H b=none->b∈fs->b∉ex->∃sl,h'.get? b=some { o with slots:=sl }
 free:∀b o,h.get? b=some o->H b=none->b∉ex->H' b=none
 there:∀b o,h.get? b=some o->b∉ex->∃o',h'.get? b=some o'
 tups:∀b xs,H b=some (.tup xs)->H' b=some (.tup xs)
 frzs:∀b o u,H b=some (.frz o u)->H' b=some (.frz o u)
 tbls:∀b ps,H b=some (.tbl ps)->∃more,H' b=some (.tbl (ps++more))
section
variable{fs ex:List AU}{H H1:Hp}{h h1 h':Cu}{a x e:AU}{o:HO}
theorem Un.any(u:Un fs ex H H1 h h1)(q:h.get? b=some ob)(n:H b=none)(hx:b∉ex):∃sl,h1.get? b=some { ob with slots:=sl }:=by
 by_cases hb:b∈fs
 ·exact u.slot b ob q n hb hx
 ·exact⟨ob.slots,u.keep b ob q n hb hx⟩
theorem Un.kept(k:∀b u,h.get? b=some u->h'.get? b=some u):Un fs ex H H h h':=
 ⟨λb ob q _ _ _=>k b ob q,λb ob q _ _ _=>⟨ob.slots,k b ob q⟩,λ_ _ _ n _=>n,λb ob q _=>⟨ob,k b ob q⟩,λ_ _ q=>q,λ_ _ _ q=>q,λ_ ps q=>⟨#[],by rw[q];simp⟩⟩
theorem Un.refl:Un fs ex H H h h:=Un.kept λ_ _ q=>q
theorem Un.laid(k:∀b u,h.get? b=some u->h'.get? b=some u)(hp:h.objs.size<=a)(hn:H a=none):Un fs ex H (upd H a o) h h' where
 keep:=λb u q _ _ _=>k b u q
 slot:=λb u q _ _ _=>⟨u.slots,k b u q⟩
 free:=λb u q n _=>by rw[BX (BB (AS (Ad q) hp))];exact n
 there:=λb u q _=>⟨u,k b u q⟩
 tups:=λb xs q=>by rw[BX (CP q hn)];exact q
 frzs:=λb u xs q=>by rw[BX (CP q hn)];exact q
 tbls:=λb ps q=>⟨#[],by rw[BX (CP q hn),q];simp⟩
theorem Un.write(mu:Mut (H x))(he:e=x∨H e=some (.own x))(k:∀b u,b≠e->h.get? b=some u->h'.get? b=some u)(tF:∃u,h'.get? e=some u):Un fs ex H (upd H x o) h h':=by
 have hx:∀b,H b=none->b≠x:=λb n z=>by subst z;rw[n]at mu;exact mu
 have hb:∀b,H b=none->b≠e:=λb n z=>by
  subst z
  rcases he with r | r
  ·exact hx b n r
  ·rw[n]at r;cases r
 have hm:∀b u,H b=some u->¬Mut (some u)->b≠x:=λb u q nm z=>by subst z;rw[q]at mu;exact nm mu
 refine⟨λb u q n _ _=>k b u (hb b n) q,λb u q n _ _=>⟨u.slots,k b u (hb b n) q⟩,λb u q n _=>by rw[BX (hx b n)];exact n,λb u q _=>?_,
  λb xs q=>by rw[BX (hm b _ q λz=>z)];exact q,λb u xs q=>by rw[BX (hm b _ q λz=>z)];exact q,λb ps q=>⟨#[],by rw[BX (hm b _ q λz=>z),q];simp⟩⟩
 by_cases hbe:b=e
 ·subst hbe;exact tF
 ·exact⟨u,k b u hbe q⟩
end
def trk(h:Cu)(H:Hp):List AU:=(C9 h.objs.size).filter λa=>(H a).isSome
def Tz(h:Cu)(H:Hp):Cu:=PySem.W.hideAll h (trk h H)
theorem ZY(h:Cu)(H:Hp):(Tz h H).objs.size=h.objs.size:=PySem.W.hideAll_size _ _
theorem cN(e:h.get? b=some o)(n:H b=none):(Tz h H).get? b=some o:=
 PySem.W.hideAll_get _ e λhm=>by
  have q:(H b).isSome=true:=(BN.mp hm).2;rw[n]at q;simp at q
theorem fx(e:(Tz h H).get? b=some o):h.get? b=some o/\H b=none:=by
 have e':h.get? b=some o:=PySem.W.of_hideAll (trk h H) e;refine⟨e',?_⟩
 cases q:H b with
 | none=>rfl
 | some x=>
  have hm:b∈trk h H:=BN.mpr ⟨Iq.mpr (Ad e'),by simp[q]⟩;have z:(Tz h H).get? b=none:=PySem.W.hideAll_none (trk h H) hm;rw[z]at e;cases e
structure Mod(K:AF)(mg:Str->Option AH)(base:Cu):Prop where
 kin:K.In base
 glob:base.Ns BL mg
 blt:∃mb,base.Ns V9 mb/\∀x:Str,x≠"__name__"->mb x=Fv x
 nolimit:base.NoLimit
structure Cx where
 prog:Ba
 w:Bx
 K:AF
 mg:Str->Option AH
 base:Cu
 A:CC
 N:List Str
 s₀:AL
 H₀:Hp
 env:Env
 outer:List Env
 stack:List Env
 ex:List AU
 fn:Str->Bool
 calm:Bool
 pn:List (AU×Obj)
 xe:AH->AL->Prop
def frs(l:List Env):List AU:=l.filterMap (·.frame)
abbrev Cx.fs(X:Cx):List AU:=frs X.outer
def Vis(sc:Rh)(x:Str):Prop:=sc.names.lookup x=some .local∨sc.names.lookup x=some .cell∨sc.names.lookup x=some .free
def Loc(sc:Rh)(x:Str):Prop:=sc.names.lookup x=some .local∨sc.names.lookup x=some .cell
def Look(env:Env)(h:Cu)(m:Str->Option AH)(x:Str)(u:AH):Prop:=
 (env.kindOf x=some .local/\m x=some u)∨((env.kindOf x=some .cell∨env.kindOf x=some .free)/\∃c,env.cells.lookup x=some c/\h.IsCell c (some u))
structure Cx.Ok(X:Cx):Prop where
 mod:Mod X.K X.mg X.base
 kind:X.env.scope.kind=.function
 glob:X.env.globals=BL
 blt:X.env.builtins=V9
 above:X.s₀.heap.objs.size<=X.env.locals
 inj:∀x y c,X.env.cells.lookup x=some c->X.env.cells.lookup y=some c->x=y
 has:∀x,(X.env.kindOf x=some .cell∨X.env.kindOf x=some .free)->∃c,X.env.cells.lookup x=some c
 cab:∀x c,X.fn x=true->X.env.cells.lookup x=some c->X.s₀.heap.objs.size<=c
 hd:X.calm=true->X.A.handled=none
 frames:X.A.frames=some X.stack
 stk:X.stack=X.outer∨(X.stack=X.env :: X.outer/\X.env.frame=some X.env.locals)
 exf:∀b∈X.ex,b≠X.env.locals/\∀x c,X.env.cells.lookup x=some c->c≠b
 bs:∀b o,X.base.get? b=some o->X.s₀.heap.get? b=some o/\X.H₀ b=none
 bsz:X.base.objs.size<=X.s₀.heap.objs.size
 noex:∀b o,X.base.get? b=some o->b∉X.ex
 exfs:∀b∈X.ex,b∉X.fs
 funs:X.s₀.heap.FunFrames X.base X.outer
 frf:∀b∈X.fs,X.H₀ b=none
structure Inv(X:Cx)(ζ:List (AU×Obj))(σ:List (Option V))(H:Hp)(s:AL):Prop where
 ok:X.Ok
 os:s.os=X.s₀.os
 bare:Jj s.gens
 base:Un X.fs X.ex X.H₀ H X.s₀.heap s.heap
 loc:∃m,s.heap.Ns X.env.locals m/\∀(i:Nat) (x:Str) (v:V),X.N[i]?=some x->σ[i]?=some (some v)->Vis X.env.scope x->∃u,RelV v u/\Look X.env s.heap m x u
 cell:∀x c,X.env.cells.lookup x=some c->∃v,s.heap.IsCell c v
 free:H X.env.locals=none
 freeC:∀x c,X.env.cells.lookup x=some c->H c=none
 pin:∀p∈X.pn++ζ,s.heap.get? p.1=some p.2/\H p.1=none/\p.1≠X.env.locals/\p.1∉X.fs/\∀v,p.2.data≠.cell v
 hok:HOk X.prog X.w H s.heap
 len:σ.length=X.N.length
section
variable{X:Cx}{ζ:List (AU×Obj)}{σ:List (Option V)}{H H':Hp}{s:AL}{h':Cu}
theorem Cx.Ok.nofr(ok:X.Ok)(e:X.base.get? b=some o):b∉X.fs:=λhb=>by
 have:=(ok.funs.mem hb).1;rw[e]at this;cases this
theorem Inv.bs(I:Inv X ζ σ H s):∀b o,X.base.get? b=some o->s.heap.get? b=some o/\H b=none:=λb o e=>
 ⟨I.base.keep b o (I.ok.bs b o e).1 (I.ok.bs b o e).2 (I.ok.nofr e) (I.ok.noex b o e),I.base.free b o (I.ok.bs b o e).1 (I.ok.bs b o e).2 (I.ok.noex b o e)⟩
theorem Inv.bk(I:Inv X ζ σ H s):∀b o,X.base.get? b=some o->s.heap.get? b=some o:=λb o e=>(I.bs b o e).1
theorem Inv.mod(I:Inv X ζ σ H s):Mod X.K X.mg X.base:=I.ok.mod
theorem Inv.kIn(I:Inv X ζ σ H s):X.K.In s.heap:=I.ok.mod.kin.keeps I.bk
theorem Inv.lt(I:Inv X ζ σ H s):X.env.locals < s.heap.objs.size:=let ⟨_,hn,_⟩:=I.loc;hn.lt
theorem Inv.sz(I:Inv X ζ σ H s):X.s₀.heap.objs.size<=s.heap.objs.size:=Aw I.ok.above (Kx I.lt)
theorem Inv.nofs(I:Inv X ζ σ H s)(h:s.heap.objs.size<=a):a∉X.fs:=λhb=>by
 obtain⟨_,o,ho,_⟩:=I.ok.funs.mem hb;exact zX (AS (Ad ho) (Aw I.sz h)) (Dd _)
theorem Inv.cne(I:Inv X ζ σ H s):∀x c,X.env.cells.lookup x=some c->c≠X.env.locals:=λx c e z=>by
 obtain⟨v,o,ho,hd⟩:=I.cell x c e;obtain⟨m,⟨o',es,ep,rB,rC,_⟩,_⟩:=I.loc;rw[z,rB]at ho;cases ho;rw[rC]at hd;cases hd
theorem Inv.funs(I:Inv X ζ σ H s):s.heap.FunFrames X.base X.outer:=by
 have all:∀(l:List Env),(∀b∈frs l,b∈X.fs)->X.s₀.heap.FunFrames X.base l->s.heap.FunFrames X.base l:=by
  intro l
  induction l with
  | nil=>intro _ _;trivial
  | cons env r ih=>
   intro hs hl;obtain⟨hk,⟨L,o,hf,hn,ho,hd⟩,hr⟩:=hl;have hL:L∈X.fs:=hs L (by unfold frs;rw[M4,hf];exact AO)
   obtain⟨sl,e⟩:=I.base.slot L o ho (I.ok.frf L hL) hL λz=>I.ok.exfs L z hL
   exact⟨hk,⟨L,_,hf,hn,e,hd⟩,ih (λb hb=>hs b (by unfold frs;rw[M4,hf];exact AJ _ hb)) hr⟩
 exact all X.outer (λ_ hb=>hb) I.ok.funs
theorem Inv.stack(I:Inv X ζ σ H s):s.heap.FunFrames X.base X.stack:=by
 rcases I.ok.stk with e | ⟨e,hf⟩
 ·rw[e];exact I.funs
 ·rw[e]
  obtain⟨m,hn,_⟩:=I.loc;refine .cons (by rw[I.ok.kind];decide) hf hn ?_ I.funs;exact Cu.get?_none_of_le (Aw I.ok.bsz I.ok.above)
theorem Inv.stkSub(I:Inv X ζ σ H s):∀b∈frs X.stack,b∈X.env.locals :: X.fs:=λb hb=>by
 rcases I.ok.stk with e | ⟨e,hf⟩
 ·rw[e]at hb;exact AJ _ hb
 ·rw[e]at hb
  unfold frs at hb;rw[M4,hf]at hb;exact hb
theorem Inv.stkFree(I:Inv X ζ σ H s):∀b∈frs X.stack,H b=none:=λb hb=>by
 rcases AV.mp (I.stkSub b hb)with e | hb
 ·rw[e];exact I.free
 ·obtain⟨_,o,ho,_⟩:=I.ok.funs.mem hb
  exact I.base.free b o ho (I.ok.frf b hb) λz=>I.ok.exfs b z hb
theorem Inv.step{g':Array GenState}{t':Nat}{d':Drawn}{ch:List AU}(I:Inv X ζ σ H s)
  (rn:∀b∈ch,(b∈X.ex∨X.s₀.heap.objs.size<=b)/\b≠X.env.locals/\(∀x c,X.env.cells.lookup x=some c->c≠b)/\∀p∈X.pn++ζ,p.1≠b)
  (keep:∀b o,b≠X.env.locals->b∉X.fs->b∉ch->s.heap.get? b=some o->H b=none->h'.get? b=some o)
  (slot:∀b o,b≠X.env.locals->b∈X.fs->b∉ch->s.heap.get? b=some o->H b=none->∃sl,h'.get? b=some { o with slots:=sl }) (free:∀b o,b∉ch->s.heap.get? b=some o->H b=none->H' b=none)
  (there:∀b o,b∉ch->s.heap.get? b=some o->∃o',h'.get? b=some o')
  (tups:∀b xs,H b=some (.tup xs)->H' b=some (.tup xs)) (frzs:∀b o u,H b=some (.frz o u)->H' b=some (.frz o u)) (tbls:∀b ps,H b=some (.tbl ps)->∃more,H' b=some (.tbl (ps++more)))
  (ns:∀m,s.heap.Ns X.env.locals m->h'.Ns X.env.locals m) (hok:HOk X.prog X.w H' h') (hg:Jj g') :
  Inv X ζ σ H' { s with heap:=h',gens:=g',drawn:=d',toks:=t' }:=by
 have xt:∀b o,X.s₀.heap.get? b=some o->b≠X.env.locals:=λb o e=>BB (AS (Ad e) I.ok.above)
 have uP:∀b o,X.s₀.heap.get? b=some o->b∉X.ex->b∉ch:=λb o e hx hb=>by
  rcases(rn b hb).1 with z | z
  ·exact hx z
  ·exact zX (AS (Ad e) z) (Dd _)
 have cellK:∀x c,X.env.cells.lookup x=some c->∀v,s.heap.IsCell c v->h'.IsCell c v:=λx c e v ⟨o,ho,hd⟩=>by
  have tT:c∉ch:=λz=>(rn c z).2.2.1 x c e rfl
  by_cases hc:c∈X.fs
  ·obtain⟨sl,q⟩:=slot c o (I.cne x c e) hc tT ho (I.freeC x c e)
   exact⟨_,q,hd⟩
  ·exact⟨o,keep c o (I.cne x c e) hc tT ho (I.freeC x c e),hd⟩
 refine⟨I.ok,I.os,hg,⟨λb o e n hb hx=>?_,λb o e n hb hx=>?_,λb o e n hx=>?_,λb o e hx=>?_,λb xs e=>tups b xs (I.base.tups b xs e),λb o xs e=>frzs b o xs (I.base.frzs b o xs e),λb ps e=>?_⟩,?_,λx c e=>?_,?_,λx c e=>?_,λp hp=>?_,hok,I.len⟩
 ·exact keep b o (xt b o e) hb (uP b o e hx) (I.base.keep b o e n hb hx) (I.base.free b o e n hx)
 ·obtain⟨sl,e1⟩:=I.base.slot b o e n hb hx
  obtain⟨yQ,e2⟩:=slot b _ (xt b o e) hb (uP b o e hx) e1 (I.base.free b o e n hx);exact⟨yQ,e2⟩
 ·obtain⟨o',e1⟩:=I.base.there b o e hx
  exact free b o' (uP b o e hx) e1 (I.base.free b o e n hx)
 ·obtain⟨o',e1⟩:=I.base.there b o e hx
  exact there b o' (uP b o e hx) e1
 ·obtain⟨m1,e1⟩:=I.base.tbls b ps e
  obtain⟨m2,e2⟩:=tbls b _ e1;exact⟨m1++m2,by rw[e2,Array.append_assoc]⟩
 ·obtain⟨m,hn,hl⟩:=I.loc
  refine⟨m,ns m hn,λi x v e1 e2 e3=>?_⟩;obtain⟨u,r,l⟩:=hl i x v e1 e2 e3;refine⟨u,r,?_⟩
  rcases l with l | ⟨k,c,e,z⟩
  ·exact .inl l
  ·exact .inr ⟨k,c,e,cellK x c e _ z⟩
 ·obtain⟨v,z⟩:=I.cell x c e
  exact⟨v,cellK x c e v z⟩
 ·obtain⟨m,⟨o,_,_,ho,_⟩,_⟩:=I.loc
  exact free _ o (λz=>(rn _ z).2.1 rfl) ho I.free
 ·obtain⟨v,o,ho,hd⟩:=I.cell x c e
  exact free c o (λz=>(rn c z).2.2.1 x c e rfl) ho (I.freeC x c e)
 ·obtain⟨e,n,ne,nf,d⟩:=I.pin p hp
  have tT:p.1∉ch:=λz=>(rn p.1 z).2.2.2 p hp rfl
  exact⟨keep p.1 p.2 ne nf tT e n,free p.1 p.2 tT e n,ne,nf,d⟩
theorem Inv.un{t':Nat}(I:Inv X ζ σ H s)(u:Un X.fs [] H H' s.heap h')(hok:HOk X.prog X.w H' h'):Inv X ζ σ H' { s with heap:=h',toks:=t' }:=by
 obtain⟨m,⟨o,es,ep,ho,r⟩,_⟩:=id I.loc;obtain⟨sl,hL⟩:=u.any ho I.free (by simp)
 exact I.step (g':=s.gens) (d':=s.drawn) (ch:=[]) (λ_ z=>nomatch z) (λb o _ hb _ e n=>u.keep b o e n hb (by simp)) (λb o _ hb _ e n=>u.slot b o e n hb (by simp)) (λb o _ e n=>u.free b o e n (by simp)) (λb o _ e=>u.there b o e (by simp)) u.tups u.frzs u.tbls (λm' hm=>by
  obtain⟨o',vy,vz,rB,r'⟩:=hm;rw[ho]at rB;cases rB
  exact⟨_,vy,vz,hL,r'⟩) hok I.bare
theorem Inv.call{g':Array GenState}{t':Nat}{d':Drawn}{ch:List AU}(I:Inv X ζ σ H s)(u:Un (frs X.stack) ch H H' s.heap h')(hok:HOk X.prog X.w H' h')(hg:Jj g')
  (rn:∀b∈ch,(b∈X.ex∨X.s₀.heap.objs.size<=b)/\b≠X.env.locals/\(∀x c,X.env.cells.lookup x=some c->c≠b)/\∀p∈X.pn++ζ,p.1≠b) :
  Inv X ζ σ H' { s with heap:=h',gens:=g',drawn:=d',toks:=t' }:=by
 obtain⟨m,⟨o,es,ep,ho,r⟩,_⟩:=id I.loc
 obtain⟨sl,hL⟩:=u.any ho I.free λz=>(rn _ z).2.1 rfl
 exact I.step (ch:=ch) rn (λb o hL hb hc e n=>u.keep b o e n (λz=>(AV.mp (I.stkSub b z)).elim hL hb) hc) (λb o _ _ hc e n=>u.any e n hc) (λb o hc e n=>u.free b o e n hc) (λb o hc e=>u.there b o e hc) u.tups u.frzs u.tbls (λm' hm=>by
  obtain⟨o',vy,vz,rB,r'⟩:=hm;rw[ho]at rB;cases rB
  exact⟨_,vy,vz,hL,r'⟩) hok hg
theorem Inv.turned{t':Nat}{it:AU}(I:Inv X ζ σ H s)(k:∀b o,b≠it->s.heap.get? b=some o->h'.get? b=some o)(hn:H it=none)(hL:it≠X.env.locals)
  (h1:it∈X.ex∨X.s₀.heap.objs.size<=it) (h2:∀x c,X.env.cells.lookup x=some c->c≠it) (h3:∀p∈X.pn++ζ,p.1≠it):Inv X ζ σ H { s with heap:=h',toks:=t' }:=by
 have tU:∀b u,H b=some u->b≠it:=λb u e z=>by rw[z,hn]at e;cases e
 refine I.step (g':=s.gens) (d':=s.drawn) (ch:=[it]) (λb hb=>?_) (λb o _ _ hc e _=>k b o (λz=>hc (by simp[z])) e) (λb o _ _ hc e _=>⟨o.slots,k b o (λz=>hc (by simp[z])) e⟩) (λ_ _ _ _ n=>n)
  (λb o hc e=>⟨o,k b o (λz=>hc (by simp[z])) e⟩) (λ_ _ e=>e) (λ_ _ _ e=>e) (λb ps e=>⟨#[],by rw[e];simp⟩) (λm hm=>?_) (λb u e=>?_) I.bare
 ·have e:b=it:=by simpa using hb
  subst e;exact⟨h1,hL,h2,h3⟩
 ·obtain⟨o,es,ep,ho,r⟩:=hm
  exact⟨o,es,ep,k _ o (CF hL) ho,r⟩
 ·refine(I.hok b u e).stay (λc v hc q=>k c v ?_ q) (λ_ q=>q) λ_ _ q=>q
  rcases hc with z | z
  ·rw[z];exact tU b u e
  ·exact tU c _ z
theorem Inv.tok(I:Inv X ζ σ H s)(t:Nat):Inv X ζ σ H { s with toks:=t }:=I.un (h':=s.heap) (t':=t) Un.refl I.hok
theorem Inv.kept(I:Inv X ζ σ H s)(k:∀b u,s.heap.get? b=some u->h'.get? b=some u):Inv X ζ σ H { s with heap:=h',toks:=t' }:=I.un (Un.kept k) (I.hok.kept k)
theorem Inv.laid(I:Inv X ζ σ H s)(k:∀b u,s.heap.get? b=some u->h'.get? b=some u)(hp:s.heap.objs.size<=a)(new:Cj X.prog X.w (upd H a o) h' a o) :
  Inv X ζ σ (upd H a o) { s with heap:=h',toks:=t' }:=I.un (Un.laid k hp (I.hok.fresh hp)) (I.hok.laid k hp new)
theorem Inv.write(I:Inv X ζ σ H s)(mu:Mut (H x))(he:e=x∨H e=some (.own x))(k:∀b u,b≠e->s.heap.get? b=some u->h'.get? b=some u)(tF:∃u,h'.get? e=some u)
  (new:Cj X.prog X.w (upd H x o) h' x o):Inv X ζ σ (upd H x o) { s with heap:=h',toks:=t' }:=I.un (Un.write mu he k tF) (I.hok.write mu he k tF new)
theorem Inv.pins_of(I:Inv X ζ σ H s)(h:∀p∈pins',s.heap.get? p.1=some p.2/\H p.1=none/\p.1≠X.env.locals/\p.1∉X.fs/\∀v,p.2.data≠.cell v):Inv X pins' σ H s:=
 ⟨I.ok,I.os,I.bare,I.base,I.loc,I.cell,I.free,I.freeC,λp hp=>(BI.mp hp).elim (λz=>I.pin p (BF _ z)) (h p),I.hok,I.len⟩
theorem VV{N:List Str}(hN:N.Nodup){i j:Nat}{x:Str}(a:N[i]?=some x)(b:N[j]?=some x):i=j:=by
 obtain⟨h1,e1⟩:=AE.mp a;obtain⟨h2,e2⟩:=AE.mp b;exact(dN hN).mp (e1.trans e2.symm)
theorem SH{M:Model}{A:CC}{E:AH->AL->Prop}{i:Nat}{x:Str}{v:V}{u:AH}{Q:Unit->AL->Prop}(I:Inv X ζ σ H s)(hN:X.N.Nodup)(hi:X.N[i]?=some x)(hx:Loc X.env.scope x)(r:RelV v u)
  (h:∀s',Inv X ζ (σ.set i (some v)) H s'->(∃a,EZ a s.heap s'.heap/\(a=X.env.locals∨X.env.cells.lookup x=some a))->Q () s') (hf:X.fn x=true∨X.env.scope.names.lookup x=some .local:=by first | exact .inl rfl | exact .inr rfl | assumption):Ae M A (mY X.env x u) Q E s:=by
 obtain⟨m,hn,hl⟩:=id I.loc
 have vA:(X.env.scope.kind==.class||(X.env.scope.kind==.module&&X.env.locals != X.env.globals))=false:=by rw[I.ok.kind];rfl
 have xu:i < σ.length:=by rw[I.len];exact(AE.mp hi).1
 have cne:=I.cne
 have tracked:∀{a:AU} {h':Cu},(∃o,s.heap.get? a=some o/\H a=none)->EZ a s.heap h'->HOk X.prog X.w H h':=λ{a h'} ha hs b ob e=>by
  obtain⟨_,_,qU⟩:=ha
  refine(I.hok b ob e).stay (λc w' hc q=>(hs.2 c ?_).trans q) (λ_ q=>q) λ_ _ q=>q
  rintro rfl
  rcases hc with rfl | hc
  ·rw[qU]at e;cases e
  ·rw[qU]at hc;cases hc
 rcases hx with hk | hk
 ·refine wpAny_storeName_local hk hn (λh' qG hs=>?_) vA
  obtain⟨oL,_,_,yR,_⟩:=id hn;refine h _ ⟨I.ok,I.os,I.bare,⟨λb o e n hb hx=>?_,λb o e n hb hx=>?_,I.base.free,λb o e hx=>?_,I.base.tups,I.base.frzs,I.base.tbls⟩,⟨_,qG,λj y v' e1 e2 e3=>?_⟩,λy c e=>?_,I.free,I.freeC,λp hp=>?_,tracked ⟨oL,yR,I.free⟩ hs,by simpa using I.len⟩ ⟨_,hs,.inl rfl⟩
  ·exact(hs.2 b (BB (AS (Ad e) I.ok.above))).trans (I.base.keep b o e n hb hx)
  ·obtain⟨sl,e1⟩:=I.base.slot b o e n hb hx
   exact⟨sl,(hs.2 b (BB (AS (Ad e) I.ok.above))).trans e1⟩
  ·obtain⟨o',e1⟩:=I.base.there b o e hx
   exact⟨o',(hs.2 b (BB (AS (Ad e) I.ok.above))).trans e1⟩
  ·by_cases hj:j=i
   ·subst hj
    rw[hi]at e1;cases e1;rw[Ai xu]at e2;cases e2;exact⟨u,r,.inl ⟨hk,by simp⟩⟩
   ·rw[AY (CF hj)]at e2
    obtain⟨u',r',q⟩:=hl j y v' e1 e2 e3;refine⟨u',r',?_⟩
    rcases q with⟨k,e⟩ | ⟨k,c,e,z⟩
    ·refine .inl ⟨k,?_⟩
     have:y≠x:=λe=>hj (VV hN e1 (e▸hi))
     simp[this,e]
    ·exact .inr ⟨k,c,e,z.sameBut hs (cne y c e)⟩
  ·obtain⟨w',z⟩:=I.cell y c e
   exact⟨w',z.sameBut hs (cne y c e)⟩
  ·obtain⟨e,n,ne,nf,d⟩:=I.pin p hp
   exact⟨(hs.2 p.1 ne).trans e,n,ne,nf,d⟩
 ·have vB:X.fn x=true:=by
   rcases hf with z | z
   ·exact z
   ·rw[z]at hk;cases hk
  obtain⟨c,hc⟩:=I.ok.has x (.inl hk);obtain⟨w',z⟩:=I.cell x c hc;refine wpAny_storeName_cell I.ok.kind hk hc z (λh' qA hs=>?_);obtain⟨oc,xw,vC⟩:=id z;refine h { s with heap:=h' } ⟨I.ok,I.os,I.bare,⟨λb o e n hb hx=>?_,λb o e n hb hx=>?_,I.base.free,λb o e hx=>?_,I.base.tups,I.base.frzs,I.base.tbls⟩,⟨m,hn.sameBut hs (CF (cne x c hc)),λj y v' e1 e2 e3=>?_⟩,λy c' e=>?_,I.free,I.freeC,λp hp=>?_,tracked ⟨oc,xw,I.freeC x c hc⟩ hs,by simpa using I.len⟩ ⟨c,hs,.inr hc⟩
  ·exact(hs.2 b (BB (AS (Ad e) (I.ok.cab x c vB hc)))).trans (I.base.keep b o e n hb hx)
  ·obtain⟨sl,e1⟩:=I.base.slot b o e n hb hx
   exact⟨sl,(hs.2 b (BB (AS (Ad e) (I.ok.cab x c vB hc)))).trans e1⟩
  ·obtain⟨o',e1⟩:=I.base.there b o e hx
   exact⟨o',(hs.2 b (BB (AS (Ad e) (I.ok.cab x c vB hc)))).trans e1⟩
  ·by_cases hj:j=i
   ·subst hj
    rw[hi]at e1;cases e1;rw[Ai xu]at e2;cases e2;exact⟨u,r,.inr ⟨.inl hk,c,hc,qA⟩⟩
   ·rw[AY (CF hj)]at e2
    obtain⟨u',r',q⟩:=hl j y v' e1 e2 e3;refine⟨u',r',?_⟩
    rcases q with q | ⟨k,c',e,z'⟩
    ·exact .inl q
    ·refine .inr ⟨k,c',e,z'.sameBut hs ?_⟩
     rintro rfl;exact hj (VV hN e1 (I.ok.inj _ _ _ e hc▸hi))
  ·by_cases hcc:c'=c
   ·subst hcc;exact⟨_,qA⟩
   ·obtain⟨w2,z2⟩:=I.cell y c' e
    exact⟨w2,z2.sameBut hs hcc⟩
  ·obtain⟨e,n,ne,nf,d⟩:=I.pin p hp
   refine⟨(hs.2 p.1 ?_).trans e,n,ne,nf,d⟩;intro q;rw[q,xw]at e;have q':oc=p.2:=Bh e;exact d w' (by rw[<-q'];exact vC)
theorem QS(I:Inv X ζ σ H s)(hN:X.N.Nodup)(hi:X.N[i]?=some x)(hx:Loc X.env.scope x)(r:RelV v u)
  (h:∀s',Inv X ζ (σ.set i (some v)) H s'->Q () s') (hf:X.fn x=true∨X.env.scope.names.lookup x=some .local:=by first | exact .inl rfl | exact .inr rfl | assumption):Ae M A (mY X.env x u) Q E s:=
 SH I hN hi hx r (λs' I' _=>h s' I') hf
theorem Inv.call'(I:Inv X ζ σ H s)(ho:s'.os=s.os)(u:Un (frs X.stack) ch H H' s.heap s'.heap)(hok:HOk X.prog X.w H' s'.heap)(hg:Jj s'.gens)
  (rn:∀b∈ch,(b∈X.ex∨X.s₀.heap.objs.size<=b)/\b≠X.env.locals/\(∀x c,X.env.cells.lookup x=some c->c≠b)/\∀p∈X.pn++ζ,p.1≠b):Inv X ζ σ H' s':=by
 obtain⟨h',g',d',t',o'⟩:=s';have e:o'=s.os:=ho;subst e;exact I.call (g':=g') (t':=t') (d':=d') u hok hg rn
end
abbrev XK:=AH->Option AU->Hp->Prop
abbrev St:=List (Option V)
abbrev VK:=V->Hp->Prop
abbrev TE:=St->Hp->VK->Prop
abbrev TT:=St->Hp->(Bool->Hp->Prop)->Prop
abbrev TA:=St->Hp->(List V->Hp->Prop)->Prop
structure Zv where
 nx:St->Hp->Prop
 rt:VK
 bk:St->Hp->Prop:=λ_ _=>False
 ct:St->Hp->Prop:=λ_ _=>False
abbrev TS:=Zv->St->Hp->Prop
def EP(X:Cx)(ζ:List (AU×Obj))(σ:St)(Q:VK)(u:AH)(s':AL):Prop:=∃v H',Inv X ζ σ H' s'/\RelV v u/\Q v H'
def TP(X:Cx)(ζ:List (AU×Obj))(σ:St)(Q:Bool->Hp->Prop)(b:Bool)(s':AL):Prop:=∃H',Inv X ζ σ H' s'/\Q b H'
def AP(X:Cx)(ζ:List (AU×Obj))(σ:St)(Q:List V->Hp->Prop)(us:List AH)(s':AL):Prop:=∃vs H',Inv X ζ σ H' s'/\Bn vs us/\Q vs H'
def SP(X:Cx)(ζ:List (AU×Obj))(D:Zv)(f:Flow)(s':AL):Prop:=
 match f with
 | .next=>∃σ' H',Inv X ζ σ' H' s'/\D.nx σ' H'
 | .brk=>∃σ' H',Inv X ζ σ' H' s'/\D.bk σ' H'
 | .cont=>∃σ' H',Inv X ζ σ' H' s'/\D.ct σ' H'
 | .ret u=>∃v σ' H',Inv X ζ σ' H' s'/\RelV v u/\D.rt v H'
def PE(X:Cx)(e:Expr)(t:TE):Prop:=
 ∀(ζ:List (AU×Obj)) (s:AL) (σ:St) (H:Hp) (Q:VK),Inv X ζ σ H s->t σ H Q->Ae (Ak X.prog X.w) X.A (CH e X.env) (EP X ζ σ Q) X.xe s
def PT(X:Cx)(e:Expr)(t:TT):Prop:=
 ∀(ζ:List (AU×Obj)) (s:AL) (σ:St) (H:Hp) (Q:Bool->Hp->Prop),Inv X ζ σ H s->t σ H Q->Ae (Ak X.prog X.w) X.A (i3 e X.env (CH e X.env)) (TP X ζ σ Q) X.xe s
def PW(X:Cx)(e:Expr)(t:TT):Prop:=
 ∀(whole:Sem AH) (ζ:List (AU×Obj)) (s:AL) (σ:St) (H:Hp) (Q:Bool->Hp->Prop),Inv X ζ σ H s->t σ H Q->Ae (Ak X.prog X.w) X.A (i3 e X.env whole) (TP X ζ σ Q) X.xe s
theorem PW.pt(h:PW X e t):PT X e t:=h _
def PA(X:Cx)(es:List Expr)(t:TA):Prop:=
 ∀(pos:Pos) (ζ:List (AU×Obj)) (s:AL) (σ:St) (H:Hp) (Q:List V->Hp->Prop),Inv X ζ σ H s->t σ H Q->Ae (Ak X.prog X.w) X.A (spliced (Dp pos (AX es X.env))) (AP X ζ σ Q) X.xe s
def PS(X:Cx)(st:DB)(t:TS):Prop:=
 ∀(ζ:List (AU×Obj)) (s:AL) (σ:St) (H:Hp) (D:Zv),Inv X ζ σ H s->t D σ H->Ae (Ak X.prog X.w) X.A (exec st X.env) (SP X ζ D) X.xe s
def PSs(X:Cx)(st:List DB)(t:TS):Prop:=
 ∀(ζ:List (AU×Obj)) (s:AL) (σ:St) (H:Hp) (D:Zv),Inv X ζ σ H s->t D σ H->Ae (Ak X.prog X.w) X.A (execs st X.env) (SP X ζ D) X.xe s
theorem thn{α:Type}{t:Sem α}{Q Q':α->AL->Prop}{M:Model}{A:CC}{E:AH->AL->Prop}{s:AL}(h:Ae M A t Q E s)(hQ:∀a s,Q a s->Q' a s):Ae M A t Q' E s:=Gy h hQ λ_ _ x=>x
section
variable{X:Cx}
def jZ(i:Nat):TE:=λσ H Q=>∃v,σ[i]?=some (some v)/\Q v H
def tC(v:V):TE:=λ_ H Q=>Q v H
theorem j8(hN:X.N[i]?=some x)(hv:Vis X.env.scope x)(hd:(x==("__debug__" : Str))=false:=by decide) (rj:(x==("__classdict__" : Str))=false:=by decide):PE X (.Name x pos) (jZ i):=by
 intro ζ s σ H Q I h;obtain⟨v,e,h⟩:=h;obtain⟨m,hn,hl⟩:=I.loc;obtain⟨u,r,l⟩:=hl i x v hN e hv;have fin:EP X ζ σ Q u s:=⟨v,H,I,r,h⟩
 rcases l with⟨hk,hm⟩ | ⟨hk,c,hc,qu⟩
 ·exact iw (dR I.ok.kind hk hn hm fin) hd
 ·rcases hk with hk | hk
  ·exact iw (iM I.ok.kind hk hc qu fin) hd
  ·exact iw (wpAny_loadName_free I.ok.kind hk hc qu fin rj) hd
theorem kE{i j pos}:PE X (.Constant (.int i) j pos) (tC (.int i)):=λ_ _ _ H _ I h=>wpAny_Constant_int ⟨.int i,H,I.tok _,⟨_,rfl⟩,h⟩
theorem n9{b j pos}:PE X (.Constant (.bool b) j pos) (tC (.bl b)):=λ_ _ _ H _ I h=>Constant_bool ⟨.bl b,H,I,rfl,h⟩
theorem kA{x j pos}:PE X (.Constant (.str x) j pos) (tC (.str x)):=λ_ _ _ H _ I h=>Calls.Constant_str ⟨.str x,H,I.tok _,⟨_,rfl⟩,h⟩
def Gl(X:Cx)(x:Str):Prop:=X.env.kindOf x=some .globalImplicit
theorem Tw(I:Inv X ζ σ H s)(hg:Gl X x)(hm:X.mg x=some u)(h:Q u s)
  (hd:(x==("__debug__" : Str))=false:=by decide):Ae (Ak X.prog X.w) X.A (CH (.Name x pos) X.env) Q E s:=
 Ro I.ok.kind hg (Calls.loadGlobal_global (by rw[I.ok.glob];exact I.mod.glob.keeps I.bk) hm h) hd
theorem OQ(I:Inv X ζ σ H s)(hg:Gl X x)(hm:X.mg x=none)(hv:Fv x=some u)(h:Q u s)
  (hn:x≠"__name__":=by decide) (hd:(x==("__debug__" : Str))=false:=by decide):Ae (Ak X.prog X.w) X.A (CH (.Name x pos) X.env) Q E s:=by
 obtain⟨mb,h1,h2⟩:=I.mod.blt;exact Ro I.ok.kind hg (Calls.loadGlobal_builtin (by rw[I.ok.glob];exact I.mod.glob.keeps I.bk) hm (by rw[I.ok.blt];exact h1.keeps I.bk) ((h2 x hn).trans hv) h) hd
theorem fX(hg:Gl X x)(hm:X.mg x=some u)(r:RelV v u)(hd:(x==("__debug__" : Str))=false:=by decide):PE X (.Name x pos) (tC v):=
 λ_ _ _ H _ I h=>Tw I hg hm ⟨v,H,I,r,h⟩ hd
theorem Xx(hg:Gl X x)(hm:X.mg x=none)(hv:Fv x=some u)(r:RelV v u)(hn:x≠"__name__":=by decide) (hd:(x==("__debug__" : Str))=false:=by decide):PE X (.Name x pos) (tC v):=
 λ_ _ _ H _ I h=>OQ I hg hm hv ⟨v,H,I,r,h⟩ hn hd
variable{a b:Expr}{ta tb:TE}{pos:Pos}
def PC(X:Cx)(op:CmpOp)(a b:Expr)(t:TE):Prop:=
 ∀(ζ:List (AU×Obj)) (s:AL) (σ:St) (H:Hp) (Q:VK),Inv X ζ σ H s->t σ H Q ->
  Ae (Ak X.prog X.w) X.A (CH a X.env) (λv s₁=>Ae (Ak X.prog X.w) X.A (CH b X.env) (λu s₂=>Ae (Ak X.prog X.w) X.A (CM op v u) (EP X ζ σ Q) X.xe s₂) X.xe s₁) X.xe s
def tB(t:TE):TT:=λσ H Q=>t σ H λx H1=>∃c,x=.bl c/\Q c H1
theorem bE(h:PC X op a b t)(h1:DN op b=false:=by first | exact nobehind _ (by decide) (by decide) | rfl):PT X (.Compare a [op] [b] pos) (tB t):=by
 intro ζ s σ H Q I hw;refine dL (thn (h ζ s σ H _ I hw) λv s1 h1=>thn h1 λu s2 h2=>thn h2 λc s3 ⟨x,H1,I1,r1,q1⟩=>?_) h1;obtain⟨d,rfl,q⟩:=q1;cases r1;exact DY ⟨H1,I1,q⟩
variable{tA uQ:TT}{rest:List Expr}
def nS(t u:TT):TT:=λσ H Q=>t σ H λc H1=>if c=true then u σ H1 Q else Q false H1
def tOr(t u:TT):TT:=λσ H Q=>t σ H λc H1=>if c=true then Q true H1 else u σ H1 Q
def tNot(t:TT):TT:=λσ H Q=>t σ H λc H1=>Q (!c) H1
theorem fE(ha:PT X a tA):PW X (.BoolOp .And [a] pos) tA:=by
 intro wh ζ s σ H Q I h;refine isTrue_and (thn (ha ζ s σ H Q I h) λc s1 e=>?_)
 cases c with
 | true=>exact isTrue_and_nil e
 | false=>exact e
theorem jq(ha:PT X a tA):PW X (.BoolOp .Or [a] pos) tA:=by
 intro wh ζ s σ H Q I h;refine isTrue_or (thn (ha ζ s σ H Q I h) λc s1 e=>?_)
 cases c with
 | false=>exact isTrue_or_nil e
 | true=>exact e
theorem jr(ha:PT X a tA)(hb:PW X (.BoolOp .And (b :: rest) pos) uQ):PW X (.BoolOp .And (a :: b :: rest) pos) (nS tA uQ):=by
 intro wh ζ s σ H Q I h;refine isTrue_and (thn (ha ζ s σ H _ I h) λc s1 ⟨H1,I1,q1⟩=>?_)
 cases c with
 | true=>exact hb wh ζ s1 σ H1 Q I1 q1
 | false=>exact⟨H1,I1,q1⟩
theorem nv(ha:PT X a tA)(hb:PW X (.BoolOp .Or (b :: rest) pos) uQ):PW X (.BoolOp .Or (a :: b :: rest) pos) (tOr tA uQ):=by
 intro wh ζ s σ H Q I h;refine isTrue_or (thn (ha ζ s σ H _ I h) λc s1 ⟨H1,I1,q1⟩=>?_)
 cases c with
 | true=>exact⟨H1,I1,q1⟩
 | false=>exact hb wh ζ s1 σ H1 Q I1 q1
theorem jt(ha:PT X a tA):PT X (.UnaryOp .Not a pos) (tNot tA):=by
 intro ζ s σ H Q I h;exact isTrue_not (ha ζ s σ H (λc H1=>Q (!c) H1) I h)
def nR(ta tb:TE):TE:=λσ H Q=>ta σ H λx H1=>∃c,x=.bl c/\if c=true then tb σ H1 Q else Q (.bl false) H1
def nH(ta:TE):TE:=λσ H Q=>ta σ H λx H1=>∃c,x=.bl c/\Q (.bl (!c)) H1
theorem kB{op}{t}(h:PE X a t):PE X (.BoolOp op [a] pos) t:=λζ s σ H Q I hw=>BoolOp_one (h ζ s σ H Q I hw)
theorem kH(ha:PE X a ta)(hb:PE X (.BoolOp .And (b :: rest) pos) tb):PE X (.BoolOp .And (a :: b :: rest) pos) (nR ta tb):=by
 intro ζ s σ H Q I h;refine BoolOp_and (thn (ha ζ s σ H _ I h) λv s1 ⟨x,H1,I1,r1,q1⟩=>?_);obtain⟨c,rfl,q1⟩:=q1;cases r1;refine DY ?_
 cases c with
 | true=>exact hb ζ s1 σ H1 Q I1 q1
 | false=>exact⟨.bl false,H1,I1,rfl,q1⟩
theorem kC(ha:PE X a ta):PE X (.UnaryOp .Not a pos) (nH ta):=by
 intro ζ s σ H Q I h;refine UnaryOp_ (thn (ha ζ s σ H _ I h) λv s1 ⟨x,H1,I1,r1,q1⟩=>?_);obtain⟨c,rfl,q1⟩:=q1;cases r1;exact not_of (DY ⟨.bl (!c),H1,I1,rfl,q1⟩)
def tIf(t:TT)(ta tb:TE):TE:=λσ H Q=>t σ H λc H1=>if c=true then ta σ H1 Q else tb σ H1 Q
theorem bO(hc:PT X c tA)(ha:PE X a ta)(hb:PE X b tb):PE X (.IfExp c a b pos) (tIf tA ta tb):=by
 intro ζ s σ H Q I h;refine wpAny_IfExp (thn (hc ζ s σ H _ I h) λd s1 ⟨H1,I1,q1⟩=>?_)
 cases d with
 | true=>exact ha ζ s1 σ H1 Q I1 q1
 | false=>exact hb ζ s1 σ H1 Q I1 q1
end
def SqL(K:AF)(H:Hp)(a:AU)(xs:List V):Prop:=
 Rd H a (.lst xs) ∨
  ∃(o:Obj) (i':Array AH) (n:Nat),K.lookup a=some o/\o.cls=.type "list"/\o.dict=none/\o.data=.seq i' n/\i'.size<=sizeLine/\Bn xs i'.toList
def SqT(K:AF)(H:Hp)(a:AU)(xs:List V):Prop:=
 Rd H a (.tup xs) ∨
  ∃(o:Obj) (i':Array AH) (n:Nat),K.lookup a=some o/\o.cls=.type "tuple"/\o.data=.seq i' n/\i'.size<=sizeLine/\Bn xs i'.toList
def absV:AH->Option V
 | .none=>some .non
 | .bool b=>some (.bl b)
 | .int i _=>some (.int i)
 | .str x _=>some (.str x)
 | .bytes b _=>some (.byt b)
 | .float b _=>some (.flt b)
 | .ref a=>some (.ref a)
 | .type n=>some (.ty n)
 | _=>none
theorem RelV.abs(r:RelV x u):absV u=some x:=by
 cases x with
 | non=>cases r;rfl
 | bl _=>cases r;rfl
 | int _=>obtain⟨t,rfl⟩:=r;rfl
 | str _=>obtain⟨t,rfl⟩:=r;rfl
 | byt _=>obtain⟨t,rfl⟩:=r;rfl
 | flt _=>obtain⟨t,rfl⟩:=r;rfl
 | ref _=>cases r;rfl
 | ty _=>cases r;rfl
theorem RelV.inj(r:RelV x u)(q:RelV y u):x=y:=Bh (r.abs.symm.trans q.abs)
theorem Bn.inj:∀{xs ys:List V} {us:List AH},Bn xs us->Bn ys us->xs=ys
 | _,_,_,.nil,.nil=>rfl
 | _,_,_,.cons r t,.cons r' t'=>by rw[r.inj r',Bn.inj t t']
section
variable{X:Cx}{ζ:List (AU×Obj)}{σ:St}{H:Hp}{s:AL}{a:AU}{xs ys:List V}
theorem Inv.list(I:Inv X ζ σ H s)(h:SqL X.K H a xs):∃i':List AH,Bn xs i'/\PlainL s.heap a i'.toArray/\xs.length<=sizeLine:=by
 rcases h with h | ⟨o,i',n,hk,hc,hd,hs,hz,r⟩
 ·obtain⟨z,i',n,r,e⟩:=h.ok I.hok
  exact⟨i',r,⟨_,n,e,rfl,rfl,rfl⟩,z⟩
 ·refine⟨i'.toList,r,⟨o,n,I.kIn a o hk,hc,hd,by simpa using hs⟩,?_⟩
  have e:=r.length;simp only[Bq]at e
  lia
theorem Inv.tuple(I:Inv X ζ σ H s)(h:SqT X.K H a xs):∃i':List AH,Bn xs i'/\mO s.heap a i'.toArray/\xs.length<=sizeLine:=by
 rcases h with h | ⟨o,i',n,hk,hc,hs,hz,r⟩
 ·obtain⟨z,i',r,p⟩:=h.ok I.hok
  exact⟨i',r,p,z.1⟩
 ·refine⟨i'.toList,r,⟨o,I.kIn a o hk,hc,n,by simpa using hs⟩,?_⟩
  have e:=r.length;simp only[Bq]at e
  lia
theorem Inv.list_inj(I:Inv X ζ σ H s)(h:SqL X.K H a xs)(h':SqL X.K H a ys):xs=ys:=by
 obtain⟨i',r,⟨o,n,e,_,_,d⟩,_⟩:=I.list h;obtain⟨its',r',⟨o',n',e',_,_,d'⟩,_⟩:=I.list h';rw[e]at e';cases e';rw[d]at d'
 injection d' with d1 _
 have:i'=its':=by simpa using congrArg jD d1
 subst this;exact r.inj r'
theorem Inv.tuple_inj(I:Inv X ζ σ H s)(h:SqT X.K H a xs)(h':SqT X.K H a ys):xs=ys:=by
 obtain⟨i',r,⟨o,e,_,n,d⟩,_⟩:=I.tuple h;obtain⟨its',r',⟨o',e',_,n',d'⟩,_⟩:=I.tuple h';rw[e]at e';cases e';rw[d]at d'
 injection d' with d1 _
 have:i'=its':=by simpa using congrArg jD d1
 subst this;exact r.inj r'
end
section
variable{X:Cx}{st:DB}{rest:List DB}{t u:TS}{e:Expr}{te:TE}{pos:Pos}
def nI:TS:=λD σ H=>D.nx σ H
def tSeq(t u:TS):TS:=λD σ H=>t { D with nx:=u D } σ H
theorem fH:PSs X [] nI:=λ_ _ σ H _ I h=>M0 ⟨σ,H,I,h⟩
theorem bG(h1:PS X st t)(h2:PSs X rest u):PSs X (st :: rest) (tSeq t u):=by
 intro ζ s σ H D I h;refine mV (thn (h1 ζ s σ H { D with nx:=u D } I h) λf s1 q=>?_)
 cases f with
 | next=>
  obtain⟨σ',H',I',q⟩:=q;exact h2 ζ s1 σ' H' D I' q
 | ret v=>exact q
 | brk=>exact q
 | cont=>exact q
theorem fG(h1:PS X st t):PSs X [st] t:=by
 intro ζ s σ H D I h;refine mV (thn (h1 ζ s σ H D I h) λf s1 q=>?_)
 cases f with
 | next=>exact M0 q
 | ret v=>exact q
 | brk=>exact q
 | cont=>exact q
theorem Inv.quiet(I:Inv X ζ σ H s):interactive X.env=false:=by simp[interactive,I.ok.kind]
def nK(te:TE):TS:=λD σ H=>te σ H λ_ H1=>D.nx σ H1
theorem fI(he:PE X e te)(hs:Fu e none pos.line X.env=pure false:=by rfl):PS X (.Expr e pos) (nK te):=by
 intro ζ s σ H D I h;exact wpAny_Expr_any (thn (he ζ s σ H _ I h) λv s1 ⟨x,H1,I1,r1,q1⟩=>⟨σ,H1,I1,q1⟩) I.quiet hs
def tRet(te:TE):TS:=λD σ H=>te σ H D.rt
theorem jv(he:PE X e te):PS X (.Return (some e) pos) (tRet te):=by
 intro ζ s σ H D I h;exact wpAny_Return_some (thn (he ζ s σ H _ I h) λv s1 ⟨x,H1,I1,r1,q1⟩=>⟨x,σ,H1,I1,r1,q1⟩)
def tIfS(c:TT)(t u:TS):TS:=λD σ H=>c σ H λb H1=>if b=true then t D σ H1 else u D σ H1
theorem nw(hc:PT X c tc)(ha:PSs X a t)(hb:PSs X b u):PS X (.If c a b pos) (tIfS tc t u):=by
 intro ζ s σ H D I h;refine wpAny_If (thn (hc ζ s σ H _ I h) λd s1 ⟨H1,I1,q1⟩=>?_)
 cases d with
 | true=>exact ha ζ s1 σ H1 D I1 q1
 | false=>exact hb ζ s1 σ H1 D I1 q1
def jc:TS:=λ_ _ _=>False
theorem bI:PS X st jc:=λ_ _ _ _ _ _ h=>h.elim
end
abbrev TG:=V->St->Hp->(St->Hp->Prop)->Prop
abbrev TGs:=List V->St->Hp->(St->Hp->Prop)->Prop
def PG(X:Cx)(ϖ:Expr)(t:TG):Prop:=
 ∀(ζ:List (AU×Obj)) (s:AL) (σ:St) (H:Hp) (v:V) (u:AH) (Q:St->Hp->Prop),Inv X ζ σ H s->RelV v u->t v σ H Q ->
  Ae (Ak X.prog X.w) X.A (WB ϖ X.env u) (λ_ s'=>∃σ' H',Inv X ζ σ' H' s'/\Q σ' H') X.xe s
def PGs(X:Cx)(ts:List Expr)(t:TGs):Prop:=
 ∀(ζ:List (AU×Obj)) (s:AL) (σ:St) (H:Hp) (vs:List V) (us:List AH) (Q:St->Hp->Prop),Inv X ζ σ H s->Bn vs us->t vs σ H Q ->
  Ae (Ak X.prog X.w) X.A (assignInOrder ((Gz ts X.env).map (·.2)) us) (λ_ s'=>∃σ' H',Inv X ζ σ' H' s'/\Q σ' H') X.xe s
abbrev pM:=V->V->V->Hp->(Hp->Prop)->Prop
def pQ(X:Cx)(t:pM):Prop:=
 ∀(ζ:List (AU×Obj)) (s:AL) (σ:St) (H:Hp) (o i v:V) (ov iv u:AH) (Q:Hp->Prop),Inv X ζ σ H s->RelV o ov->RelV i iv->RelV v u->t o i v H Q ->
  Ae (Ak X.prog X.w) X.A (mD ov iv u) (λ_ s'=>∃H',Inv X ζ σ H' s'/\Q H') X.xe s
abbrev TIp:=V->V->Hp->VK->Prop
def PIp(X:Cx)(op:Operator)(t:TIp):Prop:=
 ∀(ζ:List (AU×Obj)) (s:AL) (σ:St) (H:Hp) (x y:V) (v u:AH) (Q:VK),Inv X ζ σ H s->RelV x v->RelV y u->t x y H Q ->
  Ae (Ak X.prog X.w) X.A (inplaceOp op v u) (EP X ζ σ Q) X.xe s
section
variable{X:Cx}{pos:Pos}
def YJ(i:Nat):TG:=λv σ H Q=>Q (σ.set i (some v)) H
theorem fU(hN:X.N.Nodup)(hi:X.N[i]?=some x)(hx:Loc X.env.scope x)(hf:X.fn x=true∨X.env.scope.names.lookup x=some .local:=by first | exact .inl rfl | exact .inr rfl | assumption):PG X (.Name x pos) (YJ i):=by
 intro ζ s σ H v u Q I r h;exact lw (QS I hN hi hx r (λs' I'=>⟨_,H,I',h⟩) hf)
def gNil:TGs:=λvs σ H Q=>vs=[]/\Q σ H
def o0(t:TG)(u:TGs):TGs:=λvs σ H Q=>∃v r,vs=v :: r/\t v σ H λσ' H'=>u r σ' H' Q
theorem fS:PGs X [] gNil:=by
 intro ζ s σ H vs us Q I r h;obtain⟨e,h⟩:=h;subst e;cases r;exact assignInOrder_nil ⟨σ,H,I,h⟩
theorem bM(h1:PG X e t)(h2:PGs X es u)
  (hs:(Gz (e :: es) X.env).map (·.2)=WB e X.env :: (Gz es X.env).map (·.2):=by rfl):PGs X (e :: es) (o0 t u):=by
 intro ζ s σ H vs us Q I r h;obtain⟨v,vr,e1,h⟩:=h;subst e1
 cases r with
 | cons r rr=>
  rw[hs];refine assignInOrder_cons (thn (h1 ζ s σ H _ _ _ I r h) λ_ s1 ⟨σ1,H1,I1,q1⟩=>?_);exact h2 ζ s1 σ1 H1 _ _ Q I1 rr q1
def gTup(K:AF)(n:Nat)(t:TGs):TG:=λv σ H Q=>∃a xs,v=.ref a/\SqT K H a xs/\xs.length=n/\t xs σ H Q
theorem j7(hc:X.calm=true)(h:PGs X es t)
  (hn:(Gz es X.env).length=n:=by rfl) (se:(Gz es X.env).findIdx? (·.1)=none:=by rfl):PG X (.Tuple es k pos) (gTup X.K n t):=by
 intro ζ s σ H v u Q I r hw;obtain⟨a,xs,e1,hq,hl,hw⟩:=hw;subst e1;cases r;obtain⟨i',rv,ht,hz⟩:=I.tuple hq
 refine assign_Tuple_tuple (I.ok.hd hc) ht (by simp[hn,<-hl,rv.length]) se λh' hx=>?_
 have I1:Inv X ζ σ H { s with heap:=h' }:=I.kept (t':=s.toks) λb o e=>hx b o (BB (Ad e)) e
 exact h ζ _ σ H xs _ Q I1 (by simpa using rv) hw
def nQ(te:TE)(g:TG):TS:=λD σ H=>te σ H λx H1=>g x σ H1 D.nx
theorem ju(hN:X.N.Nodup)(hi:X.N[i]?=some x)(hx:Loc X.env.scope x)(he:PE X e te)(hs:Fu e (some (.Name x pos')) pos.line X.env=pure false:=by rfl)(hf:X.fn x=true∨X.env.scope.names.lookup x=some .local:=by first | exact .inl rfl | exact .inr rfl | assumption) :
  PS X (.Assign [.Name x pos'] e pos) (nQ te (YJ i)):=by
 intro ζ s σ H D I h;refine wpAny_Assign_Name (thn (he ζ s σ H _ I h) λv s1 ⟨y,H1,I1,r1,q1⟩=>?_) hs;exact QS I1 hN hi hx r1 (λs2 I2=>⟨_,H1,I2,q1⟩) hf
def tAug(i:Nat)(te:TE)(ti:TIp):TS:=λD σ H=>∃x,σ[i]?=some (some x)/\te σ H λy H1=>ti x y H1 λz H2=>D.nx (σ.set i (some z)) H2
theorem jy(hN:X.N.Nodup)(hi:X.N[i]?=some x)(hx:Loc X.env.scope x)(he:PE X e te)(ho:PIp X op ti)(hf:X.fn x=true∨X.env.scope.names.lookup x=some .local:=by first | exact .inl rfl | exact .inr rfl | assumption) :
  PS X (.AugAssign (.Name x pos') op e pos) (tAug i te ti):=by
 intro ζ s σ H D I h;obtain⟨v,e1,h⟩:=h;obtain⟨m,hn,hl⟩:=I.loc
 have vis:Vis X.env.scope x:=by rcases hx with k | k;exact .inl k;exact .inr (.inl k)
 obtain⟨u,r,l⟩:=hl i x v hi e1 vis;refine wpAny_AugAssign_Name ?_
 have go:Ae (Ak X.prog X.w) X.A (CH e X.env) (λw s₂=>Ae (Ak X.prog X.w) X.A (inplaceOp op u w) (λr s₃=>Ae (Ak X.prog X.w) X.A (mY X.env x r) (λ_=>SP X ζ D .next) X.xe s₃) X.xe s₂) X.xe s:=by
  refine thn (he ζ s σ H _ I h) λw s1 ⟨y,H1,I1,r1,q1⟩=>?_
  refine thn (ho ζ s1 σ H1 v y u w _ I1 r r1 q1) λz s2 ⟨zv,H2,I2,r2,q2⟩=>?_
  exact QS I2 hN hi hx r2 (λs3 I3=>⟨_,H2,I3,q2⟩) hf
 rcases l with⟨hk,hm⟩ | ⟨hk,c,hc,qu⟩
 ·exact dR I.ok.kind hk hn hm go
 ·rcases hk with hk | hk
  ·exact iM I.ok.kind hk hc qu go
  ·rcases hx with k | k
   ·have:X.env.scope.names.lookup x=some .free:=hk
    rw[k]at this;cases this
   ·have:X.env.scope.names.lookup x=some .free:=hk
    rw[k]at this;cases this
def nP(to ti te:TE)(sS:V->V->Hp->VK->Prop)(vD:TIp)(sT:pM):TS:=λD σ H=>to σ H λo H1=>ti σ H1 λi H2=>sS o i H2 λx H3=>te σ H3 λy H4=>vD x y H4 λz H5=>sT o i z H5 λH6=>D.nx σ H6
def pR(X:Cx)(t:V->V->Hp->VK->Prop):Prop:=
 ∀(ζ:List (AU×Obj)) (s:AL) (σ:St) (H:Hp) (o i:V) (ov iv:AH) (Q:VK),Inv X ζ σ H s->RelV o ov->RelV i iv->t o i H Q ->
  Ae (Ak X.prog X.w) X.A (MU ov iv) (EP X ζ σ Q) X.xe s
theorem fM(ho:PE X o to)(hi:PE X i ti)(hg:pR X sS)(he:PE X e te)(hp:PIp X op vD)(hs:pQ X sT)
  (ha:∀ov iv new,augStore i ov iv new=(do V0 [new,ov,iv] (mD ov iv new);release [new,ov,iv] [];pure .next):=by intros;rfl):PS X (.AugAssign (.Subscript o i tpos) op e pos) (nP to ti te sS vD sT):=by
 intro ζ s σ H D I h;refine wpAny_AugAssign_SubscriptAny (thn (ho ζ s σ H _ I h) λov s1 ⟨x1,H1,I1,r1,q1⟩=>?_) ha
 refine thn (hi ζ s1 σ H1 _ I1 q1) λiv s2 ⟨x2,H2,I2,r2,q2⟩=>?_
 refine thn (hg ζ s2 σ H2 x1 x2 ov iv _ I2 r1 r2 q2) λold s3 ⟨x3,H3,I3,r3,q3⟩=>?_
 refine thn (he ζ s3 σ H3 _ I3 q3) λv s4 ⟨x4,H4,I4,r4,q4⟩=>?_
 refine thn (hp ζ s4 σ H4 x3 x4 old v _ I4 r3 r4 q4) λnew s5 ⟨x5,H5,I5,r5,q5⟩=>?_
 exact thn (hs ζ s5 σ H5 x1 x2 x5 ov iv new _ I5 r1 r2 r5 q5) λ_ s6 ⟨H6,I6,q6⟩=>⟨σ,H6,I6,q6⟩
def ipI(f:Int->Int->Int):TIp:=λx y H Q=>∃i j,x=.int i/\y=.int j/\Q (.int (f i j)) H
theorem kz:PIp X .Add (ipI λi j=>i+j):=by
 intro ζ s σ H x y v u Q I r1 r2 h;obtain⟨i,j,e1,e2,q⟩:=h;subst e1;subst e2;obtain⟨t,rfl⟩:=r1;obtain⟨t',rfl⟩:=r2;exact iadd_int ⟨.int _,H,I.tok _,⟨_,rfl⟩,q⟩
def jY(c:TT)(tb:TS):TS:=λD σ H=>∃W:Nat->St->Hp->Prop,(∃m,W m σ H)/\∀m σ H,W m σ H ->
 c σ H λb H1=>if b=true then ∃N:St->Hp->Prop,(∀σ' H',N σ' H'->∃m',m' < m/\W m' σ' H')/\tb { D with nx:=N,ct:=N,bk:=D.nx } σ H1 else D.nx σ H1
theorem bH(hp:Sv (Ak X.prog X.w) X.A X.env X.xe)(hc:PT X c tc)(hb:PSs X body tb):PS X (.While c body [] pos) (jY tc tb):=by
 intro ζ s σ H D I h;obtain⟨W,⟨m0,w0⟩,turn⟩:=h;refine wpAny_While (codeAny_whileLoop (λn s'=>∃σ' H',Inv X ζ σ' H' s'/\W n σ' H') ?_ m0 ⟨σ,H,I,w0⟩);rintro n s1 ⟨σ1,H1,I1,w1⟩;refine FE hp (thn (hc ζ s1 σ1 H1 _ I1 (turn n σ1 H1 w1)) λb s2 ⟨H2,I2,q2⟩=>?_)
 cases b with
 | true=>
  obtain⟨N,hN,q2⟩:=q2;rw[qX rfl];refine FE hp (thn (hb ζ s2 σ1 H2 _ I2 q2) λf s3 q3=>?_)
  cases f with
  | next=>
   obtain⟨σ3,H3,I3,n3⟩:=q3;obtain⟨m',hm,w3⟩:=hN σ3 H3 n3;exact⟨m',hm,σ3,H3,I3,w3⟩
  | cont=>
   obtain⟨σ3,H3,I3,n3⟩:=q3;obtain⟨m',hm,w3⟩:=hN σ3 H3 n3;exact⟨m',hm,σ3,H3,I3,w3⟩
  | brk=>exact q3
  | ret v=>exact q3
 | false=>
  rw[qY AI];exact M0 ⟨σ1,H2,I2,q2⟩
end
structure It where
 go:Nat->Hp->Prop
 yld:Nat->Hp->V->Hp->Prop
 stop:Nat->Hp->Prop
def Mw(X:Cx)(ζ:List (AU×Obj))(H:Hp)(b:AU):Prop:=
 H b=none/\b≠X.env.locals/\b∉X.fs/\(b∈X.ex∨X.s₀.heap.objs.size<=b)/\(∀x c,X.env.cells.lookup x=some c->c≠b)/\∀p∈X.pn++ζ,p.1≠b
theorem Inv.fpOk(I:Inv X ζ σ H s)(hb:s.heap.objs.size<=b)(hn:H' b=none):Mw X ζ H' b:=by
 refine⟨hn,Ec (AS I.lt hb),I.nofs hb,.inr (Aw I.sz hb),λx c e z=>?_,λp hp z=>?_⟩
 ·obtain⟨v,q⟩:=I.cell x c e
  exact zX (AS q.lt (by rw[z];exact hb)) (Dd _)
 ·exact zX (AS (Ad (I.pin p hp).1) (by rw[z];exact hb)) (Dd _)
structure UK(P:Ba)(w:Bx)(K:AF)(tg:Expr)(J:It)(fp:List AU)(it:AU)(tn:Nat->Cu->Prop):Prop where
 mem:it∈fp
 obj:∀i h,tn i h->∀b∈fp,∃o,h.get? b=some o/\∀v,o.data≠.cell v
 keep:∀i h h',tn i h->(∀b∈fp,∀o,h.get? b=some o->h'.get? b=some o)->tn i h'
 item:∀(X:Cx),X.prog=P->X.w=w->X.K=K->X.calm=true->∀(i:Nat) (ζ:List (AU×Obj)) (s:AL) (σ:St) (H:Hp) (E:AH->AL->Prop),Inv X ζ σ H s->(∀b∈fp,Mw X ζ H b)->tn i s.heap->J.go i H ->
  Ae (Ak P w) X.A (Sn (.ref it)) (λr s1=>∃u,r=some u /\
   Ae (Ak P w) X.A (M1 tg (.ref it) u) (λ_ s2=>∃x H',Inv X ζ σ H' s2/\RelV x u/\J.yld i H x H'/\tn (i+1) s2.heap/\∀b∈fp,H' b=none) E s1) E s
 done:∀(X:Cx),X.prog=P->X.w=w->X.K=K->X.calm=true->∀(i:Nat) (ζ:List (AU×Obj)) (s:AL) (σ:St) (H:Hp) (E:AH->AL->Prop),Inv X ζ σ H s->(∀b∈fp,Mw X ζ H b)->tn i s.heap->J.stop i H ->
  Ae (Ak P w) X.A (Sn (.ref it)) (λr s1=>r=none/\Inv X ζ σ H s1) E s
 self:∀(A:CC) (i:Nat) (s:AL) (Q:AH->AL->Prop) (E:AH->AL->Prop),tn i s.heap->Q (.ref it) s->Ae (Ak P w) A (iz (.ref it)) Q E s
abbrev TI:=St->Hp->(It->Hp->Prop)->Prop
def PIE(X:Cx)(ζ:List (AU×Obj))(σ:St)(tg:Expr)(R:It->Hp->Prop)(uR:AH)(s2:AL):Prop:=
 ∃(it:AU) (fp:List AU) (tn:Nat->Cu->Prop) (J:It) (H':Hp),uR=.ref it/\Inv X ζ σ H' s2/\UK X.prog X.w X.K tg J fp it tn/\tn 0 s2.heap/\(∀b∈fp,Mw X ζ H' b)/\R J H'
def PI(X:Cx)(tg iter:Expr)(wi:TI):Prop:=
 ∀(ζ:List (AU×Obj)) (s:AL) (σ:St) (H:Hp) (R:It->Hp->Prop),Inv X ζ σ H s->wi σ H R ->
  Ae (Ak X.prog X.w) X.A (CH iter X.env) (λv s1=>Ae (Ak X.prog X.w) X.A (iz v) (PIE X ζ σ tg R) X.xe s1) X.xe s
theorem YE(ho:s.heap.get? it=some o)(hc:o.cls=.type n)(hd:o.data=.fields vs)
  (hn:["enumerate", "zip", "dict_itemiterator", "dict_reverseitemiterator", "odict_iterator", "itertools.zip_longest", "itertools.pairwise"].contains n=false) (hQ:Q () s):Ae M A (M1 tg (.ref it) u) Q E s:=by
 unfold M1
 cases tg <;> first
  | exact AM hQ
  | (cases u <;> first
    | exact AM hQ
    | (refine AB (wpAny_load ho ?_)
       rw[hc,hd];show Ae M A (if (["enumerate", "zip", "dict_itemiterator", "dict_reverseitemiterator", "odict_iterator", "itertools.zip_longest", "itertools.pairwise"].contains n&&vs[0]?==some (Nx _))=true then _ else _) Q E s;rw[qY (by intro h;rw[hn,Bool.false_and]at h;cases h)]
       exact AM hQ))
def Itl(K:AF)(a:AU):It:=
 ⟨λi H=>∃xs x,SqL K H a xs/\xs[i]?=some x,λi H x H'=>H'=H/\∀xs,SqL K H a xs->xs[i]?=some x,λi H=>∃xs,SqL K H a xs/\xs.length<=i⟩
def Itt(K:AF)(a:AU):It:=
 ⟨λi H=>∃xs x,SqT K H a xs/\xs[i]?=some x,λi H x H'=>H'=H/\∀xs,SqT K H a xs->xs[i]?=some x,λi H=>∃xs,SqT K H a xs/\xs.length<=i⟩
def Itr(lo:Int)(n:Nat):It:=⟨λi _=>i < n,λi H x H'=>H'=H/\x=.int (lo+i),λi _=>n<=i⟩
theorem Yp{P}{w}{K}{tg}(a it:AU):UK P w K tg (Itl K a) [it] it (λi h=>h.IsListIter it a i) where
 mem:=by simp
 obj:=λi h st b hb=>by
  have e:b=it:=by simpa using hb
  subst e;obtain⟨o,e,c,d⟩:=st;exact⟨o,e,λv z=>by rw[d]at z;cases z⟩
 keep:=λi h h' st k=>st.at λo e=>k it (by simp) o e
 item:=by
  intro X hP hw hK hc i ζ s σ H E I hf st hg;subst hP hw hK;obtain⟨xs,x,hq,hx⟩:=hg;obtain⟨i',rv,p,hz⟩:=I.list hq;obtain⟨u,hu,ru⟩:=rv.get hx;obtain⟨f0,f1,f2,f3,f4,f5⟩:=hf it (by simp)
  refine wpAny_pyNext_list_item st p.isList (x:=u) (by simpa using hu) λh' j' sb=>?_
  have I1:Inv X ζ σ H { s with heap:=h' }:=I.turned (t':=s.toks) (λb o hb e=>(sb.2 b hb).trans e) f0 f1 f3 f4 f5;obtain⟨o,e,c,d⟩:=id j';exact⟨u,rfl,YE (s:={ s with heap:=h' }) e c d (by decide) ⟨x,H,I1,ru,⟨rfl,λys hy=>by rw[I.list_inj hy hq];exact hx⟩,j',λb hb=>(hf b hb).1⟩⟩
 done:=by
  intro X hP hw hK hc i ζ s σ H E I hf st hg;subst hP hw hK;obtain⟨xs,hq,hx⟩:=hg;obtain⟨i',rv,p,hz⟩:=I.list hq;obtain⟨f0,f1,f2,f3,f4,f5⟩:=hf it (by simp);have hl:=rv.length
  exact wpAny_pyNext_list_end (I.ok.hd hc) st p.isList (by simp;lia) λh' eb=>⟨rfl,I.turned (t':=s.toks) (λb o hb e=>eb b o hb e) f0 f1 f3 f4 f5⟩
 self:=λ_ _ _ _ _ st h=>wpAny_pyIter_listiter st h
theorem WS{P}{w}{K}{tg}(a it:AU):UK P w K tg (Itt K a) [it] it (λi h=>h.IsTupleIter it a i) where
 mem:=by simp
 obj:=λi h st b hb=>by
  have e:b=it:=by simpa using hb
  subst e;obtain⟨o,e,c,d⟩:=st;exact⟨o,e,λv z=>by rw[d]at z;cases z⟩
 keep:=λi h h' st k=>st.at λo e=>k it (by simp) o e
 item:=by
  intro X hP hw hK hc i ζ s σ H E I hf st hg;subst hP hw hK;obtain⟨xs,x,hq,hx⟩:=hg;obtain⟨i',rv,p,hz⟩:=I.tuple hq;obtain⟨u,hu,ru⟩:=rv.get hx;obtain⟨f0,f1,f2,f3,f4,f5⟩:=hf it (by simp)
  refine wpAny_pyNext_tuple_item st (show s.heap.IsTuple a i'.toArray from p) (x:=u) (by simpa using hu) λh' j' sb=>?_
  have I1:Inv X ζ σ H { s with heap:=h' }:=I.turned (t':=s.toks) (λb o hb e=>(sb.2 b hb).trans e) f0 f1 f3 f4 f5;obtain⟨o,e,c,d⟩:=id j';exact⟨u,rfl,YE (s:={ s with heap:=h' }) e c d (by decide) ⟨x,H,I1,ru,⟨rfl,λys hy=>by rw[I.tuple_inj hy hq];exact hx⟩,j',λb hb=>(hf b hb).1⟩⟩
 done:=by
  intro X hP hw hK hc i ζ s σ H E I hf st hg;subst hP hw hK;obtain⟨xs,hq,hx⟩:=hg;obtain⟨i',rv,p,hz⟩:=I.tuple hq;obtain⟨f0,f1,f2,f3,f4,f5⟩:=hf it (by simp);have hl:=rv.length
  exact wpAny_pyNext_tuple_end (I.ok.hd hc) st (show s.heap.IsTuple a i'.toArray from p) (by simp;lia) λh' eb=>⟨rfl,I.turned (t':=s.toks) (λb o hb e=>eb b o hb e) f0 f1 f3 f4 f5⟩
 self:=λ_ _ _ _ _ st h=>wpAny_pyIter_tupleiter st h
theorem WT{P}{w}{K}{tg}(it:AU)(lo:Int)(n:Nat):UK P w K tg (Itr lo n) [it] it (λi h=>IsRangeIter h it (lo+(i:Nat) * 1) ((n:Int) - (i:Nat)) 1) where
 mem:=by simp
 obj:=λi h st b hb=>by
  have e:b=it:=by simpa using hb
  subst e
  exact⟨_,st,λv z=>by
   have z':Xf _=dO v:=z
   cases z'⟩
 keep:=λi h h' st k=>k it (by simp) _ st
 item:=by
  intro X hP hw hK hc i ζ s σ H E I hf st hg;subst hP hw hK;obtain⟨f0,f1,f2,f3,f4,f5⟩:=hf it (by simp);have W:=Walks.range (prog:=X.prog) (w:=X.w) (I.ok.hd hc) it lo 1 n
  refine W.item i s _ _ hg st λv h' tk hv j' kk=>?_
  obtain⟨t,rfl⟩:=hv;have I1:Inv X ζ σ H { s with heap:=h',toks:=tk }:=I.turned (λb o hb e=>kk b o (by simpa using hb) e) f0 f1 f3 f4 f5;refine⟨_,rfl,YE (s:={ s with heap:=h',toks:=tk }) (n:="range_iterator") j' rfl rfl (by decide) ⟨.int (lo+i),H,I1,⟨t,?_⟩,⟨rfl,rfl⟩,j',λb hb=>(hf b hb).1⟩⟩;rw[Int.mul_one]
 done:=by
  intro X hP hw hK hc i ζ s σ H E I hf st hg;subst hP hw hK;obtain⟨f0,f1,f2,f3,f4,f5⟩:=hf it (by simp)
  exact wpAny_pyNext_range_end (I.ok.hd hc) st (by have:n<=i:=hg;lia) λh' eb=>⟨rfl,I.turned (t':=s.toks) (λb o hb e=>eb b o hb e) f0 f1 f3 f4 f5⟩
 self:=λ_ _ _ _ _ st h=>wpAny_pyIter_rangeiter st h
section
variable{X:Cx}
def oo(K:AF)(tl:TE):TI:=λσ H R=>tl σ H λx H1=>∃a,x=.ref a/\(∃xs,SqL K H1 a xs)/\R (Itl K a) H1
def iTup(K:AF)(tl:TE):TI:=λσ H R=>tl σ H λx H1=>∃a,x=.ref a/\(∃xs,SqT K H1 a xs)/\R (Itt K a) H1
theorem fP{l}{tl}(hl:PE X l tl):PI X tg l (oo X.K tl):=by
 intro ζ s σ H R I h
 refine thn (hl ζ s σ H _ I h) λv s1 ⟨x,H1,I1,r1,q1⟩=>?_
 obtain⟨a,e,⟨xs,hq⟩,q⟩:=q1;subst e;cases r1;obtain⟨i',rv,p,hz⟩:=I1.list hq;refine wpAny_pyIter_list p.isList ?_;refine⟨s1.heap.objs.size,[s1.heap.objs.size],_,_,H1,rfl,I1.kept (t':=s1.toks) λb o e=>AR _ e,Yp a _,⟨_,Af _ rfl,rfl,rfl⟩,λb hb=>?_,q⟩
 have e:b=s1.heap.objs.size:=by simpa using hb
 subst e;exact I1.fpOk (AK _) (I1.hok.fresh (AK _))
theorem jz{l}{tl}(hl:PE X l tl):PI X tg l (iTup X.K tl):=by
 intro ζ s σ H R I h
 refine thn (hl ζ s σ H _ I h) λv s1 ⟨x,H1,I1,r1,q1⟩=>?_
 obtain⟨a,e,⟨xs,hq⟩,q⟩:=q1;subst e;cases r1;obtain⟨i',rv,p,hz⟩:=I1.tuple hq;refine Ju (show s1.heap.IsTuple a i'.toArray from p) ?_;refine⟨s1.heap.objs.size,[s1.heap.objs.size],_,_,H1,rfl,I1.kept (t':=s1.toks) λb o e=>AR _ e,WS a _,⟨_,Af _ rfl,rfl,rfl⟩,λb hb=>?_,q⟩
 have e:b=s1.heap.objs.size:=by simpa using hb
 subst e;exact I1.fpOk (AK _) (I1.hok.fresh (AK _))
theorem VH{ζ}{σ}{H}{s}{R}{E}{lo hi}{t u v}{tk}(I:Inv X ζ σ H s)(h1:-(2 ^ 62)<=lo)(h2:lo < 2 ^ 62)(h3:-(2 ^ 62)<=hi)(h4:hi < 2 ^ 62)
  (q:R (Itr lo (hi - lo).toNat) H):Ae (Ak X.prog X.w) X.A (iz (.ref s.heap.objs.size)) (PIE X ζ σ tg R) E { s with heap:=s.heap.push { cls:=.type "range",data:=.fields #[.int lo t,.int hi u,.int 1 v] },toks:=tk }:=by
 refine wpAny_pyIter_range (IsRange.new ..) (small_one h1 h2 h3 h4) ?_
 have I1:Inv X ζ σ H { s with heap:=s.heap.push { cls:=.type "range",data:=.fields #[.int lo t,.int hi u,.int 1 v] },toks:=tk }:=I.kept λb o e=>AR _ e
 refine⟨(s.heap.push { cls:=.type "range",data:=.fields #[.int lo t,.int hi u,.int 1 v] }).objs.size,[(s.heap.push { cls:=.type "range",data:=.fields #[.int lo t,.int hi u,.int 1 v] }).objs.size],_,_,H,rfl,
  I1.kept (t':=tk) λb o e=>AR _ e,WT _ lo (hi - lo).toNat,?_,λb hb=>?_,q⟩
 ·have e1:lo+((0:Nat):Int) * 1=lo:=by simp
  have e2:(((hi - lo).toNat:Nat):Int) - ((0:Nat):Int)=mz lo hi 1:=by rw[rangeSize_one];split <;> lia
  show IsRangeIter _ _ (lo+((0:Nat):Int) * 1) ((((hi - lo).toNat:Nat):Int) - ((0:Nat):Int)) 1;rw[e1,e2];exact Af _ rfl
 ·have e:b=(s.heap.push { cls:=.type "range",data:=.fields #[.int lo t,.int hi u,.int 1 v] }).objs.size:=by simpa using hb
  subst e;exact I1.fpOk (AK _) (I1.hok.fresh (AK _))
def oj(ta:TA):TI:=λσ H R=>ta σ H λvs H1=>∃j:Int,vs=[.int j]/\-(2 ^ 62)<=j/\j < 2 ^ 62/\R (Itr 0 j.toNat) H1
def oi(ta:TA):TI:=λσ H R=>ta σ H λvs H1=>∃i j:Int,vs=[.int i,.int j]/\(-(2 ^ 62)<=i/\i < 2 ^ 62/\-(2 ^ 62)<=j/\j < 2 ^ 62)/\R (Itr i (j - i).toNat) H1
theorem ZE{a}{ta}{p pos}(hg:Gl X "range") (hm:X.mg "range" = none) (ha:PA X [a] ta) (hs:AX [a] X.env=[(false,CH a X.env)]:=by rfl):PI X tg (.Call (.Name "range" p) [a] [] pos) (oj ta):=by
 intro ζ s σ H R I h;refine Call_ (OQ I hg hm boot_range (ER (thn (ha pos ζ s σ H _ I h) λus s1 ⟨vs,H1,I1,r1,q1⟩=>?_) hs rfl));obtain⟨j,e,q1,q2,q⟩:=q1;subst e
 cases r1 with
 | cons r rr=>
  cases rr;obtain⟨t,rfl⟩:=r;exact call_range_1 (VH I1 (by lia) (by lia) q1 q2 (by simpa using q))
theorem ZD(hg:Gl X "range") (hm:X.mg "range" = none) (ha:PA X [a,b] ta) (hs:AX [a,b] X.env=[(false,CH a X.env),(false,CH b X.env)]:=by rfl) (qz:AX [b] X.env=[(false,CH b X.env)]:=by rfl) :
  PI X tg (.Call (.Name "range" p) [a,b] [] pos) (oi ta):=by
 intro ζ s σ H R I h;refine Call_ (OQ I hg hm boot_range (ER (thn (ha pos ζ s σ H _ I h) λus s1 ⟨vs,H1,I1,r1,q1⟩=>?_) (by rw[hs,qz]) (by rw[qz];rfl)));obtain⟨i,j,e,⟨q1,q2,q3,q4⟩,q⟩:=q1;subst e
 cases r1 with
 | cons r rr=>
  cases rr with
  | cons r' rr=>
   cases rr;obtain⟨t,rfl⟩:=r;obtain⟨t',rfl⟩:=r';exact call_range_2 (VH I1 q1 q2 q3 q4 q)
def tFor(wi:TI)(g:TG)(tb:TS):TS:=λD σ H=>wi σ H λJ H1=>∃W:Nat->Nat->St->Hp->Prop,(∃m,W 0 m σ H1)/\∀i m σ H,W i m σ H ->
 (J.stop i H/\D.nx σ H)∨(J.go i H/\∃N:St->Hp->Prop,(∀σ' H',N σ' H'->∃m',m' < m/\W (i+1) m' σ' H')/\∀x H',J.yld i H x H'->g x σ H' λσ2 H2=>tb { D with nx:=N,ct:=N,bk:=D.nx } σ2 H2)
def Qh(fp:List AU)(h:Cu):List (AU×Obj):=fp.filterMap λb=>(h.get? b).map λo=>(b,o)
theorem KN(hb:b∈fp)(e:h.get? b=some o):(b,o)∈Qh fp h:=Z2.mpr ⟨b,hb,by rw[e];rfl⟩
theorem ZK(hp:p∈Qh fp h):p.1∈fp/\h.get? p.1=some p.2:=by
 obtain⟨b,hb,e⟩:=Z2.mp hp
 cases q:h.get? b with
 | none=>rw[q]at e;cases e
 | some o=>
  rw[q]at e;have e':(b,o)=p:=Bh e;subst e';exact⟨hb,q⟩
theorem Inv.pinned(I:Inv X ζ σ H s)(hf:∀b∈fp,Mw X ζ H b)(ho:∀b∈fp,∃o,s.heap.get? b=some o/\∀v,o.data≠.cell v):Inv X (ζ++Qh fp s.heap) σ H s:=
 I.pins_of λp hp=>(BI.mp hp).elim (λz=>I.pin p (BP _ z)) λz=>by
  obtain⟨hb,e⟩:=ZK z;obtain⟨f0,f1,f2,_⟩:=hf p.1 hb;obtain⟨o,e',d⟩:=ho p.1 hb;rw[e]at e';cases e';exact⟨e,f0,f1,f2,d⟩
theorem Inv.unpinned(I:Inv X (ζ++pl) σ H s):Inv X ζ σ H s:=I.pins_of λp hp=>I.pin p (BP _ (BF _ hp))
theorem jw(hp:Sv (Ak X.prog X.w) X.A X.env X.xe)(hc:X.calm=true)(hi:PI X tg iter wi)(hg:PG X tg g)(hb:PSs X body tb)
  (hs:∀x,FR iter X.env x=pure x:=by intro _;rfl):PS X (.For tg iter body [] pos) (tFor wi g tb):=by
 intro ζ s σ H D I h;refine wpAny_For (thn (hi ζ s σ H _ I h) λv s1 h1=>thn h1 λuR s2 h2=>?_) hs;obtain⟨it,fp,tn,J,H2,e,I2,T,qe,f2,W,⟨m0,w0⟩,turn⟩:=h2;subst e
 have qO:∀{H':Hp},(∀b∈fp,H' b=none)->∀b∈fp,Mw X ζ H' b:=λhn b hb=>⟨hn b hb,(f2 b hb).2⟩
 refine codeAny_forLoop_any (λn s'=>∃i σ' H',Inv X ζ σ' H' s'/\tn i s'.heap/\(∀b∈fp,H' b=none)/\W i n σ' H') ?_ m0 ⟨0,σ,H2,I2,qe,λb hb=>(f2 b hb).1,w0⟩;rintro n s3 ⟨i,σ3,H3,I3,qP,fr3,w3⟩
 rcases turn i n σ3 H3 w3 with⟨stop,qn⟩ | ⟨go,N,hN,step⟩
 ·refine FE hp (thn (T.done X rfl rfl rfl hc i ζ s3 σ3 H3 X.xe I3 (qO fr3) qP stop) λr s4 ⟨hr,I4⟩=>?_)
  subst hr;exact M0 ⟨σ3,H3,I4,qn⟩
 ·refine FE hp (thn (T.item X rfl rfl rfl hc i ζ s3 σ3 H3 X.xe I3 (qO fr3) qP go) λr s4 ⟨u,hr,h4⟩=>?_)
  subst hr;refine FE hp (thn h4 λ_ s5 ⟨x,H5,I5,r5,y5,st5,fr5⟩=>?_);have vE:=I5.pinned (qO fr5) (T.obj _ _ st5);refine FE hp (thn (hg _ s5 σ3 H5 x u _ vE r5 (step x H5 y5)) λ_ s6 ⟨σ6,H6,I6,q6⟩=>?_);refine FE hp (thn (hb _ s6 σ6 H6 _ I6 q6) λf s7 q7=>?_)
  have mF:∀{σ7:St} {H7:Hp},Inv X (ζ++Qh fp s5.heap) σ7 H7 s7->N σ7 H7->∃m,m < n/\∃i σ' H',Inv X ζ σ' H' s7/\tn i s7.heap/\(∀b∈fp,H' b=none)/\W i m σ' H':=λ{σ7 H7} I7 n7=>by
   obtain⟨m',hm,w7⟩:=hN σ7 H7 n7;refine⟨m',hm,i+1,σ7,H7,I7.unpinned,T.keep _ _ _ st5 λb hb o e=>(I7.pin (b,o) (BP _ (BP _ (KN hb e)))).1,λb hb=>?_,w7⟩;obtain⟨o,e,d⟩:=T.obj _ _ st5 b hb;exact(I7.pin (b,o) (BP _ (BP _ (KN hb e)))).2.1
  cases f with
  | next=>obtain⟨σ7,H7,I7,n7⟩:=q7;exact mF I7 n7
  | cont=>obtain⟨σ7,H7,I7,n7⟩:=q7;exact mF I7 n7
  | brk=>obtain⟨σ7,H7,I7,q7⟩:=q7;exact⟨σ7,H7,I7.unpinned,q7⟩
  | ret v=>obtain⟨x7,σ7,H7,I7,r7,q7⟩:=q7;exact⟨x7,σ7,H7,I7.unpinned,r7,q7⟩
end
abbrev R2:=V->V->Hp->VK->Prop
def OpR(X:Cx)(f:AH->AH->Sem AH)(r:R2):Prop:=
 ∀(ζ:List (AU×Obj)) (s:AL) (σ:St) (H:Hp) (x y:V) (v u:AH) (Q:VK),Inv X ζ σ H s->RelV x v->RelV y u->r x y H Q ->
  Ae (Ak X.prog X.w) X.A (f v u) (EP X ζ σ Q) X.xe s
def UnR(X:Cx)(f:AH->Sem AH)(r:V->Hp->VK->Prop):Prop:=
 ∀(ζ:List (AU×Obj)) (s:AL) (σ:St) (H:Hp) (x:V) (v:AH) (Q:VK),Inv X ζ σ H s->RelV x v->r x H Q ->
  Ae (Ak X.prog X.w) X.A (f v) (EP X ζ σ Q) X.xe s
def Kj(X:Cx)(f:AH)(r:List V->Hp->VK->Prop):Prop:=
 ∀(ζ:List (AU×Obj)) (s:AL) (σ:St) (H:Hp) (xs:List V) (us:List AH) (Q:VK),Inv X ζ σ H s->Bn xs us->r xs H Q ->
  Ae (Ak X.prog X.w) X.A (call f us) (EP X ζ σ Q) X.xe s
def TruR(X:Cx)(r:V->Hp->(Bool->Hp->Prop)->Prop):Prop:=
 ∀(ζ:List (AU×Obj)) (s:AL) (σ:St) (H:Hp) (x:V) (v:AH) (Q:Bool->Hp->Prop),Inv X ζ σ H s->RelV x v->r x H Q ->
  Ae (Ak X.prog X.w) X.A (truthy v) (TP X ζ σ Q) X.xe s
def tOp(r:R2)(ta tb:TE):TE:=λσ H Q=>ta σ H λx H1=>tb σ H1 λy H2=>r x y H2 Q
def tUn(r:V->Hp->VK->Prop)(ta:TE):TE:=λσ H Q=>ta σ H λx H1=>r x H1 Q
def rI(C:Int->Int->Prop)(g:Int->Int->V):R2:=λx y H Q=>∃i j,x=.int i/\y=.int j/\C i j/\Q (g i j) H
def rI0(g:Int->Int->V):R2:=λx y H Q=>∃i j,x=.int i/\y=.int j/\Q (g i j) H
def rU(g:Int->V):V->Hp->VK->Prop:=λx H Q=>∃i,x=.int i/\Q (g i) H
section
variable{X:Cx}{a b:Expr}{ta tb:TE}{pos:Pos}
theorem lh(ha:PE X a ta)(hb:PE X b tb){ζ:List (AU×Obj)}{s:AL}{σ:St}{H:Hp}{R:V->V->Hp->Prop}(I:Inv X ζ σ H s)
  (h:ta σ H λx H1=>tb σ H1 λy H2=>R x y H2) {Q:AH->AL->Prop} {f:AH->AH->Sem AH}
  (hf:∀v u s2 x y H2,Inv X ζ σ H2 s2->RelV x v->RelV y u->R x y H2->Ae (Ak X.prog X.w) X.A (f v u) Q X.xe s2) :
  Ae (Ak X.prog X.w) X.A (CH a X.env) (λv s₁=>Ae (Ak X.prog X.w) X.A (CH b X.env) (λu s₂=>Ae (Ak X.prog X.w) X.A (f v u) Q X.xe s₂) X.xe s₁) X.xe s:=by
 refine thn (ha ζ s σ H _ I h) λv s1 ⟨x,H1,I1,r1,q1⟩=>?_
 refine thn (hb ζ s1 σ H1 _ I1 q1) λu s2 ⟨y,H2,I2,r2,q2⟩=>?_
 exact hf v u s2 x y H2 I2 r1 r2 q2
theorem nz{op:Operator}{r:R2}(ho:OpR X (Cr op) r)(ha:PE X a ta)(hb:PE X b tb):PE X (.BinOp a op b pos) (tOp r ta tb):=by
 intro ζ s σ H Q I h;exact wpAny_BinOp (lh ha hb I h λv u s2 x y H2 I2 rx ry q=>ho ζ s2 σ H2 x y v u Q I2 rx ry q)
theorem ny(ho:UnR X (unaryOp op) r)(ha:PE X a ta):PE X (.UnaryOp op a pos) (tUn r ta):=by
 intro ζ s σ H Q I h;exact UnaryOp_ (thn (ha ζ s σ H _ I h) λv s1 ⟨x,H1,I1,r1,q1⟩=>ho ζ s1 σ H1 x v Q I1 r1 q1)
theorem opI{f:AH->AH->Sem AH}{C:Int->Int->Prop}{g:Int->Int->Int}
  (rule:∀(i j:Int) (t u:Tok) (s:AL) (Q:AH->AL->Prop) (E:AH->AL->Prop),C i j->Q (.int (g i j) s.toks) { s with toks:=s.toks+1 }->Ae (Ak X.prog X.w) X.A (f (.int i t) (.int j u)) Q E s) :
  OpR X f (rI C λi j=>.int (g i j)):=by
 intro ζ s σ H x y v u Q I rx ry h;obtain⟨i,j,rfl,rfl,hc,q⟩:=h;obtain⟨t,rfl⟩:=rx;obtain⟨t',rfl⟩:=ry;exact rule i j t t' s _ _ hc ⟨.int (g i j),H,I.tok _,⟨_,rfl⟩,q⟩
theorem kX{f:AH->AH->Sem AH}{g:Int->Int->Int}
  (rule:∀(i j:Int) (t u:Tok) (s:AL) (Q:AH->AL->Prop) (E:AH->AL->Prop),Q (.int (g i j) s.toks) { s with toks:=s.toks+1 }->Ae (Ak X.prog X.w) X.A (f (.int i t) (.int j u)) Q E s) :
  OpR X f (rI0 λi j=>.int (g i j)):=by
 intro ζ s σ H x y v u Q I rx ry h;obtain⟨i,j,rfl,rfl,q⟩:=h;obtain⟨t,rfl⟩:=rx;obtain⟨t',rfl⟩:=ry;exact rule i j t t' s _ _ ⟨.int (g i j),H,I.tok _,⟨_,rfl⟩,q⟩
theorem fq{f:AH->AH->Sem AH}{g:Int->Int->Bool}
  (rule:∀(i j:Int) (t u:Tok) (s:AL) (Q:AH->AL->Prop) (E:AH->AL->Prop),Q (.bool (g i j)) s->Ae (Ak X.prog X.w) X.A (f (.int i t) (.int j u)) Q E s) :
  OpR X f (rI0 λi j=>.bl (g i j)):=by
 intro ζ s σ H x y v u Q I rx ry h;obtain⟨i,j,rfl,rfl,q⟩:=h;obtain⟨t,rfl⟩:=rx;obtain⟨t',rfl⟩:=ry;exact rule i j t t' s _ _ ⟨.bl (g i j),H,I,rfl,q⟩
def dJ(i j:Int):Prop:=0 < j/\j < 1073741824
def dI(i j:Int):Prop:=0<=j/\j<=1000000/\i.natAbs < 2 ^ 64
def Zw(i j:Int):Prop:=(-(2 ^ 64) < i/\i < 2 ^ 64)∨(-(2 ^ 64) < j/\j < 2 ^ 64)
theorem Zw.ok(h:Zw i j):IntMulOk i j:=by
 rcases h with⟨h1,h2⟩ | ⟨h1,h2⟩
 ·exact .of_left (intBits_le_64 h1 h2)
 ·exact .of_right (intBits_le_64 h1 h2)
theorem WR(k:Nat):(0:Int)<=2 ^ k:=by
 rw[two_pow_cast];exact JL _
theorem kW:OpR X (Cr .Add) (rI0 λi j=>.int (i+j)):=kX λ_ _ _ _ _ _ _ q=>add_int q
theorem kK:OpR X (Cr .Sub) (rI0 λi j=>.int (i - j)):=kX λ_ _ _ _ _ _ _ q=>sub_int q
theorem kO:OpR X (Cr .Mult) (rI Zw λi j=>.int (i * j)):=opI λ_ _ _ _ _ _ _ hc q=>mul_int q hc.ok
theorem fj:OpR X (Cr .FloorDiv) (rI dJ λi j=>.int (i / j)):=opI λi j _ _ _ _ _ hc q=>by
 have h1:(0:Int) < j:=hc.1;have h2:j < 1073741824:=hc.2;exact floordiv_int (by lia) (by rw[S7 i (by lia)];exact q) (.inl (PyProof.noPylong_small (by omega)))
theorem kP:OpR X (Cr .Mod) (rI (λ_ j=>0 < j) λi j=>.int (i % j)):=opI λi j _ _ _ _ _ hc q=>by
 have h1:(0:Int) < j:=hc;exact mod_int' (by lia) (by rw[Int.fmod_eq_emod_of_nonneg i (by lia)];exact q)
theorem kM:OpR X (Cr .LShift) (rI dI λi j=>.int (i * 2 ^ j.toNat)):=opI λ_ _ _ _ _ _ _ hc q=>lshift_int_small hc.1 hc.2.1 hc.2.2 q
theorem kL:OpR X (Cr .RShift) (rI (λ_ j=>0<=j) λi j=>.int (i / 2 ^ j.toNat)):=opI λi j _ _ _ _ _ hc q=>
 rshift_int hc (by rw[S7 i (WR _)];exact q)
theorem kU:OpR X (Cr .BitAnd) (rI0 λi j=>.int (BU i j)):=kX λ_ _ _ _ _ _ _ q=>and_int q
theorem unI{f:AH->Sem AH}{g:Int->Int}
  (rule:∀(i:Int) (t:Tok) (s:AL) (Q:AH->AL->Prop) (E:AH->AL->Prop),Q (.int (g i) s.toks) { s with toks:=s.toks+1 }->Ae (Ak X.prog X.w) X.A (f (.int i t)) Q E s) :
  UnR X f (rU λi=>.int (g i)):=by
 intro ζ s σ H x v Q I rx h;obtain⟨i,rfl,q⟩:=h;obtain⟨t,rfl⟩:=rx;exact rule i t s _ _ ⟨.int (g i),H,I.tok _,⟨_,rfl⟩,q⟩
theorem jV:UnR X (unaryOp .USub) (rU λi=>.int (-i)):=unI λ_ _ _ _ _ q=>neg_int q
end
section
variable{X:Cx}{a b c:Expr}{ta tb tc:TE}{pos:Pos}
theorem oA:OpR X (CM .Lt) (rI0 λi j=>.bl (decide (i < j))):=fq λ_ _ _ _ _ _ _ q=>lt_int q
theorem oB:OpR X (CM .LtE) (rI0 λi j=>.bl (decide (i<=j))):=fq λ_ _ _ _ _ _ _ q=>le_int q
theorem oC:OpR X (CM .Gt) (rI0 λi j=>.bl (decide (j < i))):=fq λ_ _ _ _ _ _ _ q=>gt_int q
theorem oE:OpR X (CM .GtE) (rI0 λi j=>.bl (decide (j<=i))):=fq λ_ _ _ _ _ _ _ q=>ge_int q
theorem OpR.or(h:OpR X f r)(h':OpR X f r'):OpR X f (λx y H Q=>r x y H Q∨r' x y H Q):=by
 intro ζ s σ H x y v u Q I rx ry q
 rcases q with q | q
 ·exact h ζ s σ H x y v u Q I rx ry q
 ·exact h' ζ s σ H x y v u Q I rx ry q
theorem Cz(b:Expr)(h:op≠.In:=by decide)(h2:op≠.NotIn:=by decide):DN op b=false:=by
 have e1:(op==CmpOp.In)=false:=by cases op <;> first | rfl | exact zX rfl h
 have e2:(op==CmpOp.NotIn)=false:=by cases op <;> first | rfl | exact zX rfl h2
 cases b <;> simp[DN,e1,e2]
theorem fb{op:CmpOp}{r:R2}(ho:OpR X (CM op) r)(ha:PE X a ta)(hb:PE X b tb)(hm:DN op b=false):PE X (.Compare a [op] [b] pos) (tOp r ta tb):=by
 intro ζ s σ H Q I h;exact wpAny_Compare1 (lh ha hb I h λv u s2 x y H2 I2 rx ry q=>ho ζ s2 σ H2 x y v u Q I2 rx ry q) hm
def iX(t:TE):TT:=λσ H Q=>t σ H λx H'=>∃k,x=.bl k/\Q k H'
theorem fF(ho:OpR X (CM op) r)(ha:PE X a ta)(hb:PE X b tb)(hm:DN op b=false):PT X (.Compare a [op] [b] pos) (iX (tOp r ta tb)):=by
 intro ζ s σ H Q I h
 refine dL (thn (ha ζ s σ H _ I h) λv s1 ⟨x,H1,I1,r1,q1⟩=>thn (hb ζ s1 σ H1 _ I1 q1) λu s2 ⟨y,H2,I2,r2,q2⟩=>
  thn (ho ζ s2 σ H2 x y v u _ I2 r1 r2 q2) λc s3 ⟨z,H3,I3,r3,k,e,q3⟩=>?_) hm
 subst e;cases r3;exact DY ⟨H3,I3,q3⟩
def ah(r r':R2)(ta tb tc:TE):TE:=λσ H Q=>ta σ H λx H1=>tb σ H1 λy H2=>r x y H2 λz H3=>∃k,z=.bl k /\
 (if k=true then tc σ H3 λw' H4=>r' y w' H4 Q else Q (.bl false) H3)
theorem bF(ho:OpR X (CM op) r)(rB:OpR X (CM op') r')(ha:PE X a ta)(hb:PE X b tb)(hc:PE X c tc)
  (hm:lastMarks [op,op'] [b,c]=false:=by with_unfolding_all rfl):PT X (.Compare a [op,op'] [b,c] pos) (iX (ah r r' ta tb tc)):=by
 intro ζ s σ H Q I h
 refine isTrue_chain (thn (ha ζ s σ H _ I h) λv s1 ⟨x,H1,I1,r1,q1⟩=>test_link (thn (hb ζ s1 σ H1 _ I1 q1) λu s2 ⟨y,H2,I2,r2,q2⟩=>
  thn (ho ζ s2 σ H2 x y v u _ I2 r1 r2 q2) λd s3 ⟨z,H3,I3,r3,k,e,q3⟩=>?_)) hm
 subst e;cases r3;refine DY ?_
 cases k with
 | false=>
  obtain⟨k',e',q'⟩:=q3;cases e';exact ite_ff ⟨H3,I3,q'⟩
 | true=>
  refine ite_tt (test_last (thn (hc ζ s3 σ H3 _ I3 q3) λw' s4 ⟨z',H4,I4,r4,q4⟩=>thn (rB ζ s4 σ H4 y z' u w' _ I4 r2 r4 q4) λd' s5 ⟨z2,H5,I5,r5,k2,e2,q5⟩=>?_));subst e2;cases r5;exact DY ⟨H5,I5,q5⟩
def lr(K:AF)(x:V)(H:Hp)(k:Bool):Prop:=
 match x with
 | .non=>k=false
 | .bl b=>k=b
 | .int i=>k=(i != 0)
 | .str y=>y.length<=sizeLine/\k=((y.length:Int) != 0)
 | .byt y=>y.size<=sizeLine/\k=((y.size:Int) != 0)
 | .ref p=>(∃xs,SqL K H p xs/\k = !xs.isEmpty)∨(∃xs,SqT K H p xs/\k = !xs.isEmpty)∨∃f',H p=some (.dK f')/\k = !f'.isEmpty
 | _=>False
theorem W4{κ:Type}{f':List (κ×V)}{vs:List (κ×AH)}(r:KV f' vs):(!vs.isEmpty) = !f'.isEmpty:=by
 cases r <;> rfl
theorem Qy(r:Bn xs i'):(!i'.toArray.isEmpty) = !xs.isEmpty:=by
 cases r <;> simp
theorem OP:(sizeLine:Nat) < 2 ^ 63:=by rw[dS];decide
theorem jX:TruR X (λx H Q=>∃k,lr X.K x H k/\Q k H):=by
 intro ζ s σ H x v Q I rx h;obtain⟨k,e,q⟩:=h;have hl:=OP;have hs:sizeLine=16777216:=dS
 cases x with
 | non=>
  cases rx;have e':k=false:=e;subst e';exact truthy_none ⟨H,I,q⟩
 | bl b=>
  cases rx;have e':k=b:=e;subst e';exact DY ⟨H,I,q⟩
 | int i=>
  obtain⟨t,rfl⟩:=rx;have e':k=(i != 0):=e;subst e';exact PySem.P.truthy_int ⟨H,I,q⟩
 | str y=>
  obtain⟨t,rfl⟩:=rx;obtain⟨hy,e'⟩:y.length<=sizeLine/\k=((y.length:Int) != 0):=e;subst e';exact PySem.P.truthy_str (by lia) ⟨H,I.tok _,q⟩
 | byt y=>
  obtain⟨t,rfl⟩:=rx;obtain⟨hy,e'⟩:y.size<=sizeLine/\k=((y.size:Int) != 0):=e;subst e';exact PySem.W.truthy_bytes (by lia) ⟨H,I.tok _,q⟩
 | ref p=>
  cases rx
  have e':(∃xs,SqL X.K H p xs/\k = !xs.isEmpty)∨(∃xs,SqT X.K H p xs/\k = !xs.isEmpty)∨∃f',H p=some (.dK f')/\k = !f'.isEmpty:=e
  rcases e' with⟨xs,hx,e'⟩ | ⟨xs,hx,e'⟩ | ⟨f',hx,e'⟩
  ·subst e'
   obtain⟨i',r,pl,hz⟩:=I.list hx;have hlen:=r.length;exact wpAny_truthy_list pl.isList (by simp only[Ab];lia) ⟨H,I.tok _,by rw[Qy r];exact q⟩
  ·subst e'
   obtain⟨i',r,pl,hz⟩:=I.tuple hx;have hlen:=r.length;exact truthy_tuple pl (by simp only[Ab];lia) ⟨H,I.tok _,by rw[Qy r];exact q⟩
  ·subst e'
   obtain⟨hz,hS,vs,r,m⟩:f'.length<=sizeLine/\(p==Db)=false/\∃vs,KV f' vs/\s.heap.DictOf (D8 X.prog X.w) p vs:=I.hok p _ hx
   have hlen:f'.length=vs.length:=Eb r;exact wpAny_truthy_dict hS m (by lia) ⟨H,I.tok _,by rw[W4 r];exact q⟩
 | _=>exact(show False from e).elim
theorem bD(ha:PE X a ta)(he:∀whole,i3 a X.env whole=(do let v <-whole;lz a.pos;V0 [v] (truthy v))) :
  PT X a (λσ H Q=>ta σ H λx H'=>∃k,lr X.K x H' k/\Q k H'):=by
 intro ζ s σ H Q I h;exact isTrue_plain (thn (ha ζ s σ H _ I h) λv s1 ⟨x,H1,I1,r1,q1⟩=>jX ζ s1 σ H1 x v Q I1 r1 q1) (he _)
theorem vals1(r:Bn [x] us):∃u,us=[u]/\RelV x u:=by
 cases r with
 | cons r1 r2=>cases r2;exact⟨_,rfl,r1⟩
theorem vals2(r:Bn [x,y] us):∃u w',us=[u,w']/\RelV x u/\RelV y w':=by
 cases r with
 | cons r1 r2=>
  cases r2 with
  | cons r3 r4=>cases r4;exact⟨_,_,rfl,r1,r3⟩
theorem Zq(hc:X.calm=true):Kj X (.builtin "max") (λxs H Q=>∃i j,xs=[.int i,.int j]/\Q (.int (if j > i then j else i)) H):=by
 intro ζ s σ H xs us Q I r h;obtain⟨i,j,rfl,q⟩:=h;obtain⟨u,w',rfl,⟨t,rfl⟩,⟨t',rfl⟩⟩:=vals2 r
 refine max_two_ints (I.ok.hd hc) λh' tk k=>⟨_,H,I.kept k,?_,q⟩
 by_cases hj:j > i
 ·rw[qX hj,qX hj];exact⟨_,rfl⟩
 ·rw[qY hj,qY hj];exact⟨_,rfl⟩
theorem Zp(hc:X.calm=true):Kj X (.builtin "min") (λxs H Q=>∃i j,xs=[.int i,.int j]/\Q (.int (if j < i then j else i)) H):=by
 intro ζ s σ H xs us Q I r h;obtain⟨i,j,rfl,q⟩:=h;obtain⟨u,w',rfl,⟨t,rfl⟩,⟨t',rfl⟩⟩:=vals2 r
 refine min_two_ints (I.ok.hd hc) λh' tk k=>⟨_,H,I.kept k,?_,q⟩
 by_cases hj:j < i
 ·rw[qX hj,qX hj];exact⟨_,rfl⟩
 ·rw[qY hj,qY hj];exact⟨_,rfl⟩
theorem Zr:Kj X (.type "int") (λxs H Q=>(∃i,xs=[.int i]/\Q (.int i) H)∨∃k,xs=[.bl k]/\Q (.int (if k then 1 else 0)) H):=by
 intro ζ s σ H xs us Q I r h
 rcases h with⟨i,rfl,q⟩ | ⟨k,rfl,q⟩
 ·obtain⟨u,rfl,t,rfl⟩:=vals1 r
  exact call_int_int ⟨.int i,H,I,⟨_,rfl⟩,q⟩
 ·obtain⟨u,rfl,r1⟩:=vals1 r
  cases r1;exact call_int_bool ⟨.int (if k then 1 else 0),H,I.tok _,⟨_,rfl⟩,q⟩
end
structure XU(h:Cu)(x dx C:AU)(mA:Str->Option AH):Prop where
 obj:h.get? x=some (Ds C dx)
 ns:h.Ns1 dx mA
 ne:dx≠x
theorem ZQ{h:Cu}{dx:AU}{mA:Str->Option AH}(n:h.Ns1 dx mA):∃od,h.get? dx=some od/\∀name,Kw name od=some (mA name):=by
 obtain⟨o,es,ep,ho,hd,hk,_,hm⟩:=n;refine⟨o,ho,λname=>?_⟩;have e:=hm name;unfold nsFind findBy at e;rw[<-Array.find?_toList]at e;unfold Kw;rw[hd];dsimp only;split
 ·rename_i y q
  rw[q]at e;exact congrArg some e
 ·rename_i q
  rw[q]at e
  have a:es.toList.any (·.refKey)=false:=by
   rw[aB];intro y hy;obtain⟨z,t,vF⟩:=hk y (FF.mp hy);simp[Oj.refKey,vF]
  have a':¬es.toList.any (·.refKey)=true:=by rw[a];exact AI
  rw[qY a'];exact congrArg some e
theorem XU.look{h}{x dx C}{mA}(I:XU h x dx C mA):∃od,PySem.W.InstAt h x (Ds C dx) C (some od)/\∀name,Kw name od=some (mA name):=
 let ⟨od,ho,hl⟩:=ZQ I.ns
 ⟨od,⟨I.obj,rfl,rfl,ho⟩,hl⟩
section
variable{prog:Ba}{w:Bx}{A:CC}{E:AH->AL->Prop}{s:AL}{K:AF}{x dx C f:AU}{mA:Str->Option AH}{name:Str}{v:AH}
theorem gi(X:K.In s.heap)(I:XU s.heap x dx C mA)(hg:Je K C name=true)(hh:M9 K C=true)
  (ha:DC K (.ref C) name=some none) (hv:mA name=some v) (tV:Yd v=true) (h:Q v { s with toks:=s.toks+1 }) :
  Ae (Ak prog w) A (getAttr (.ref x) name expr) Q E s:=by
 obtain⟨od,J,hl⟩:=I.look;exact PySem.W.get_value X J (L9 hg).1 (PySem.W.findObj_own hh ha rfl (by rw[hl,hv])) tV h
theorem cQ(X:K.In s.heap)(I:XU s.heap x dx C mA)(hg:Je K C name=true)
  (hf:DC K (.ref C) name=some (some (.ref f))) (ht:Sr K (.ref f)=true) (hv:mA name=none) (h:Q (.ref f,[.ref x]) s) :
  Ae (Ak prog w) A (Zx (.ref x) name pl) Q E s:=by
 obtain⟨od,J,hl⟩:=I.look;exact PySem.W.method_fn X J (L9 hg).1 (L9 hg).2 hf (beq_iff_eq.mp ht) (by show(Kw name od).map (·.isSome)=some false;rw[hl,hv];rfl) h
theorem eo(X:K.In s.heap)(I:XU s.heap x dx C mA)
  (hs:DC K (.ref C) "__setattr__" = some (some (.builtin "object.__setattr__"))) (hp:XX K C=true) (ht:O2 K C name=some none) (hh:M9 K C=true)
  (hw:UV mA ns) (hsz:ns.length<=sizeLine)
  (h:∀h',XU h' x dx C (λy=>if y=name then some v else mA y)->EZ dx s.heap h'->Q () { s with heap:=h',toks:=s.toks+2 }) :
  Ae (Ak prog w) A (setAttr (.ref x) name v) Q E s:=by
 obtain⟨od,J,hl⟩:=I.look;refine PySem.W.set_plain X J hs (PySem.W.osa_open (s:={ s with toks:=s.toks+1 }) (r:=none) X J hp ht λb=>?_);obtain⟨cd,hc,rC⟩:=PySem.W.any_some hh;have hx:s.heap.get? x=some ⟨.ref C,some dx,.plain,#[]⟩:=I.obj;refine AB (AM (AB (AB (wpAny_loadPart hx (AB (md (s:={ s with toks:=s.toks+1 }) (PySem.W.looks_clsIn X hc) ?_))))));rw[rC];refine AM (a:=some dx) (AB (AM (AB ?_)))
 refine wpAny_nsSet1 (s:={ s with toks:=s.toks+1 }) I.ns λh' qF qz=>?_
 obtain⟨oD,esD,epD,yS,yT,yU⟩:=qF.count (pT name v hw);refine AB (wpAny_lookBehind yS (by rw[yT];exact pastItsLine_dict (Aw yU (by rw[Aj];lia))) ?_);exact AM (h _ ⟨(qz.2 _ (CF I.ne)).trans I.obj,qF,I.ne⟩ qz)
theorem br(X:K.In s.heap)(hm:Z0 K C=true)
  (hi:DC K (.ref C) "__init__" = some (some (.ref f))) (hf:PySem.W.typeIn K (.ref f)=some (.type "function"))
  (h:MW (Ak prog w) (A.under (.builtin "type.__call__" ⟨.ref C :: vs,kw⟩)) (.call (.ref f) ⟨.ref (s.heap.objs.size+1) :: vs,kw⟩) (PySem.W.InitBack (s.heap.objs.size+1) R)
   { s with heap:=(s.heap.push Cm).push (Ds C s.heap.objs.size) }) :
  MW (Ak prog w) A (.call (.ref C) ⟨vs,kw⟩) R s:=by
 obtain⟨hh,g,d,t,os⟩:=s;exact PySem.W.make_core (PySem.W.makes_of X hm) (PySem.W.looks_findIn X hi) (λself=>PySem.W.bind_fn X self hf) (.inl rfl) h
end
def putF(f:Str)(v:V):List (Str×V)->List (Str×V)
 | []=>[(f,v)]
 | (g,x) :: r=>if g=f then(g,v) :: r else(g,x) :: putF f v r
theorem Ov(f g:Str)(v:V):∀fs:List (Str×V),(putF f v fs).lookup g=if g=f then some v else fs.lookup g
 | []=>by
  show Hk g [(f,v)]=_
  by_cases h:g=f
  ·have hb:(g==f)=true:=beq_iff_eq.mpr h
   simp only[Hk,hb,qX h]
  ·have hb:(g==f)=false:=beq_eq_false_iff_ne.mpr h
   simp only[Hk,hb,qY h]
 | (k,x) :: r=>by
  have ih:=Ov f g v r;rw[show putF f v ((k,x) :: r)=(if k=f then(k,v) :: r else(k,x) :: putF f v r)from rfl]
  by_cases hk:k=f
  ·rw[qX hk]
   by_cases h:g=k
   ·have hb:(g==k)=true:=beq_iff_eq.mpr h
    simp only[Hk,hb,qX (h.trans hk)]
   ·have hb:(g==k)=false:=beq_eq_false_iff_ne.mpr h
    simp only[Hk,hb,qY (λe:g=f=>h (e.trans hk.symm))]
  ·rw[qY hk]
   by_cases h:g=k
   ·have hb:(g==k)=true:=beq_iff_eq.mpr h
    simp only[Hk,hb,qY (λe:g=f=>hk (h.symm.trans e))]
   ·have hb:(g==k)=false:=beq_eq_false_iff_ne.mpr h
    simp only[Hk,hb];exact ih
theorem OR(f:Str)(v:V):∀fs:List (Str×V),f∈(putF f v fs).map (·.1)/\∀g,g∈fs.map (·.1)->g∈(putF f v fs).map (·.1)
 | []=>⟨by simp[putF],λg h=>by simp at h⟩
 | (k,x) :: r=>by
  obtain⟨i1,i2⟩:=OR f v r;rw[show putF f v ((k,x) :: r)=(if k=f then(k,v) :: r else(k,x) :: putF f v r)from rfl]
  by_cases hk:k=f
  ·rw[qX hk]
   subst hk;exact⟨by simp,λg h=>by simpa using h⟩
  ·rw[qY hk]
   refine⟨?_,λg h=>?_⟩
   ·rw[A9]
    exact AJ _ i1
   ·rw[A9]at h ⊢
    rcases AV.mp h with e | e
    ·exact AV.mpr (.inl e)
    ·exact AJ _ (i2 g e)
theorem Ox(f:Str)(v:V):∀fs:List (Str×V),(putF f v fs).length<=fs.length+1
 | []=>by simp[putF]
 | (k,x) :: r=>by
  have ih:=Ox f v r;rw[show putF f v ((k,x) :: r)=(if k=f then(k,v) :: r else(k,x) :: putF f v r)from rfl]
  by_cases hk:k=f
  ·rw[qX hk,Aj,Aj];lia
  ·rw[qY hk,Aj,Aj];lia
theorem MF.some_of(r:MF (some v) o):∃u,o=some u/\RelV v u:=by
 cases o with
 | none=>exact(show False from r).elim
 | some u=>exact⟨u,rfl,r⟩
theorem MF.none_of(r:MF none o):o=none:=by
 cases o with
 | none=>rfl
 | some u=>exact(show False from r).elim
theorem ZZ(r:RelV v u):Yd u=true:=by
 cases v with
 | non=>cases(show u=DO from r);rfl
 | bl b=>cases(show u=Rg b from r);rfl
 | int i=>obtain⟨t,e⟩:=(show ∃t,u=O0 i t from r);cases e;rfl
 | str x=>obtain⟨t,e⟩:=(show ∃t,u=Oz x t from r);cases e;rfl
 | byt b=>obtain⟨t,e⟩:=(show ∃t,u=mI b t from r);cases e;rfl
 | flt b=>obtain⟨t,e⟩:=(show ∃t,u=WC b t from r);cases e;rfl
 | ref a=>cases(show u=BA a from r);rfl
 | ty n=>cases(show u=Fy n from r);rfl
section
variable{P:Ba}{w:Bx}{H:Hp}{h:Cu}{a C dx:AU}{fs:List (Str×V)}
theorem Px(hok:HOk P w H h)(e:H a=some (.ins C dx fs)):∃mA,XU h a dx C mA/\(∀f,MF (fs.lookup f) (mA f))/\UV mA (fs.map (·.1))/\fs.length<=1000/\H dx=some (.own a):=by
 obtain⟨d,z,ne,ob,mA,n,r,q⟩:=(show Cj P w H h a (.ins C dx fs)from hok a _ e);exact⟨mA,⟨ob,n,ne⟩,r,q,z,d⟩
end
structure Cls(K:AF)(C:AU):Prop where
 pg:Je K C Str.empty=true
 hd:M9 K C=true
 po:XX K C=true
 sa:DC K (.ref C) "__setattr__" = some (some (.builtin "object.__setattr__"))
theorem Cls.get{K}{C}(c:Cls K C)(f:Str):Je K C f=true:=c.pg
def Eh(K:AF)(C:AU)(f:Str):Prop:=DC K (.ref C) f=some none
theorem Eh.taker{K}{C}{f}(n:Eh K C f):O2 K C f=some none:=by
 unfold O2;rw[show DC K (.ref C) f=some none from n];rfl
structure UN(K:AF)(C:AU)(m:Str)(f:AU):Prop where
 at_:DC K (.ref C) m=some (some (.ref f))
 fn:Sr K (.ref f)=true
 kp:Eu K (.ref f)=true
section
variable{X:Cx}{ζ:List (AU×Obj)}{σ:St}{H:Hp}{s:AL}{a C dx:AU}{fs:List (Str×V)}{f:Str}{v:V}{A:CC}{E:AH->AL->Prop}
theorem W7(I:Inv X ζ σ H s)(e:H a=some (.ins C dx fs))(c:Cls X.K C)(n:Eh X.K C f)(l:fs.lookup f=some v)
  (h:∀u s',Inv X ζ σ H s'->RelV v u->Q u s'):Ae (Ak X.prog X.w) A (getAttr (.ref a) f b) Q E s:=by
 obtain⟨mA,O,r,_,_,_⟩:=Px I.hok e;obtain⟨u,hu,ru⟩:=MF.some_of (v:=v) (o:=mA f) (by rw[<-l];exact r f);exact gi I.kIn O (c.get f) c.hd n hu (ZZ ru) (h u _ (I.tok _) ru)
theorem W6(I:Inv X ζ σ H s)(e:H a=some (.ins C dx fs))(c:Cls X.K C)(k:UN X.K C m g)(l:fs.lookup m=none)
  (h:Q (.ref g,[.ref a]) s):Ae (Ak X.prog X.w) A (Zx (.ref a) m pl) Q E s:=by
 obtain⟨mA,O,r,_,_,_⟩:=Px I.hok e;have hn:mA m=none:=MF.none_of (by rw[<-l];exact r m);exact cQ I.kIn O (c.get m) k.at_ k.fn hn h
theorem We(I:Inv X ζ σ H s)(e:H a=some (.ins C dx fs))(c:Cls X.K C)(n:Eh X.K C f)(hl:fs.length < 1000)(ry:RelV y u)
  (h:∀s',Inv X ζ σ (upd H a (.ins C dx (putF f y fs))) s'->Q () s'):Ae (Ak X.prog X.w) A (setAttr (.ref a) f u) Q E s:=by
 obtain⟨mA,O,r,wi,_,ho⟩:=Px I.hok e
 have hz:(fs.map (·.1)).length<=sizeLine:=by rw[AC,dS];lia
 refine eo I.kIn O c.sa c.po n.taker c.hd wi hz λh' O' sb=>h _ ?_
 have hd:∃o,h'.get? dx=some o:=let ⟨o,_,_,e',_⟩:=O'.ns;⟨o,e'⟩
 refine I.write (x:=a) (e:=dx) (by rw[e];exact EX) (.inr ho) (λb q hb z=>(sb.2 b hb).trans z) hd ?_;refine⟨by rw[BX O.ne];exact ho,?_,O.ne,O'.obj,_,O'.ns,λg=>?_,λg hg=>?_⟩
 ·have:=Ox f y fs;lia
 ·show MF ((putF f y fs).lookup g) (if g=f then some u else mA g)
  rw[Ov]
  by_cases q:g=f
  ·rw[qX q,qX q];exact ry
  ·rw[qY q,qY q];exact r g
 ·by_cases q:g=f
  ·rw[q];exact(OR f y fs).1
  ·refine(OR f y fs).2 g (wi g λz=>hg ?_)
   show(if g=f then some u else mA g)=none;rw[qY q];exact z
theorem Inv.made(I:Inv X ζ σ H s):Inv X ζ σ (upd (upd H s.heap.objs.size (.own (s.heap.objs.size+1))) (s.heap.objs.size+1) (.ins C s.heap.objs.size []))
  { s with heap:=(s.heap.push Cm).push (Ds C s.heap.objs.size) }:=by
 have e1:(s.heap.push Cm).get? s.heap.objs.size=some Cm:=Af s.heap rfl
 have e2:((s.heap.push Cm).push (Ds C s.heap.objs.size)).get? (s.heap.objs.size+1)=some (Ds C s.heap.objs.size):=by
  have:=Af (s.heap.push Cm) (o:=Ds C s.heap.objs.size) rfl;rwa [EL]at this
 have e3:(s.heap.push Cm).Ns s.heap.objs.size (λ_=>none):=⟨Cm,#[],_,e1,rfl,(λe he=>zX he (by simp)),λ_=>rfl⟩;have I1:=I.laid (a:=s.heap.objs.size) (o:=.own (s.heap.objs.size+1)) (h':=s.heap.push Cm) (t':=s.toks) (λb u q=>AR _ q) (AK _) ⟨_,e1⟩;refine I1.laid (a:=s.heap.objs.size+1) (o:=.ins C s.heap.objs.size []) (t':=s.toks) (λb u q=>AR _ q) (mf (EL _ _)) ?_;have ne:s.heap.objs.size≠s.heap.objs.size+1:=BB (DD _);refine⟨by rw[BX ne,Bu],Dc _,ne,e2,λ_=>none,(Cu.Ns1.of_empty e3).at λo q=>AR _ q,λ_=>EX,λy hy=>zX rfl hy⟩
theorem iA(hb:EQ e f env (CH e env)=CH e env)
  (h:Ae (Ak prog w) A (CH e env) (λo s₁=>Ae (Ak prog w) A (getAttr o f true) Q E s₁) E s):Ae (Ak prog w) A (CH (.Attribute e f pos) env) Q E s:=
 Attribute_any_ h (by rw[arm_eval_Attribute,hb])
end
def tFld(K:AF)(ta:TE)(f:Str):TE:=λσ H Q=>ta σ H λx H1=>∃a C dx fs v,x=.ref a/\H1 a=some (.ins C dx fs)/\Cls K C/\Eh K C f/\fs.lookup f=some v/\Q v H1
def sFld(K:AF)(ta tv:TE)(f:Str):TS:=λD σ H=>tv σ H λy H1=>ta σ H1 λx H2=>∃a C dx fs,x=.ref a/\H2 a=some (.ins C dx fs)/\Cls K C/\Eh K C f/\fs.length < 1000 /\
 D.nx σ (upd H2 a (.ins C dx (putF f y fs)))
section
variable{X:Cx}{o e value:Expr}{f:Str}{pos pos':Pos}{ta tv:TE}
theorem kF(he:PE X e ta)(hb:EQ e f X.env (CH e X.env)=CH e X.env):PE X (.Attribute e f pos) (tFld X.K ta f):=by
 intro ζ s σ H Q I h;refine iA hb (thn (he ζ s σ H _ I h) λu s1 ⟨x,H1,I1,rx,a,C,dx,fs,v,ex,ea,c,n,l,q⟩=>?_);subst ex;obtain rfl:u=BA a:=rx
 exact W7 I1 ea c n l λu' s2 I2 ru=>⟨v,H1,I2,ru,q⟩
theorem jx(ha:PE X o ta)(hv:PE X value tv)(hs:Fu value (some (.Attribute o f pos')) pos.line X.env=pure false):PS X (.Assign [.Attribute o f pos'] value pos) (sFld X.K ta tv f):=by
 intro ζ s σ H D I h;refine plainObj_wpAny_Assign_Attribute (thn (hv ζ s σ H _ I h) λu s1 ⟨y,H1,I1,ry,q⟩=>thn (ha ζ s1 σ H1 _ I1 q) λov s2 ⟨x,H2,I2,rx,a,C,dx,fs,ex,ea,c,n,l,q2⟩=>?_) hs;subst ex;obtain rfl:ov=BA a:=rx
 exact We I2 ea c n l ry λs3 I3=>⟨σ,_,I3,q2⟩
end
section
variable{X:Cx}{ζ:List (AU×Obj)}{σ:St}{H:Hp}{s:AL}{A:CC}{E:AH->AL->Prop}{Q:AH->AL->Prop}{c:AH}{b:Bool}
inductive Nn(K:AF)(H:Hp):V->AH->Prop where
 | non:Nn K H .non (.type "NoneType")
 | bl (x:Bool):Nn K H (.bl x) (.type "bool")
 | int (i:Int):Nn K H (.int i) (.type "int")
 | str (x:Str):Nn K H (.str x) (.type "str")
 | flt (x:UInt64):Nn K H (.flt x) (.type "float")
 | lst {a:AU} {xs:List V} (e:H a=some (.lst xs)):Nn K H (.ref a) (.type "list")
 | frz {a:AU} {o:Obj} {xs:List V} (e:H a=some (.frz o (.lst xs))):Nn K H (.ref a) (.type "list")
 | tup {a:AU} {xs:List V} (e:H a=some (.tup xs)):Nn K H (.ref a) (.type "tuple")
 | dK {a:AU} {f':List (Key×V)} (e:H a=some (.dK f')):Nn K H (.ref a) (.type "dict")
 | dT {a:AU} {f':List (List Key×V)} (e:H a=some (.dT f')):Nn K H (.ref a) (.type "dict")
 | ins {a C dx:AU} {fs:List (Str×V)} (e:H a=some (.ins C dx fs)) (cl:Cls K C) (ha:DC K (.ref C) "__class__" = some (some (.builtin "object.__class__")))
   (hn:PySem.W.specialIn K (.builtin "object.__class__") "__get__" = some (some (.builtin "getset_descriptor.__get__"))) (uS:PySem.W.takesIn K (.builtin "object.__class__")=some true)
   (hm:PySem.W.mroIn K C (.type "object")=some true):Nn K H (.ref a) (.ref C)
theorem ZV(I:Inv X ζ σ H s)(rx:RelV x u)(ty:Nn X.K H x t)(e:Et X.K t c=some b)(h:∀tk,Q (.bool b) { s with toks:=tk }) :
  Ae (Ak X.prog X.w) A (call (.builtin "isinstance") [u,c]) Q E s:=by
 cases ty with
 | non=>cases(show u=DO from rx);exact CU PySem.W.kitx_none I.kIn EX e (λz=>nomatch z) h
 | bl y=>cases(show u=Rg y from rx);exact CU PySem.W.kitx_bool I.kIn EX e (λz=>nomatch z) h
 | int i=>obtain⟨t,q⟩:=(show ∃t,u=O0 i t from rx);cases q;exact CU PySem.W.kitx_int I.kIn EX e (λz=>nomatch z) h
 | str y=>obtain⟨t,q⟩:=(show ∃t,u=Oz y t from rx);cases q;exact CU PySem.W.kitx_str I.kIn EX e (λz=>nomatch z) h
 | flt y=>obtain⟨t,q⟩:=(show ∃t,u=WC y t from rx);cases q;exact CU PySem.W.kitx_float I.kIn EX e (λz=>nomatch z) h
 | @lst a xs ea=>
  cases(show u=BA a from rx);obtain⟨_,_,n,_,h1⟩:=(show Cj X.prog X.w H s.heap a (.lst xs)from I.hok a _ ea);exact CU XY I.kIn ⟨_,h1,rfl⟩ e (λz=>nomatch z) h
 | @frz a ob xs ea=>
  cases(show u=BA a from rx);obtain⟨_,_,_,n,_,h1⟩:=(show Cj X.prog X.w H s.heap a (.frz ob (.lst xs))from I.hok a _ ea);exact CU XY I.kIn ⟨_,h1,rfl⟩ e (λz=>nomatch z) h
 | @tup a xs ea=>
  cases(show u=BA a from rx);obtain⟨_,_,_,p⟩:=(show Cj X.prog X.w H s.heap a (.tup xs)from I.hok a _ ea);obtain⟨o,h1,h2,_⟩:=p;exact CU PySem.W.kitx_tuple I.kIn ⟨o,h1,h2⟩ e (λz=>nomatch z) h
 | @dK a f' ea=>
  cases(show u=BA a from rx);obtain⟨_,_,vs,_,p⟩:=(show Cj X.prog X.w H s.heap a (.dK f')from I.hok a _ ea);obtain⟨o,es,ep,h1,h2,_⟩:=p;exact CU XZ I.kIn ⟨o,h1,h2.1⟩ e (λz=>nomatch z) h
 | @dT a f' ea=>
  cases(show u=BA a from rx);obtain⟨_,_,xs,_,o,es,ep,h1,h2,_⟩:=(show Cj X.prog X.w H s.heap a (.dT f')from I.hok a _ ea);exact CU XZ I.kIn ⟨o,h1,h2.1⟩ e (λz=>nomatch z) h
 | @ins a C dx fs ea cl ha hn uS hm=>
  cases(show u=BA a from rx);obtain⟨mA,O,_⟩:=Px I.hok ea;obtain⟨od,J,_⟩:=O.look;exact CU (PySem.W.kitx_own (cl.get _) cl.hd ha hn uS hm) I.kIn J e (λz=>nomatch z) h
end
structure Gn(k:Nat)(A:CC):Prop where
 hd:A.handled=none
 dp:A.depth+3 * k+5 < recursionLimit
 un:A.units+16 * k+200 < Fi
theorem Gn.mono(r:Gn k A)(h:j<=k):Gn j A:=⟨r.hd,by have:=r.dp;lia,by have:=r.un;lia⟩
theorem Gn.deeper(r:Gn (k+1) A)(env:Env):Gn k (A.deeper env):=
 ⟨r.hd,by have:=r.dp;show A.depth+1+3 * k+5 < _;lia,by have:=r.un;show A.units+3+16 * k+200 < _;lia⟩
theorem Wy{A:CC}{C:AU}{us:List AH}{kw:List (Str×AH)}:(A.under (.builtin "type.__call__" ⟨.ref C :: us,kw⟩)).depth=A.depth+1:=by
 first | rfl | simp[US,Code.weight,Code.isCreation,Code.isGuard,Code.isCaller,mm,V4,guardIds]
theorem Wx{A:CC}{C:AU}{us:List AH}{kw:List (Str×AH)}:(A.under (.builtin "type.__call__" ⟨.ref C :: us,kw⟩)).units=A.units+1:=by
 first | rfl | simp[US,Code.cUnits,mm,V4]
theorem Gn.make{k}{A}(r:Gn (k+1) A)(C:AU)(us:List AH)(kw:List (Str×AH)):Gn k (A.under (.builtin "type.__call__" ⟨.ref C :: us,kw⟩)):=
 ⟨r.hd,by have:=r.dp;rw[Wy];lia,by have:=r.un;rw[Wx];lia⟩
theorem Gn.depth(r:Gn k A):A.depth < recursionLimit:=by have:=r.dp;lia
theorem Gn.units(r:Gn k A):A.units+64 < Fi:=by have:=r.un;lia
def tNil:TA:=λ_ H Q=>Q [] H
def nN(ta:TE)(tr:TA):TA:=λσ H Q=>ta σ H λx H1=>tr σ H1 λxs H2=>Q (x :: xs) H2
section
variable{X:Cx}{e:Expr}{es:List Expr}{te:TE}{t:TA}{pos:Pos}
theorem IS:PA X [] tNil:=λ_ _ _ _ H Q I h=>Calls.spliced_nil ⟨[],H,I,.nil,h⟩
theorem FI(ha:PE X e te)(hr:PA X es t)(hs:AX (e :: es) X.env=(false,CH e X.env) :: AX es X.env:=by rfl):PA X (e :: es) (nN te t):=by
 intro pos ζ s σ H Q I h;rw[hs];show Ae _ _ (spliced ((false,CH e X.env) :: Dp pos (AX es X.env))) _ _ s;refine Calls.spliced_cons (thn (ha ζ s σ H _ I h) λu s1 ⟨x,H1,I1,r1,q1⟩=>?_)
 exact thn (hr pos ζ s1 σ H1 _ I1 q1) λus s2 ⟨xs,H2,I2,r2,q2⟩=>⟨x :: xs,H2,I2,.cons r1 r2,q2⟩
def tTup(t:TA):TE:=λσ H Q=>t σ H λxs H1=>xs.length<=sizeLine/\∀p,H1 p=none->Q (.ref p) (upd H1 p (.tup xs))
def tLst(t:TA):TE:=λσ H Q=>t σ H λxs H1=>xs.length<=sizeLine/\∀p,H1 p=none->Q (.ref p) (upd H1 p (.lst xs))
theorem j9{x1}(h:PA X es t):PE X (.Tuple es x1 pos) (tTup t):=by
 intro ζ s σ H Q I hq;refine wpAny_Tuple_spliced (thn (h pos ζ s σ H _ I hq) λus s1 ⟨xs,H1,I1,r,z,q⟩=>⟨by rw[<-r.length];exact z,?_⟩);have hf:H1 s1.heap.objs.size=none:=I1.hok.fresh (AK _);refine⟨.ref s1.heap.objs.size,upd H1 s1.heap.objs.size (.tup xs),I1.laid (t':=s1.toks) (λb u e=>AR _ e) (AK _) ?_,rfl,q _ hf⟩;exact⟨⟨z,⟨_,Af _ rfl,rfl⟩⟩,us,r,⟨_,Af _ rfl,rfl,_,rfl⟩⟩
theorem kD(h:PA X es t):PE X (.List es pos) (tLst t):=by
 intro ζ s σ H Q I hq;refine wpAny_List_spliced (thn (h pos ζ s σ H _ I hq) λus s1 ⟨xs,H1,I1,r,z,q⟩=>⟨by rw[<-r.length];exact z,?_⟩);have hf:H1 s1.heap.objs.size=none:=I1.hok.fresh (AK _);refine⟨.ref s1.heap.objs.size,upd H1 s1.heap.objs.size (.lst xs),I1.laid (t':=s1.toks) (λb u e=>AR _ e) (AK _) ?_,rfl,q _ hf⟩;exact⟨z,us,0,r,Af _ rfl⟩
end
abbrev Sp:=List V->Hp->VK->XK->Prop
abbrev CXT:=List Env->Hp->AL->XK->AH->AL->Prop
structure XV(P:Ba)(w:Bx)(K:AF)(mg:Str->Option AH)(base:Cu)(A:CC)(outer:List Env)(s:AL)(H:Hp):Prop where
 frames:A.frames=some outer
 mod:Mod K mg base
 bs:∀b o,base.get? b=some o->s.heap.get? b=some o/\H b=none
 bsz:base.objs.size<=s.heap.objs.size
 funs:s.heap.FunFrames base outer
 frf:∀b∈frs outer,H b=none
 hok:HOk P w H s.heap
 bare:Jj s.gens
def CE(outer:List Env)(P:Ba)(w:Bx)(H:Hp)(s:AL)(Q:VK)(u:AH)(s':AL):Prop:=
 ∃v H',s'.os=s.os/\Jj s'.gens/\Un (frs outer) [] H H' s.heap s'.heap/\HOk P w H' s'.heap/\RelV v u/\Q v H'
def CR(CX:CXT)(outer:List Env)(P:Ba)(w:Bx)(H:Hp)(s:AL)(Q:VK)(E:XK)(r:Result)(s':AL):Prop:=
 match r with
 | .ok (.ret u)=>CE outer P w H s Q u s'
 | .ok _=>False
 | .error e=>CX outer H s E e s'
structure Cq(P:Ba)(w:Bx)(K:AF)(mg:Str->Option AH)(base:Cu)(CX:CXT)(k:Nat)(f:AU)(fd:Jz)(ps:List Str)(sp:Sp):Prop where
 len:∀vs H Q E,sp vs H Q E->vs.length=ps.length
 run:∀(A:CC) (outer:List Env) (s:AL) (H:Hp) (args:Args) (us:List AH) (vs:List V) (Q:VK) (E:XK),Gn k A->XV P w K mg base A outer s H->V5 s fd args (ps.zip us)->Bn vs us->sp vs H Q E ->
  MW (Ak P w) A (.call (.ref f) args) (CR CX outer P w H s Q E) s
theorem Cq.imp{P}{w}{K}{mg}{base}{CX}{k}{f}{fd}{ps}{sp sp'}(F:Cq P w K mg base CX k f fd ps sp)
  (h:∀vs H Q E,sp' vs H Q E->sp vs H Q E):Cq P w K mg base CX k f fd ps sp':=
 ⟨λvs H Q E q=>F.len vs H Q E (h _ _ _ _ q),λA outer s H args us vs Q E hr he hb hv hs=>F.run A outer s H args us vs Q E hr he hb hv (h _ _ _ _ hs)⟩
theorem XV.make{P}{w}{K}{mg}{base}{A}{outer}{s}{H}(e:XV P w K mg base A outer s H)(C:AU)(us:List AH)(kw:List (Str×AH)) :
  XV P w K mg base (A.under (.builtin "type.__call__" ⟨.ref C :: us,kw⟩)) outer s H:=⟨by first | exact e.frames | (simpa[US,Code.envs,V4,pushEnvs]using e.frames),e.mod,e.bs,e.bsz,e.funs,e.frf,e.hok,e.bare⟩
section
variable{X:Cx}{ζ:List (AU×Obj)}{σ:St}{H:Hp}{s s':AL}
theorem Inv.env0(I:Inv X ζ σ H s):XV X.prog X.w X.K X.mg X.base X.A X.stack s H:=
 ⟨I.ok.frames,I.ok.mod,I.bs,Aw I.ok.bsz I.sz,I.stack,I.stkFree,I.hok,I.bare⟩
theorem Inv.after(I:Inv X ζ σ H s)(h:CE X.stack X.prog X.w H s Q u s'):EP X ζ σ Q u s':=by
 obtain⟨v,H',os,bare,un,hok,r,q⟩:=h;obtain⟨hh,g,d,t,yV⟩:=s';obtain rfl:yV=s.os:=os;exact⟨v,H',I.call (h':=hh) (g':=g) (d':=d) (t':=t) (ch:=[]) un hok bare (λb z=>zX z (by simp)),r,q⟩
end
def nO(sp:Sp)(qI:List V)(E:St->XK)(t:TA):TE:=λσ H Q=>t σ H λvs H1=>sp (vs++qI) H1 Q (E σ)
def iY(C:AU)(m:Str)(sp:Sp)(qI:List V)(E:St->XK)(ta:TE)(t:TA):TE:=λσ H Q=>ta σ H λx H1=>∃a dx fs,x=.ref a/\H1 a=some (.ins C dx fs)/\fs.lookup m=none /\
 t σ H1 λvs H2=>sp (x :: (vs++qI)) H2 Q (E σ)
def nJ(C:AU)(sp:Sp)(qI:List V)(E:St->XK)(t:TA):TE:=λσ H Q=>t σ H λvs H1=>∀x dx,H1 x=none->H1 dx=none->dx≠x ->
 sp (.ref x :: (vs++qI)) (upd (upd H1 dx (.own x)) x (.ins C dx [])) (λv H2=>v=.non/\Q (.ref x) H2) (E σ)
def Binds(K:AF)(fd:Jz)(ps:List Str)(ds:List AH):Prop:=
 ∀(s:AL) (us:List AH),K.In s.heap->(us++ds).length=ps.length->V5 s fd ⟨us,[]⟩ (ps.zip (us++ds))
theorem Binds.all{K}{fd}{ps}(h:∀us:List AH,us.length=ps.length->dY fd ⟨us,[]⟩=pure (ps.zip us)):Binds K fd ps []:=λs us _ hl=>by
 rw[CL]at hl ⊢;exact .of_eq (h us hl)
def Ke(CX:CXT)(X:Cx)(E:St->XK):Prop:=∀(ζ:List (AU×Obj)) (σ:St) (H:Hp) (s:AL) (e:AH) (s':AL),Inv X ζ σ H s->CX X.stack H s (E σ) e s'->X.xe e s'
section
variable{X:Cx}{k:Nat}{f C:AU}{fd:Jz}{ps:List Str}{sp:Sp}{E:St->XK}{x m:Str}{p pos apos:Pos}{e o:Expr}{es:List Expr}{ta:TE}{t:TA}
theorem ax(F:Cq X.prog X.w X.K X.mg X.base CX k f fd ps sp)(hr:Gn k X.A)(hb:Binds X.K fd ps ds)(hd:Bn qI ds)(hx:Ke CX X E)
  (I:Inv X ζ σ H s) (r:Bn vs us) (h:sp (vs++qI) H Q (E σ)):Ae (Ak X.prog X.w) X.A (call (.ref f) us) (EP X ζ σ Q) X.xe s:=by
 have r2:Bn (vs++qI) (us++ds):=r.append hd
 have hl:(us++ds).length=ps.length:=by rw[<-r2.length];exact F.len _ _ _ _ h
 refine wpAny_call (Rc (F.run X.A X.stack s H ⟨us,[]⟩ (us++ds) (vs++qI) Q (E σ) hr I.env0 (hb s us I.kIn hl) r2 h) λr s' hq=>?_)
 cases r with
 | error e=>exact hx ζ σ H s e s' I hq
 | ok fl=>
  cases fl with
  | ret u=>exact I.after hq
  | next=>exact D6 hq
  | brk=>exact D6 hq
  | cont=>exact D6 hq
theorem ff(F:Cq X.prog X.w X.K X.mg X.base CX k f fd ps sp)(hr:Gn k X.A)(hg:Gl X x)(hm:X.mg x=some (.ref f))(hk:Eu X.K (.ref f)=true)(hb:Binds X.K fd ps ds)(hd:Bn qI ds)(hx:Ke CX X E)
  (ha:PA X (e :: es) t) (qJ:(x==("__debug__" : Str))=false:=by decide) (he:AX (e :: es) X.env=(false,CH e X.env) :: AX es X.env:=by rfl) (qv:(Dp pos (AX es X.env)).any (·.1)=false:=by rfl) :
  PE X (.Call (.Name x p) (e :: es) [] pos) (nO sp qI E t):=by
 intro ζ s σ H Q I h;refine Jv (Tw I hg hm ?_ qJ);refine MX (h₀:=X.base) I.ok.mod.kin hk (thn (ha pos ζ s σ H _ I h) λus s1 ⟨vs,H1,I1,r,q⟩=>⟨I1.kIn,?_⟩) he qv;exact ax F hr hb hd hx I1 r q
theorem fV(he:PE X o ta)(c:Cls X.K C)(hm:UN X.K C m f)(F:Cq X.prog X.w X.K X.mg X.base CX k f fd ps sp)(hr:Gn k X.A)(hb:Binds X.K fd ps ds)(hd:Bn qI ds)(hx:Ke CX X E)(ha:PA X (e :: es) t)
  (se:AX (e :: es) X.env=(false,CH e X.env) :: AX es X.env:=by rfl) (qv:(Dp pos (AX es X.env)).any (·.1)=false:=by rfl)
  (ht:CH (.Call (.Attribute o m apos) (e :: es) [] pos) X.env=(do
   let ov <-CH o X.env
   lz apos.atName
   let (f,fts) <-V0 [ov] (Zx ov m pl)
   callWith pos f fts (Dp pos (AX (e :: es) X.env)) (Rf pos (Ku [] X.env))):=by rfl) :
  PE X (.Call (.Attribute o m apos) (e :: es) [] pos) (iY C m sp qI E ta t):=by
 intro ζ s σ H Q I h;refine PySem.W.methodCall_KW (pl:=pl) (thn (he ζ s σ H _ I h) λu s1 ⟨x,H1,I1,rx,a,dx,fs,ex,ea,l,q⟩=>?_) ht;subst ex;obtain rfl:u=BA a:=rx;refine W6 I1 ea c hm l ?_;refine MX (first:=[.ref a]) (h₀:=X.base) I.ok.mod.kin hm.kp (thn (ha pos ζ s1 σ H1 _ I1 q) λus s2 ⟨vs,H2,I2,r,q2⟩=>⟨I2.kIn,?_⟩) se qv;exact ax (us:=.ref a :: us) (vs:=.ref a :: vs) F hr hb hd hx I2 (.cons rfl r) q2
structure Mk(K:AF)(C f:AU):Prop where
 makes:Z0 K C=true
 init:DC K (.ref C) "__init__" = some (some (.ref f))
 fn:Sr K (.ref f)=true
 kp:Eu K (.ref C)=true
theorem aw(M:Mk X.K C f)(F:Cq X.prog X.w X.K X.mg X.base CX k f fd ps sp)(hr:Gn (k+1) X.A)(hb:Binds X.K fd ps ds)(hd:Bn qI ds)
  (hx:Ke CX X E) (I:Inv X ζ σ H s) (r:Bn vs us)
  (h:∀x dx,H x=none->H dx=none->dx≠x->sp (.ref x :: (vs++qI)) (upd (upd H dx (.own x)) x (.ins C dx [])) (λv H2=>v=.non/\Q (.ref x) H2) (E σ)) :
  Ae (Ak X.prog X.w) X.A (call (.ref C) us) (EP X ζ σ Q) X.xe s:=by
 have hq:=h (s.heap.objs.size+1) s.heap.objs.size (I.hok.fresh (MY _)) (I.hok.fresh (AK _)) (BB (DD _));have I2:=Inv.made (C:=C) I;have r2:Bn (V.ref (s.heap.objs.size+1) :: (vs++qI)) (BA (s.heap.objs.size+1) :: (us++ds)):=.cons rfl (r.append hd)
 have hl:(BA (s.heap.objs.size+1) :: us++ds).length=ps.length:=by
  have e:=r2.length;rw[F.len _ _ _ _ hq]at e;exact e.symm
 refine wpAny_call (br (f:=f) I.kIn M.makes M.init (beq_iff_eq.mp M.fn) (Rc (F.run _ X.stack _ _ ⟨BA (s.heap.objs.size+1) :: us,[]⟩ (BA (s.heap.objs.size+1) :: (us++ds)) _ _ (E σ) (hr.make C us [])
  (I2.env0.make C us []) (hb _ (BA (s.heap.objs.size+1) :: us) I2.kIn hl) r2 hq) λr s' tW=>?_))
 cases r with
 | error e=>exact hx ζ σ _ _ e s' I2 tW
 | ok fl=>
  cases fl with
  | ret u=>
   obtain⟨v,H',I3,rv,ev,q3⟩:=I2.after tW;subst ev;exact⟨rv,⟨V.ref (s.heap.objs.size+1),H',I3,rfl,q3⟩⟩
  | next=>exact D6 tW
  | brk=>exact D6 tW
  | cont=>exact D6 tW
theorem fW(M:Mk X.K C f)(F:Cq X.prog X.w X.K X.mg X.base CX k f fd ps sp)(hr:Gn (k+1) X.A)(hg:Gl X x)(hm:X.mg x=some (.ref C))(hb:Binds X.K fd ps ds)(hd:Bn qI ds)(hx:Ke CX X E)
  (ha:PA X (e :: es) t) (qJ:(x==("__debug__" : Str))=false:=by decide) (he:AX (e :: es) X.env=(false,CH e X.env) :: AX es X.env:=by rfl) (qv:(Dp pos (AX es X.env)).any (·.1)=false:=by rfl) :
  PE X (.Call (.Name x p) (e :: es) [] pos) (nJ C sp qI E t):=by
 intro ζ s σ H Q I h;refine Jv (Tw I hg hm ?_ qJ);refine MX (h₀:=X.base) I.ok.mod.kin M.kp (thn (ha pos ζ s σ H _ I h) λus s1 ⟨vs,H1,I1,r,q⟩=>⟨I1.kIn,?_⟩) he qv;exact aw M F hr hb hd hx I1 r q
end
structure Bb(N P:List Str)(sc:Rh):Prop where
 kind:sc.kind=.function
 co:sc.isCoroutine=false
 gen:sc.isGenerator=false
 nd:N.Nodup
 pre:N.take P.length=P
 par:∀x∈P,sc.names.lookup x=some .local∨sc.names.lookup x=some .cell
 nofree:∀y∈sc.names,y.2≠.free
theorem Sf{kindOf}{x}:∀{binds:List (Str×AH)} {m:Str->Option AH},(∀v,(x,v)∉binds)->Zy kindOf binds m x=m x
 | [],_,_=>rfl
 | (n,v) :: r,m,h=>by
  unfold Zy;rw[Sf λw hw=>h w (AJ _ hw)];split
  ·have:x≠n:=by rintro rfl;exact h v AO
   simp[this]
  ·rfl
theorem Si{kindOf}{x}:∀{binds:List (Str×AH)} {m:Str->Option AH},(∀v,(x,v)∉binds)->Zz kindOf binds m x=m x
 | [],_,_=>rfl
 | (n,v) :: r,m,h=>by
  unfold Zz;rw[Si λw hw=>h w (AJ _ hw)];split
  ·rfl
  ·have:x≠n:=by rintro rfl;exact h v AO
   simp[this]
theorem Sg{kindOf}{x}{v}:∀{P:List Str} {vs:List AH} {i:Nat} {m:Str->Option AH},P.Nodup->P[i]?=some x->vs[i]?=some v->kindOf x=some .local ->
  Zy kindOf (P.zip vs) m x=some v
 | [],_,_,_,_,h,_,_=>by simp at h
 | _ :: _,[],_,_,_,_,h,_=>by simp at h
 | p :: P,w :: vs,0,m,nd,h1,h2,hk=>by
  simp at h1 h2;subst h1;subst h2;show Zy kindOf ((p,w) :: P.zip vs) m p=_;unfold Zy;rw[Sf λv hv=>(BM.mp nd).1 (Hu hv).1,qX hk];simp
 | p :: P,w :: vs,i+1,m,nd,h1,h2,hk=>by
  show Zy kindOf ((p,w) :: P.zip vs) m x=_;unfold Zy;exact Sg (i:=i) (BM.mp nd).2 (by simpa using h1) (by simpa using h2) hk
theorem Sj{kindOf}{x}{v}:∀{P:List Str} {vs:List AH} {i:Nat} {m:Str->Option AH},P.Nodup->P[i]?=some x->vs[i]?=some v->kindOf x≠some .local ->
  Zz kindOf (P.zip vs) m x=some v
 | [],_,_,_,_,h,_,_=>by simp at h
 | _ :: _,[],_,_,_,_,h,_=>by simp at h
 | p :: P,w :: vs,0,m,nd,h1,h2,hk=>by
  simp at h1 h2;subst h1;subst h2;show Zz kindOf ((p,w) :: P.zip vs) m p=_;unfold Zz;rw[Si λv hv=>(BM.mp nd).1 (Hu hv).1,qY hk];simp
 | p :: P,w :: vs,i+1,m,nd,h1,h2,hk=>by
  show Zz kindOf ((p,w) :: P.zip vs) m x=_;unfold Zz;exact Sj (i:=i) (BM.mp nd).2 (by simpa using h1) (by simpa using h2) hk
def start(N:List Str)(vs:List V):St:=vs.map some++Bf (N.length - vs.length) none
def XF(CX:CXT)(P:Ba)(w:Bx)(K:AF)(mg:Str->Option AH)(base:Cu)(N:List Str)(qual:Str)(scope:Rh)(f:AU)(cd:AH)(A:CC)(outer:List Env)(s:AL)(H:Hp)(E:XK):Cx where
 prog:=P
 w:=w
 K:=K
 mg:=mg
 base:=base
 A:=A.deeper (MV qual scope s.heap.objs.size f cd)
 N:=N
 s₀:=s
 H₀:=H
 env:=MV qual scope s.heap.objs.size f cd
 outer:=outer
 stack:=MV qual scope s.heap.objs.size f cd :: outer
 ex:=[]
 calm:=true
 fn:=λ_=>true
 pn:=[]
 xe:=λe s'=>Ae (Ak P w) (A.deeper (MV qual scope s.heap.objs.size f cd)) (leaving (MV qual scope s.heap.objs.size f cd) e) (λ_ vG=>CX outer H s E e vG) (λe' vG=>CX outer H s E e' vG) s'
theorem Vr{sc:Rh}{n:Nat}{x:Str}(h:sc.names.lookup x=some .cell):∃c,(B0 n sc.names []).lookup x=some c:=by
 have q:=Ss sc.names n [] (.inl h);exact C2.mp q
theorem ZW{CX:CXT}{P:Ba}{w:Bx}{K:AF}{mg:Str->Option AH}{base:Cu}{N ps:List Str}{qual:Str}{scope:Rh}{f:AU}{cd:AH}{A:CC}{outer:List Env}{s s1:AL}{H:Hp}{E:XK}{us:List AH}{vs:List V}
  (S:Bb N ps scope) (hd:A.handled=none) (e0:XV P w K mg base A outer s H) (hl:vs.length=ps.length) (r:Bn vs us)
  (x:InCallC s s.heap.objs.size (Zy (MV qual scope s.heap.objs.size f cd).kindOf (ps.zip us) λ_=>none) (B0 (s.heap.objs.size+1) scope.names []) (Zz (MV qual scope s.heap.objs.size f cd).kindOf (ps.zip us) λ_=>none) s1) :
  Inv (XF CX P w K mg base N qual scope f cd A outer s H E) [] (start N vs) H s1:=by
 have qv:ps.length<=N.length:=by have:=congrArg MJ S.pre;rw[EK]at this;lia
 obtain⟨h1,tk,rfl,hk⟩:=x.done
 have tX:∀b:AU,b∉(XF CX P w K mg base N qual scope f cd A outer s H E).ex:=λb z=>zX (show b∈([]:List AU)from z) (by simp)
 refine⟨⟨e0.mod,S.kind,rfl,rfl,AK _,λy z c h1 h2=>?_,λy hy=>?_,λy c _ h=>?_,λ_=>hd,CC.frames_deeper e0.frames,.inr ⟨rfl,rfl⟩,λb z=>zX z (tX b),e0.bs,e0.bsz,λb _ _=>tX b,λb z=>zX z (tX b),e0.funs,e0.frf⟩,
  rfl,e0.bare,Un.kept hk,⟨_,x.toInCall.ns,λi y v h1 h2 h3=>?_⟩,λy c h=>⟨_,x.cell y c h⟩,e0.hok.fresh (AK _),λy c h=>?_,λp hp=>zX (show p∈([]:List (AU×Obj))from hp) (by simp),e0.hok.kept hk,?_⟩
 ·exact name_of_addr x.apart (DT h1) (DT h2)
 ·have hy:scope.names.lookup y=some .cell∨scope.names.lookup y=some .free:=hy
  rcases hy with hy | hy
  ·exact Vr hy
  ·exact zX rfl (S.nofree _ (DT hy))
 ·exact Kx (x.above y c (DT h))
 ·have hi:i < vs.length:=by
   unfold start at h2
   by_cases hi:i < vs.length
   ·exact hi
   ·rw[Bg (by simpa using hi)]at h2
    rw[DQ]at h2
    split at h2 <;> cases h2
  have ha:vs[i]?=some v:=by
   unfold start at h2;rw[Ao (by simpa using hi),Aa]at h2
   cases e:vs[i]? with
   | none=>rw[e]at h2;cases h2
   | some a=>rw[e]at h2;cases h2;rfl
  obtain⟨u,hu,rv⟩:=r.get ha
  have hp:ps[i]?=some y:=by
   rw[<-S.pre,List.getElem?_take_of_lt (by lia)];exact h1
  have xx:ps.Nodup:=by rw[<-S.pre];exact S.nd.sublist (Z6 _ _)
  refine⟨u,rv,?_⟩
  rcases S.par y (BE hp)with k | k
  ·exact .inl ⟨k,Sg xx hp hu k⟩
  ·obtain⟨c,e⟩:=Vr (n:=s.heap.objs.size+1) k
   refine .inr ⟨.inl k,c,e,?_⟩;have q:=x.cell y c e;rw[Sj xx hp hu (by show scope.names.lookup y≠_;rw[k];decide)]at q;exact q
 ·exact e0.hok.fresh (Kx (x.above y c (DT h)))
 ·unfold start
  show _=N.length;rw[As,AC,Ln]
  lia
theorem pA{CX}{P}{w}{K}{mg}{base}{k}{f}{name qual}{params}{body}{scope}{dV kV doc pm qi ct oc}{an od}
  {rp} {N ps} {sp} (lk:K.lookup f=some ⟨oc,od,.func (Hn name qual params body scope dV kV doc pm an qi ct),rp⟩) (rj:P5 K qi qual=true) (S:Bb N ps scope)
  (len:∀vs H Q E,sp vs H Q E->vs.length=ps.length)
  (qK:∀(A:CC) (outer:List Env) (s:AL) (H:Hp) (vs:List V) (Q:VK) (E:XK),Gn k (A.deeper (MV qual scope s.heap.objs.size f qi))->sp vs H Q E ->
   ∃t,PSs (XF CX P w K mg base N qual scope f qi A outer s H E) body t/\t { nx:=λ_ H'=>Q .non H',rt:=Q } (start N vs) H) :
  Cq P w K mg base CX (k+1) f (Hn name qual params body scope dV kV doc pm an qi ct) ps sp:=by
 refine⟨len,λA outer s H args us vs Q E hr e0 hb r tG=>?_⟩;have hl:=len _ _ _ _ tG
 have KX:K.In s.heap:=e0.mod.kin.keeps λb o e=>(e0.bs b o e).1
 have lim:s.heap.NoLimit:=e0.mod.nolimit.keeps λb o e=>(e0.bs b o e).1
 have tY:∀y∈ps.zip us,scope.names.lookup y.1=some .local∨(scope.names.lookup y.1=some .cell/\((B0 (s.heap.objs.size+1) scope.names []).lookup y.1).isSome=true):=λ⟨n,v⟩ hy=>by
  rcases S.par n (Hu hy).1 with q | q
  ·exact .inl q
  ·exact .inr ⟨q,Ss _ _ _ (.inl q)⟩
 refine codeAny_call_function hr.depth (KX _ _ lk) rfl S.co S.gen rfl (PySem.W.codeRec_of KX rj) (hb _ _ _ _ ?_)
 refine wpAny_newFunctionEnv_cells S.kind tY λenv he s1 x=>?_
 subst he;refine⟨lim.keeps x.toInCall.keep,codeAny_func ?_⟩;obtain⟨t,ht,hq⟩:=qK A outer s H vs Q E (hr.deeper _) tG;have I:Inv (XF CX P w K mg base N qual scope f qi A outer s H E) [] (start N vs) H s1:=ZW S hr.hd e0 hl r x
 refine Gy (ht [] s1 (start N vs) H _ I hq) (λfl s' hs=>?_) λe s' hs=>hs
 have fin:∀{σ':St} {H':Hp} {v:V} {u:AH},Inv (XF CX P w K mg base N qual scope f qi A outer s H E) [] σ' H' s'->RelV v u->Q v H'->CE outer P w H s Q u s':=
  λ{σ' H' v u} J rv q=>⟨v,H',J.os,J.bare,J.base,J.hok,rv,q⟩
 cases fl with
 | ret u=>
  obtain⟨v,σ',H',J,rv,q⟩:=hs;exact fin J rv q
 | next=>
  obtain⟨σ',H',J,q⟩:=hs;exact fin (v:=V.non) (u:=DO) J rfl q
 | brk=>
  obtain⟨_,_,_,q⟩:=hs;exact D6 q
 | cont=>
  obtain⟨_,_,_,q⟩:=hs;exact D6 q
section
variable{X:Cx}{x:Str}{p pos:Pos}{e:Expr}{es:List Expr}{t:TA}{id T:String}{r:List V->Hp->VK->Prop}
def tCB(r:List V->Hp->VK->Prop)(t:TA):TE:=λσ H Q=>t σ H λvs H1=>r vs H1 Q
theorem LI(hc:Kj X (.builtin id) r)(hg:Gl X x)(hm:X.mg x=none)(hv:Fv x=some (.builtin id))(ha:PA X (e :: es) t)(hn:x≠"__name__":=by decide) (qJ:(x==("__debug__" : Str))=false:=by decide)
  (he:AX (e :: es) X.env=(false,CH e X.env) :: AX es X.env:=by rfl) (qv:(Dp pos (AX es X.env)).any (·.1)=false:=by rfl):PE X (.Call (.Name x p) (e :: es) [] pos) (tCB r t):=by
 intro ζ s σ H Q I h;refine Jv (OQ I hg hm hv ?_ hn qJ);exact pU (thn (ha pos ζ s σ H _ I h) λus s1 ⟨vs,H1,I1,r1,q1⟩=>hc ζ s1 σ H1 vs us Q I1 r1 q1) he qv
theorem SM(hc:Kj X (.type T) r)(hg:Gl X x)(hm:X.mg x=none)(hv:Fv x=some (.type T))(ha:PA X (e :: es) t)(hn:x≠"__name__":=by decide) (qJ:(x==("__debug__" : Str))=false:=by decide)
  (he:AX (e :: es) X.env=(false,CH e X.env) :: AX es X.env:=by rfl) (qv:(Dp pos (AX es X.env)).any (·.1)=false:=by rfl):PE X (.Call (.Name x p) (e :: es) [] pos) (tCB r t):=by
 intro ζ s σ H Q I h;refine Jv (OQ I hg hm hv ?_ hn qJ);exact ER (thn (ha pos ζ s σ H _ I h) λus s1 ⟨vs,H1,I1,r1,q1⟩=>hc ζ s1 σ H1 vs us Q I1 r1 q1) he qv
end
end L2
namespace HT
open PySem PyProof.Rows
section
variable{prog:Ba}{w:Bx}{A:CC}{E:AH->AL->Prop}{s:AL}
theorem hW(ht:mO s.heap t vs.toArray)(hb:mO s.heap b ws.toArray)(hv:vs≠[])
  (h1:ws=[]->Q (.ref t) s) (h2:ws≠[]->Q (.ref s.heap.objs.size) { s with heap:=s.heap.push { cls:=.type "tuple",data:=.seq (vs++ws).toArray } })
  (hsz:vs.length+ws.length<=sizeLine):Ae (Ak prog w) A (Cr .Add (.ref t) (.ref b)) Q E s:=by
 obtain⟨⟨cls,dd,data,sl⟩,ho,hc,n,hd⟩:=id ht;obtain⟨⟨cls2,dd2,data2,sl2⟩,ho2,hc2,n2,hd2⟩:=id hb;simp only at hc hd hc2 hd2;subst hc hd hc2 hd2
 have e:vs.toArray++ws.toArray=(vs++ws).toArray:=by simp
 by_cases hw:ws=[]
 ·exact Z5 ⟨_,ho,rfl⟩ ⟨_,ho2,rfl⟩ Sq YZ Jy Jg (JI _ _)
   (tuple_addW1 t b vs.toArray ws.toArray n n2 dd dd2 sl sl2 (by simpa using hv) (by simp[hw])) ⟨ho,ho2,h1 hw⟩
 ·refine Z5 ⟨_,ho,rfl⟩ ⟨_,ho2,rfl⟩ Sq YZ Jy Jg (JI _ _)
   (tuple_addW2 t b vs.toArray ws.toArray n n2 dd dd2 sl sl2 (by simpa using hv) (by simpa using hw) (by rw[Ab,Ab];exact hsz)) ⟨ho,ho2,?_⟩
  rw[e];exact h2 hw
def sIx(n d:Nat):Option Int->Nat
 | none=>d
 | some v=>if v < 0 then(v+(n:Int)).toNat else min v.toNat n
theorem jn(n d:Nat)(hd:d<=n)(o:Option Int):sIx n d o<=n:=by
 cases o with
 | none=>exact hd
 | some v=>
  show(if v < 0 then(v+(n:Int)).toNat else min v.toNat n)<=n
  by_cases hv:v < 0
  ·rw[qX hv];lia
  ·rw[qY hv];exact db _ _
theorem YT(v:Int)(n d:Nat):(if v < 0 then max (v+(n:Int)) 0 else min v (n:Int))=((sIx n d (some v):Nat):Int):=by
 show(if v < 0 then max (v+(n:Int)) 0 else min v (n:Int))=(((if v < 0 then(v+(n:Int)).toNat else min v.toNat n):Nat):Int)
 by_cases hv:v < 0
 ·simp only[qX hv];lia
 ·simp only[qY hv];lia
theorem XR(lo hi:Option Int)(n:Nat):HZ lo hi 1 (n:Int)=(((sIx n 0 lo:Nat):Int),((sIx n n hi:Nat):Int)):=by
 have h1:¬((1:Int) < 0):=by lia
 unfold HZ;simp only[h1,if_false];refine Xa ?_ ?_
 ·cases lo with
  | none=>rfl
  | some v=>exact YT v n 0
 ·cases hi with
  | none=>rfl
  | some v=>exact YT v n n
theorem Wo(i j:Nat):Ej (i:Int) (j:Int) 1=j - i:=by
 unfold Ej
 have h1:(1:Int) > 0:=by lia
 simp only[h1,if_true,Int.ediv_one]
 split <;> lia
theorem QV(p:Sz v o)(h:Q o s):Ae (Ak prog w) A (mr v) Q E s:=by
 cases p with
 | none=>exact slicePart_none h
 | int i t=>exact slicePart_int h
theorem OB{sl:AU}{vl vu:AH}{lo hi:Option Int}{n:Nat}{Q:Int×Int×Nat->AL->Prop}(hs:s.heap.IsSliceOf sl vl vu .none)(pl:Sz vl lo)(pu:Sz vu hi)
  (h:Q (((sIx n 0 lo:Nat):Int),1,sIx n n hi - sIx n 0 lo) s):Ae (Ak prog w) A (NB (.ref sl) (pure (n:Int))) Q E s:=by
 obtain⟨os,sU,xy,uT⟩:=id hs;unfold NB mw;refine AB (AB (HC sU uT (x:=vl) rfl (AB (HC sU uT (x:=vu) rfl (AB (HC sU uT (x:=.none) rfl (AM ?_)))))));refine AB (slicePart_none ?_);show Ae _ _ (if ((1:Int)==0)=true then _ else _) _ _ s;rw[qY (by decide)];refine AB (QV pl (AB (QV pu (AB (AM ?_)))));show Ae _ _ (match HZ lo hi 1 (n:Int)with | (lo,hi)=>pure (lo,(1:Int),Ej lo hi 1)) _ _ s;rw[XR lo hi n];show Ae _ _ (pure (((sIx n 0 lo:Nat):Int),(1:Int),Ej ((sIx n 0 lo:Nat):Int) ((sIx n n hi:Nat):Int) 1)) _ _ s;rw[Wo];exact AM h
theorem bL(xs:Array AH)(i k:Nat):((C9 k).filterMap λ(m:Nat)=>xs[((i:Int)+(m:Int) * 1).toNat]?).toArray=((xs.toList.drop i).take k).toArray:=by
 have e:(λ(m:Nat)=>xs[((i:Int)+(m:Int) * 1).toNat]?)=λm=>xs[i+m]?:=by
  funext m
  have:((i:Int)+(m:Int) * 1).toNat=i+m:=by lia
  rw[this]
 rw[e];have:=pick_run xs i k;rw[List.filterMap_map]at this
 have e2:((λx=>xs[x]?)∘λx=>i+x)=λm=>xs[i+m]?:=rfl
 rw[e2]at this;rw[this]
theorem Ni{t sl}{items}{vl vu}{lo hi}{Q}(ht:mO s.heap t items)(hs:s.heap.IsSliceOf sl vl vu .none)(pl:Sz vl lo)(pu:Sz vu hi)
  (hw:¬(sIx items.size 0 lo=0/\sIx items.size items.size hi=items.size))
  (h:Q (.ref s.heap.objs.size) { s with heap:=s.heap.push { cls:=.type "tuple",data:=.seq ((items.toList.drop (sIx items.size 0 lo)).take (sIx items.size items.size hi - sIx items.size 0 lo)).toArray } })
  (hsz:items.size<=sizeLine):Ae (Ak prog w) A (MU (.ref t) (.ref sl)) Q E s:=by
 have qV:sizeOk (.seq ((items.toList.drop (sIx items.size 0 lo)).take (sIx items.size items.size hi - sIx items.size 0 lo)).toArray):=by
  show((items.toList.drop (sIx items.size 0 lo)).take (sIx items.size items.size hi - sIx items.size 0 lo)).toArray.size<=sizeLine;rw[Ab,EK,FT,Bq];omega
 have hj:sIx items.size items.size hi<=items.size:=jn _ _ (AK _) hi;obtain⟨os,sU,xy,uT⟩:=id hs;have yW:s.TypeIs (.ref sl) "slice":=⟨os,sU,xy⟩;unfold MU
 try with_reducible refine Pi ?_
 first | refine AB (AM ?_) | skip
 refine AB (wpAny_sequenceKey ht.typeIs (by decide) ?_)
 refine AB (DZ (name:=Il "__getitem__") ht.typeIs Fo
  (Dv Fo ht.typeIs entry_tuple_getitem ?_ (args_tuple_getitem _ _)))
 show Ae _ _ (mq (.ref t) >>= _) _ _ s;refine AB (tupleItemsOf_ ht ?_);refine AB (wpAny_typeOf yW ?_);rw[qX (by decide)];refine AB (OB hs pl pu ?_)
 have vH:¬((((sIx items.size 0 lo:Nat):Int)==0&&(1:Int)==1&&(sIx items.size items.size hi - sIx items.size 0 lo)==items.size)=true):=by
  intro q;rw[Ax,Ax]at q;have q1:((sIx items.size 0 lo:Nat):Int)=0:=eq_of_beq q.1.1;have q2:sIx items.size items.size hi - sIx items.size 0 lo=items.size:=eq_of_beq q.2;exact hw ⟨by lia,by omega⟩
 show Ae _ _ (if (((sIx items.size 0 lo:Nat):Int)==0&&(1:Int)==1&&(sIx items.size items.size hi - sIx items.size 0 lo)==items.size)=true then _ else _) _ _ s;rw[qY vH,bL]
 first
  | exact AB (m:=Ew _) (Ce (AM ⟨_,rfl,AM h⟩) qV)
  | exact AB (m:=Ew _) (Ce (AB (AM (AM ⟨_,rfl,AM h⟩))) qV)
  | exact AB (AB (m:=Ew _) (Ce (AM (AM ⟨_,rfl,AM h⟩)) qV))
  | exact AB (AB (m:=Ew _) (Ce (AM ⟨_,rfl,AM h⟩) qV))
end
end HT
namespace L2
open PySem PySem.Spec PyProof.Rows
section
abbrev TO:=St->Hp->(Option Int->Hp->Prop)->Prop
def PO(X:Cx)(e:Option Expr)(t:TO):Prop:=
 ∀(ζ:List (AU×Obj)) (s:AL) (σ:St) (H:Hp) (Q:Option Int->Hp->Prop),Inv X ζ σ H s->t σ H Q ->
  Ae (Ak X.prog X.w) X.A (evalPart e X.env) (λu s'=>∃o H',Inv X ζ σ H' s'/\Sz u o/\Q o H') X.xe s
def eY:TO:=λ_ H Q=>Q none H
def nG(t:TE):TO:=λσ H Q=>t σ H λx H1=>∃i,x=.int i/\Q (some i) H1
theorem intsAre_of:∀{us:List AH},Bn (ns.map V.int) us->F9 us ns:=by
 induction ns with
 | nil=>intro us r;rw[Oh]at r;cases r;exact .nil
 | cons n ns ih=>
  intro us r;rw[A9]at r
  cases r with
  | cons r1 r2=>
   obtain⟨t,e⟩:=r1;subst e;exact .cons n t (ih r2)
section
variable{κ:Type}[DecidableEq κ]
def J3(f':List (κ×V))(k:κ):Option V:=(f'.find? λkv=>decide (kv.1=k)).map (·.2)
def Kn(f':List (κ×V))(k:κ)(v:V):List (κ×V):=
 if (f'.any λkv=>decide (kv.1=k))=true then f'.map (λkv=>if kv.1=k then(kv.1,v)else kv)else f'++[(k,v)]
theorem QI{p:κ×V}{r:List (κ×V)}{k:κ}(e:p.1=k):J3 (p :: r) k=some p.2:=by simp[J3,B1,e]
theorem QJ{p:κ×V}{r:List (κ×V)}{k:κ}(e:¬p.1=k):J3 (p :: r) k=J3 r k:=by simp[J3,B1,e]
theorem Uj(k:κ):∀f':List (κ×V),(f'.any λkv=>decide (kv.1=k))=(J3 f' k).isSome
 | []=>rfl
 | p :: r=>by
  rw[HY]
  by_cases e:p.1=k
  ·simp only[QI e,wX e,Ol,Xb]
  ·rw[QJ e,wY e,jC];exact Uj k r
theorem Ow(f':List (κ×V))(k:κ)(v:V):(Kn f' k v).length<=f'.length+1:=by
 unfold Kn;split
 ·rw[AC];lia
 ·rw[As,Aj,Hw];lia
theorem MF.isSome_eq(r:MF o u):o.isSome=u.isSome:=by
 cases o with
 | none=>cases u with
  | none=>rfl
  | some _=>exact(show False from r).elim
 | some _=>cases u with
  | none=>exact(show False from r).elim
  | some _=>rfl
theorem KV.val{f':List (κ×V)}{vs:List (κ×AH)}(r:KV f' vs)(k:κ):MF (J3 f' k) (Ra vs k):=by
 unfold KV at r
 induction r with
 | nil=>exact EX
 | @cons p q ps qs h t ih=>
  obtain⟨h1,h2⟩:=h
  by_cases e:p.1=k
  ·have e':q.1=k:=h1.symm.trans e
   have b:Ra (q :: qs) k=some q.2:=by simp[Ra,B1,e']
   rw[QI e,b];exact h2
  ·have e':¬q.1=k:=λz=>e (h1.trans z)
   have b:Ra (q :: qs) k=Ra qs k:=by simp[Ra,B1,e']
   rw[QJ e,b];exact ih
theorem KV.any(r:KV f' vs)(k:κ):(f'.any λkv=>decide (kv.1=k))=vs.any λkv=>decide (kv.1=k):=by
 unfold KV at r
 induction r with
 | nil=>rfl
 | cons h t ih=>rw[HY,HY,ih,h.1]
theorem KV.repl(r:KV f' vs)(k:κ)(ry:RelV y u) :
  KV (f'.map λkv=>if kv.1=k then(kv.1,y)else kv) (vs.map λkv=>if kv.1=k then(kv.1,u)else kv):=by
 unfold KV at r ⊢
 induction r with
 | nil=>exact .nil
 | @cons p q ps qs h t ih=>
  rw[A9,A9];refine .cons ?_ ih;obtain⟨h1,h2⟩:=h
  by_cases e:p.1=k
  ·rw[qX e,qX (h1.symm.trans e)];exact⟨h1,ry⟩
  ·rw[qY e,qY (λz=>e (h1.trans z))];exact⟨h1,h2⟩
theorem KV.put(r:KV f' vs)(k:κ)(ry:RelV y u):KV (Kn f' k y) (stored vs k u):=by
 unfold Kn stored;rw[r.any k]
 by_cases e:(vs.any λkv=>decide (kv.1=k))=true
 ·rw[qX e,qX e];exact r.repl k ry
 ·rw[qY e,qY e];exact V2 r ⟨rfl,ry⟩
theorem KV.length(r:KV f' vs):f'.length=vs.length:=Eb r
end
theorem Vg(r:RelV (kV k) u):(D8 P w).is k u=true:=by
 cases k with
 | inl i=>obtain⟨t,e⟩:=(show ∃t,u=O0 i t from r);subst e;exact VY P w i t
 | inr x=>obtain⟨t,e⟩:=(show ∃t,u=Oz x t from r);subst e;exact VX P w x t
theorem SV:∀{ks:List Key} {us:List AH},Bn (ks.map kV) us->ItemsAre (D8 P w) ks us
 | [],_,r=>by rw[Oh]at r;cases r;exact .nil
 | k :: ks,_,r=>by
  rw[A9]at r
  cases r with
  | cons h t=>exact .cons (Vg h) (SV t)
abbrev KT(H:Hp):List (List Key×V)->List (List Key×AU×AH)->Prop:=Fj λp q=>p.1=q.1/\H q.2.1=some (.tup (p.1.map kV))/\RelV p.2 q.2.2
theorem KT.val{H:Hp}{f':List (List Key×V)}{xs:List (List Key×AU×AH)}(r:KT H f' xs)(k:List Key):MF (J3 f' k) ((WA xs k).map (·.2)):=by
 induction r with
 | nil=>exact EX
 | @cons p q ps qs h t ih=>
  obtain⟨h1,_,h2⟩:=h
  by_cases e:p.1=k
  ·have e':q.1=k:=h1.symm.trans e
   have b:WA (q :: qs) k=some q.2:=by simp[WA,B1,e']
   rw[QI e,b];exact h2
  ·have e':¬q.1=k:=λz=>e (h1.trans z)
   have b:WA (q :: qs) k=WA qs k:=by simp[WA,B1,e']
   rw[QJ e,b];exact ih
theorem KT.repl(r:KT H f' xs)(k:List Key)(ry:RelV y u) :
  KT H (f'.map λkv=>if kv.1=k then(kv.1,y)else kv) (xs.map (putAt k u)):=by
 induction r with
 | nil=>exact .nil
 | @cons p q ps qs h t ih=>
  rw[A9,A9];refine .cons ?_ ih;obtain⟨h1,h2,h3⟩:=h;unfold putAt
  by_cases e:p.1=k
  ·rw[qX e,qX (h1.symm.trans e)];exact⟨h1,h2,ry⟩
  ·rw[qY e,qY (λz=>e (h1.trans z))];exact⟨h1,h2,h3⟩
theorem KT.put(r:KT H f' xs)(k:List Key)(hb:H b=some (.tup (k.map kV)))(ry:RelV y u) :
  KT H (Kn f' k y) (storedH xs k b u):=by
 have e:(f'.any λkv=>decide (kv.1=k))=(WA xs k).isSome:=by
  rw[Uj,(r.val k).isSome_eq,Gh]
 unfold Kn storedH;rw[e]
 by_cases q:(WA xs k).isSome=true
 ·rw[qX q,qX q];exact r.repl k ry
 ·rw[qY q,qY q];exact V2 r ⟨rfl,hb,ry⟩
theorem KT.keeps(r:KT H f' xs)(ht:∀b ys,H b=some (.tup ys)->H' b=some (.tup ys)):KT H' f' xs:=
 Fj.mapP r λ_ _ z=>⟨z.1,ht _ _ z.2.1,z.2.2⟩
variable{X:Cx}{e:Expr}{lo hi:Option Expr}{pos p2:Pos}
theorem fO:PO X none eY:=by
 intro ζ s σ H Q I h;rw[evalPart_none];exact AM ⟨none,H,I,.none,h⟩
theorem fN(h:PE X e te):PO X (some e) (nG te):=by
 intro ζ s σ H Q I hw;rw[evalPart_some]
 refine thn (h ζ s σ H _ I hw) λu s1 ⟨x,H1,I1,r1,q1⟩=>?_
 obtain⟨i,rfl,q⟩:=q1;obtain⟨t,rfl⟩:=r1;exact⟨some i,H1,I1,.int i t,q⟩
def SlR(X:Cx)(r:V->Option Int->Option Int->Hp->VK->Prop):Prop:=
 ∀(ζ:List (AU×Obj)) (s:AL) (σ:St) (H:Hp) (x:V) (v vl vu:AH) (lo hi:Option Int) (sl:AU) (Q:VK),Inv X ζ σ H s->RelV x v->s.heap.IsSliceOf sl vl vu .none->Sz vl lo->Sz vu hi->r x lo hi H Q ->
  ∃T id,typeLookup (.type T) "__getitem__" = pure (some (.builtin id))/\s.TypeIs v T/\Ae (Ak X.prog X.w) X.A (MU v (.ref sl)) (EP X ζ σ Q) X.xe s
theorem SlR.or(h:SlR X r)(h':SlR X r'):SlR X (λx lo hi H Q=>r x lo hi H Q∨r' x lo hi H Q):=by
 intro ζ s σ H x v vl vu lo hi sl Q I rx hs pl pu q
 rcases q with q | q
 ·exact h ζ s σ H x v vl vu lo hi sl Q I rx hs pl pu q
 ·exact h' ζ s σ H x v vl vu lo hi sl Q I rx hs pl pu q
def tSl(r:V->Option Int->Option Int->Hp->VK->Prop)(te:TE)(tl th:TO):TE:=λσ H Q=>te σ H λx H1=>tl σ H1 λl H2=>th σ H2 λu H3=>r x l u H3 Q
theorem bN(hr:SlR X r)(he:PE X e te)(hl:PO X lo tl)(hu:PO X hi th):PE X (.Subscript e (.Slice lo hi none p2) pos) (tSl r te tl th):=by
 intro ζ s σ H Q I h;refine i6 (thn (he ζ s σ H _ I h) λv s1 ⟨x,H1,I1,r1,q1⟩=>?_);refine wpAny_Slice (thn (hl ζ s1 σ H1 _ I1 q1) λvl s2 ⟨l,H2,I2,pl,q2⟩=>thn (hu ζ s2 σ H2 _ I2 q2) λvu s3 ⟨u,H3,I3,pu,q3⟩=>?_);rw[evalPart_none];refine AM ?_
 have I4:Inv X ζ σ H3 { s3 with heap:=s3.heap.push { cls:=.type "slice",data:=.fields #[vl,vu,.none] } }:=I3.kept (t':=s3.toks) λb ob q=>AR _ q
 obtain⟨T,id,hT,ht,hg⟩:=hr ζ { s3 with heap:=s3.heap.push { cls:=.type "slice",data:=.fields #[vl,vu,.none] } } σ H3 x v vl vu l u s3.heap.objs.size Q I4 r1 (mP ..) pl pu q3;show Ae (Ak X.prog X.w) X.A (YY e (.Slice lo hi none p2) v (.ref s3.heap.objs.size)) (EP X ζ σ Q) X.xe { s3 with heap:=s3.heap.push { cls:=.type "slice",data:=.fields #[vl,vu,.none] } };exact tail_any (ops:=[.ref s3.heap.objs.size,v]) ht hT hg (by with_unfolding_all rfl)
def RN(xs:List V)(lo hi:Option Int):List V:=(xs.drop (HT.sIx xs.length 0 lo)).take (HT.sIx xs.length xs.length hi - HT.sIx xs.length 0 lo)
theorem Oy(xs:List V)(lo hi:Option Int):(RN xs lo hi).length<=xs.length:=by
 unfold RN;rw[EK,FT]
 lia
def rSlT(K:AF):V->Option Int->Option Int->Hp->VK->Prop:=λx lo hi H Q=>∃a xs,x=.ref a/\SqT K H a xs /\
 ¬(HT.sIx xs.length 0 lo=0/\HT.sIx xs.length xs.length hi=xs.length)/\∀p,H p=none->Q (.ref p) (upd H p (.tup (RN xs lo hi)))
theorem ji:SlR X (rSlT X.K):=by
 intro ζ s σ H x v vl vu lo hi sl Q I rx hs pl pu h;obtain⟨a,xs,rfl,hx,hw,q⟩:=h;cases rx;obtain⟨i',r,ht,hz⟩:=I.tuple hx
 have hlen:i'.toArray.size=xs.length:=by rw[Ab];exact r.length.symm
 refine⟨"tuple",_,Fo.lookup,ht.typeIs,?_⟩;refine HT.Ni ht hs pl pu (by rw[hlen];exact hw) ?_ (by rw[hlen];exact hz);rw[hlen];refine⟨.ref s.heap.objs.size,_,I.laid (t':=s.toks) (o:=.tup (RN xs lo hi)) (λb ob q=>AR _ q) (AK _) ?_,rfl,q _ (I.hok.fresh (AK _))⟩;exact⟨⟨Aw (Oy xs lo hi) hz,⟨_,Af _ rfl,rfl⟩⟩,_,(r.drop (HT.sIx xs.length 0 lo)).take (HT.sIx xs.length xs.length hi - HT.sIx xs.length 0 lo),aC _ _⟩
def nj(K:AF):R2:=λx y H Q=>∃a b xs ys,x=.ref a/\y=.ref b/\SqT K H a xs/\SqT K H b ys/\xs≠[]/\xs.length+ys.length<=sizeLine /\
 (ys=[]->Q (.ref a) H)/\(ys≠[]->∀p,H p=none->Q (.ref p) (upd H p (.tup (xs++ys))))
theorem Bn.nil_iff(r:Bn xs us):us=[]↔xs=[]:=by
 cases r with
 | nil=>simp
 | cons _ _=>simp
theorem fm:OpR X (Cr .Add) (nj X.K):=by
 intro ζ s σ H x y v u Q I rx ry h;obtain⟨a,b,xs,ys,rfl,rfl,ha,hb,hx,hz,q1,q2⟩:=h;cases rx;cases ry;obtain⟨i',r1,p1,_⟩:=I.tuple ha;obtain⟨qj,r2,p2,_⟩:=I.tuple hb;refine HT.hW p1 p2 (λz=>hx (r1.nil_iff.mp z)) (λz=>⟨.ref a,H,I,rfl,q1 (r2.nil_iff.mp z)⟩) (λz=>?_) (by rw[<-r1.length,<-r2.length];exact hz);refine⟨.ref s.heap.objs.size,_,I.laid (t':=s.toks) (o:=.tup (xs++ys)) (λb ob q=>AR _ q) (AK _) ?_,rfl,q2 (λw=>z (r2.nil_iff.mpr w)) _ (I.hok.fresh (AK _))⟩;exact⟨⟨by rw[As];exact hz,⟨_,Af _ rfl,rfl⟩⟩,_,r1.append r2,aC _ _⟩
end
section
def ixN(n:Nat)(i:Int):Option Nat:=if 0<=i then(if i < n then some i.toNat else none)else if -(n:Int)<=i then some (i+n).toNat else none
def atI{α:Type}(xs:List α)(i:Int):Option α:=(ixN xs.length i).bind λj=>xs[j]?
theorem YB(h:ixN n i=some j):seqIndex? i n=some j/\j < n/\-(n:Int)<=i/\i < n:=by
 unfold ixN at h
 by_cases h0:0<=i
 ·rw[qX h0]at h
  by_cases h1:i < n
  ·rw[qX h1]at h
   have e:i.toNat=j:=Bh h;exact⟨by rw[dU h0 h1,e],by lia,by lia,h1⟩
  ·rw[qY h1]at h;cases h
 ·rw[qY h0]at h
  by_cases h1:-(n:Int)<=i
  ·rw[qX h1]at h
   have e:(i+n).toNat=j:=Bh h;exact⟨by rw[seqIndex_neg (by lia) h1,e],by lia,h1,by lia⟩
  ·rw[qY h1]at h;cases h
theorem YV{α:Type}{xs:List α}{i:Int}{v:α}(h:atI xs i=some v):∃j,seqIndex? i xs.length=some j/\xs[j]?=some v/\j < xs.length/\-(xs.length:Int)<=i/\i < xs.length:=by
 unfold atI at h
 cases e:ixN xs.length i with
 | none=>rw[e]at h;cases h
 | some j=>
  rw[e]at h;obtain⟨h1,h2,h3,h4⟩:=YB e;exact⟨j,h1,h,h2,h3,h4⟩
def UM(b:Expr):Prop:=∀o i,UP b false o i=operate [o,i] (MU o i)
def IxR(X:Cx)(r:R2):Prop:=
 ∀(value slice:Expr) (ζ:List (AU×Obj)) (s:AL) (σ:St) (H:Hp) (x y:V) (v u:AH) (Q:VK),Inv X ζ σ H s->RelV x v->RelV y u->r x y H Q ->
  UP slice false v u=operate [v,u] (MU v u)->Ae (Ak X.prog X.w) X.A (YY value slice v u) (EP X ζ σ Q) X.xe s
def MtR(X:Cx)(id:String)(r:V->List V->Hp->VK->Prop):Prop:=
 ∀(ζ:List (AU×Obj)) (s:AL) (σ:St) (H:Hp) (x:V) (xs:List V) (v:AH) (us:List AH) (Q:VK),Inv X ζ σ H s->RelV x v->Bn xs us->r x xs H Q ->
  Ae (Ak X.prog X.w) X.A (call (.builtin id) (v :: us)) (EP X ζ σ Q) X.xe s
section
variable{P:Ba}{w:Bx}{H:Hp}{h:Cu}{a:AU}
theorem ia(ok:HOk P w H h)(e:Rd H a u):Cj P w H h a u:=e.ok ok
theorem Vn(ok:HOk P w H h)(e:Rd H a (.dK f')):f'.length<=sizeLine/\(a==Db)=false/\∃vs,KV f' vs/\h.DictOf (D8 P w) a vs:=
 show Cj P w H h a (.dK f')from ia ok e
theorem pG(ok:HOk P w H h)(e:H a=some (.dK f')):f'.length<=sizeLine/\(a==Db)=false/\∃vs,KV f' vs/\h.DictOf (D8 P w) a vs:=Vn ok (.inl e)
theorem Qx(ok:HOk P w H h)(e:H a=some (.tup (ks.map kV))):(Sm (D8 P w)).is h ks a:=by
 obtain⟨_,i',r,o,h1,h2,n,h3⟩:=(show Cj P w H h a (.tup (ks.map kV))from ok a _ e);exact⟨o,i'.toArray,n,h1,h2,h3,by simpa using SV r⟩
theorem Vm(ok:HOk P w H h)(e:Rd H a (.dT f')):f'.length<=sizeLine/\(a==Db)=false /\
  ∃xs,KT H f' xs/\h.DictOfH (Sm (D8 P w)) a xs:=by
 obtain⟨z,y,xs,r,o,es,ep,h1,h2,h3,h4,h5⟩:=(show Cj P w H h a (.dT f')from ia ok e);refine⟨z,y,xs,r,o,es,ep,h1,h2,h3,h4,λx hx=>?_,h5⟩
 have all:∀{l:List (List Key×V)} {m:List (List Key×AU×AH)},KT H l m->∀x∈m,(Sm (D8 P w)).is h x.1 x.2.1:=by
  intro l m q
  induction q with
  | nil=>intro x hx;exact nomatch hx
  | @cons p q ps qs hq t ih=>
   intro x hx
   rcases AV.mp hx with e | hx
   ·subst e
    exact Qx ok (by rw[<-hq.1];exact hq.2.1)
   ·exact ih x hx
 exact all r x hx
theorem pE(ok:HOk P w H h)(e:H a=some (.dT f')):f'.length<=sizeLine/\(a==Db)=false /\
  ∃xs,KT H f' xs/\h.DictOfH (Sm (D8 P w)) a xs:=Vm ok (.inl e)
end
def No(H:Hp)(a:AU)(y:V)(r:Option V):Prop:=
 (∃f' k,Rd H a (.dK f')/\y=kV k/\r=J3 f' k)∨∃f' k b,Rd H a (.dT f')/\y=.ref b/\H b=some (.tup (k.map kV))/\r=J3 f' k
def Vy(H:Hp)(a:AU)(y v:V)(H':Hp):Prop:=
 (∃f' k,H a=some (.dK f')/\y=kV k/\f'.length < sizeLine/\H'=upd H a (.dK (Kn f' k v))) ∨
 ∃f' k b,H a=some (.dT f')/\y=.ref b/\H b=some (.tup (k.map kV))/\f'.length < sizeLine/\H'=upd H a (.dT (Kn f' k v))
theorem No.k{H}{a}{f'}{k}(e:H a=some (.dK f')):No H a (kV k) (J3 f' k):=.inl ⟨f',k,.inl e,rfl,rfl⟩
theorem No.t{H}{a b}{f'}{k}(e:H a=some (.dT f'))(eb:H b=some (.tup (k.map kV))):No H a (.ref b) (J3 f' k):=.inr ⟨f',k,b,.inl e,rfl,eb,rfl⟩
theorem Vy.k{H}{a}{f'}{k}{v}(e:H a=some (.dK f'))(hl:f'.length < sizeLine):Vy H a (kV k) v (upd H a (.dK (Kn f' k v))):=.inl ⟨f',k,e,rfl,hl,rfl⟩
theorem Vy.t{H}{a b}{f'}{k}{v}(e:H a=some (.dT f'))(eb:H b=some (.tup (k.map kV)))(hl:f'.length < sizeLine) :
  Vy H a (.ref b) v (upd H a (.dT (Kn f' k v))):=.inr ⟨f',k,b,e,rfl,eb,hl,rfl⟩
variable{X:Cx}{a b:Expr}{ta tb:TE}{pos:Pos}
theorem IxR.or(h:IxR X r)(h':IxR X r'):IxR X (λx y H Q=>r x y H Q∨r' x y H Q):=by
 intro value slice ζ s σ H x y v u Q I rx ry q hs
 rcases q with q | q
 ·exact h value slice ζ s σ H x y v u Q I rx ry q hs
 ·exact h' value slice ζ s σ H x y v u Q I rx ry q hs
theorem n8(hr:IxR X r)(ha:PE X a ta)(hb:PE X b tb)(hs:UM b):PE X (.Subscript a b pos) (tOp r ta tb):=by
 intro ζ s σ H Q I h;exact i6 (lh ha hb I h λv u s2 x y H2 I2 rx ry q=>hr a b ζ s2 σ H2 x y v u Q I2 rx ry q (hs _ _))
def rIxL(K:AF):R2:=λx y H Q=>∃p xs i v,x=.ref p/\y=.int i/\SqL K H p xs/\atI xs i=some v/\Q v H
def rIxT(K:AF):R2:=λx y H Q=>∃p xs i v,x=.ref p/\y=.int i/\SqT K H p xs/\atI xs i=some v/\Q v H
theorem gZ:IxR X (rIxL X.K):=by
 intro value slice ζ s σ H x y v u Q I rx ry h hs;obtain⟨p,xs,i,z,rfl,rfl,hq,he,q⟩:=h;cases rx;obtain⟨t,rfl⟩:=ry;obtain⟨i',r,pl,hz⟩:=I.list hq;obtain⟨j,h1,h2,h3,h4,h5⟩:=YV he;obtain⟨w,ew,qC⟩:=r.get h2;have hl:=r.length;have hn:=OP;have fin:EP X ζ σ Q w s:=⟨z,H,I,qC,q⟩
 by_cases h0:0<=i
 ·have hj:i.toNat=j:=by
   rw[dU h0 h5]at h1;exact Bh h1
  exact item_listR pl.isList h0 (by lia) (by rw[hj];simpa using ew) fin hs
 ·have hj:(i+(i'.toArray.size:Int)).toNat=j:=by
   rw[seqIndex_neg (by lia) h4]at h1;rw[Ab,<-hl];exact Bh h1
  exact Z4 (x:=w) pl.isList.typeIs l8.lookup
   (wpAny_getItem_list_neg (Q:=λr s'=>r=w/\EP X ζ σ Q r s') pl.isList (by lia) (by rw[Ab] <;> lia) (by lia) (by rw[hj];simpa using ew) ⟨rfl,fin⟩) hs
theorem kr:IxR X (rIxT X.K):=by
 intro value slice ζ s σ H x y v u Q I rx ry h hs;obtain⟨p,xs,i,z,rfl,rfl,hq,he,q⟩:=h;cases rx;obtain⟨t,rfl⟩:=ry;obtain⟨i',r,pl,hz⟩:=I.tuple hq;obtain⟨j,h1,h2,h3,h4,h5⟩:=YV he;obtain⟨w,ew,qC⟩:=r.get h2;have hl:=r.length;have hn:=OP;have fin:EP X ζ σ Q w s:=⟨z,H,I,qC,q⟩
 exact Z4 (x:=w) pl.typeIs slot_tuple_getitem.lookup
  (getItem_tuple (j:=j) (Q:=λr s'=>r=w/\EP X ζ σ Q r s') pl (by lia) (by lia) (by rw[Ab,<-hl];exact h1) (by simpa using ew) ⟨rfl,fin⟩) hs
theorem Ww(i':List AH)(n j:Nat)(u:AH):FL (·.setIfInBounds j u) { cls:=.type "list",data:=.seq i'.toArray n }={ cls:=.type "list",data:=.seq (i'.set j u).toArray n }:=by
 simp[FL]
theorem Inv.lst(I:Inv X ζ σ H s)(h:H p=some (.lst xs)) :
  ∃(i':List AH) (n:Nat),Bn xs i'/\s.heap.get? p=some { cls:=.type "list",data:=.seq i'.toArray n }/\xs.length<=sizeLine:=by
 obtain⟨z,i',n,r,e⟩:=I.hok p _ h;exact⟨i',n,r,e,z⟩
theorem Inv.lstUpd{ζ:List (AU×Obj)}{σ:St}{H:Hp}{s:AL}{p:AU}{xs ys:List V}{i' its':List AH}{n n':Nat}{f:Obj->Obj}(I:Inv X ζ σ H s)(h:H p=some (.lst xs))
  (ho:s.heap.get? p=some { cls:=.type "list",data:=.seq i'.toArray n }) (hf:f { cls:=.type "list",data:=.seq i'.toArray n }={ cls:=.type "list",data:=.seq its'.toArray n' }) (r:Bn ys its') (hz:ys.length<=sizeLine) (t:Nat) :
  Inv X ζ σ (upd H p (.lst ys)) { s with heap:=s.heap.update p f,toks:=t }:=by
 have e:(s.heap.update p f).get? p=some { cls:=.type "list",data:=.seq its'.toArray n' }:=by
  rw[Lp f ho (by rw[hf] <;> rfl),hf]
 refine I.write (x:=p) (e:=p) (by rw[h];trivial) (.inl rfl) (λb u hb q=>(V3 _ _ (CF hb)).trans q) ⟨_,e⟩ ?_;exact⟨hz,its',n',r,e⟩
def nZ:V->V->V->Hp->(Hp->Prop)->Prop:=λo i v H Q=>∃p xs k j,o=.ref p/\i=.int k/\H p=some (.lst xs)/\ixN xs.length k=some j/\Q (upd H p (.lst (xs.set j v)))
theorem au:pQ X nZ:=by
 intro ζ s σ H o i v ov iv u Q I ro ri rv h;obtain⟨p,xs,k,j,rfl,rfl,hp,hj,q⟩:=h;cases ro;obtain⟨t,rfl⟩:=ri;obtain⟨i',n,r,ho,hz⟩:=I.lst hp;obtain⟨h1,h2,h3,h4⟩:=YB hj;have hl:=r.length;have hn:=OP
 have I':Inv X ζ σ (upd H p (.lst (xs.set j v))) { s with heap:=s.heap.update p (FL (·.setIfInBounds j u)) }:=
  I.lstUpd hp ho (Ww i' n j u) (r.set rv j) (by rw[DS];exact hz) s.toks
 by_cases h0:0<=k
 ·have hk:k.toNat=j:=by
   rw[dU h0 h4]at h1;exact Bh h1
  exact PySem.W.ki_setAt ho h0 (by lia) (by rw[Ab,<-hl];exact h4) (by rw[hk];exact⟨_,I',q⟩)
 ·have hk:(k+(i'.toArray.size:Int)).toNat=j:=by
   rw[seqIndex_neg (by lia) h3]at h1;rw[Ab,<-hl];exact Bh h1
  exact PySem.W.ki_setBack ho (by lia) (by rw[Ab,<-hl];exact h3) (by lia) (by rw[hk];exact⟨_,I',q⟩)
theorem TR(lo hi:Option Int)(n:Nat):(Ik lo hi none n).1=((HT.sIx n 0 lo:Nat):Int)/\(Ik lo hi none n).2.1=((HT.sIx n n hi:Nat):Int)/\(Ik lo hi none n).2.2=1:=by
 refine⟨?_,?_,rfl⟩
 ·cases lo with
  | none=>simp[Ik,HT.sIx]
  | some i=>
   simp only[Ik,HT.sIx,Z1,show(1:Int) > 0 by decide,if_true]
   by_cases h:i < 0
   ·simp only[h,if_true] <;> lia
   ·simp only[h,if_false] <;> lia
 ·cases hi with
  | none=>simp[Ik,HT.sIx]
  | some i=>
   simp only[Ik,HT.sIx,Z1,show(1:Int) > 0 by decide,if_true]
   by_cases h:i < 0
   ·simp only[h,if_true] <;> lia
   ·simp only[h,if_false] <;> lia
theorem Rt(i':List AH)(lo hi:Option Int):slicePick i'.toArray lo hi none=((i'.drop (HT.sIx i'.length 0 lo)).take (HT.sIx i'.length i'.length hi - HT.sIx i'.length 0 lo)).toArray:=by
 obtain⟨h1,h2,h3⟩:=TR lo hi i'.toArray.size;unfold slicePick;rw[h1,h2,h3]
 simp only[sliceRange_one,pick_run,Ab] <;> rfl
def nY(K:AF):V->Option Int->Option Int->Hp->VK->Prop:=λx lo hi H Q=>∃a xs,x=.ref a/\SqL K H a xs/\∀p,H p=none->Q (.ref p) (upd H p (.lst (RN xs lo hi)))
theorem eh:SlR X (nY X.K):=by
 intro ζ s σ H x v vl vu lo hi sl Q I rx hs pl pu h;obtain⟨a,xs,rfl,hx,q⟩:=h;cases rx;obtain⟨i',r,ht,hz⟩:=I.list hx;have hlen:=r.length;refine⟨"list",_,l8.lookup,ht.isList.typeIs,?_⟩;refine wpAny_getItem_list_slice ht.isList hs pl pu .none (by simp) ?_ (by rw[Ab] <;> lia);rw[Rt,<-hlen];refine⟨.ref s.heap.objs.size,_,I.laid (t':=s.toks) (o:=.lst (RN xs lo hi)) (λb ob q=>AR _ q) (AK _) ?_,rfl,q _ (I.hok.fresh (AK _))⟩;exact⟨Aw (Oy xs lo hi) hz,_,0,(r.drop (HT.sIx xs.length 0 lo)).take (HT.sIx xs.length xs.length hi - HT.sIx xs.length 0 lo),Af _ rfl⟩
theorem UI:Kj X (.builtin "len") (λxs H Q=>∃p ys,xs=[.ref p]/\(SqL X.K H p ys∨SqT X.K H p ys)/\Q (.int ys.length) H):=by
 intro ζ s σ H xs us Q I r h;obtain⟨p,ys,rfl,hq,q⟩:=h;obtain⟨u,rfl,rx⟩:=vals1 r;cases rx;have hn:=OP
 rcases hq with hq | hq
 ·obtain⟨i',r',pl,hz⟩:=I.list hq
  have hlen:=r'.length;exact Calls.call_len_list pl.isList (by simp only[Ab] <;> lia) ⟨.int ys.length,H,I.tok _,⟨s.toks+1,by rw[Ab,hlen]⟩,q⟩
 ·obtain⟨i',r',pl,hz⟩:=I.tuple hq
  have hlen:=r'.length;exact len_tuple pl (by simp only[Ab] <;> lia) ⟨.int ys.length,H,I.tok _,⟨s.toks+1,by rw[Ab,hlen]⟩,q⟩
theorem R7:Kj X (.type "tuple") (λxs H Q=>∃p ys,xs=[.ref p]/\((SqL X.K H p ys/\∀l,H l=none->Q (.ref l) (upd H l (.tup ys)))∨(SqT X.K H p ys/\Q (.ref p) H))):=by
 intro ζ s σ H xs us Q I r h;obtain⟨p,ys,rfl,h⟩:=h;obtain⟨u,rfl,rx⟩:=vals1 r;cases rx
 rcases h with⟨hq,q⟩ | ⟨hq,q⟩
 ·obtain⟨i',r',pl,hz⟩:=I.list hq
  have hlen:=r'.length;refine call_tuple_list pl.isList (λh' kp=>?_) (by simp only[Ab] <;> lia);have I1:Inv X ζ σ H { s with heap:=h' }:=I.kept (t':=s.toks) kp
  have I2:Inv X ζ σ (upd H h'.objs.size (.tup ys)) { s with heap:=h'.push { cls:=.type "tuple",data:=.seq i'.toArray } }:=
   I1.laid (t':=s.toks) (λb o e=>AR _ e) (AK _) (show Cj X.prog X.w _ _ _ (.tup ys)from⟨⟨hz,⟨_,Af _ rfl,rfl⟩⟩,i',r',aC _ _⟩)
  exact⟨.ref h'.objs.size,_,I2,rfl,q _ (I1.hok.fresh (AK _))⟩
 ·obtain⟨i',r',pl,hz⟩:=I.tuple hq
  exact call_tuple_same pl ⟨.ref p,H,I,rfl,q⟩
def tyV(K:AF)(T:String)(x:V)(H:Hp):Prop:=match x with
 | .str _=>T = "str"
 | .int _=>T = "int"
 | .ref p=>(T = "list"/\∃xs,SqL K H p xs)∨(T = "tuple"/\∃o,K.lookup p=some o/\o.cls=.type "tuple"/\o.dict=none) ∨
   (T = "dict"/\((∃f',H p=some (.dK f'))∨∃f',H p=some (.dT f')))∨(T = "set"/\∃S n,H p=some (.set S n))
 | _=>False
theorem aW(I:Inv X ζ σ H s)(r:RelV x v)(ty:tyV X.K T x H) :
  s.TypeIs v T/\∀a,v=.ref a->∃ob,s.heap.get? a=some ob/\ob.dict=none:=by
 cases x with
 | str z=>
  obtain⟨t,rfl⟩:=r;cases(show T = "str" from ty);exact⟨typeIs_str s z t,λ_ e=>nomatch e⟩
 | int i=>
  obtain⟨t,rfl⟩:=r;cases(show T = "int" from ty);exact⟨typeIs_int s i t,λ_ e=>nomatch e⟩
 | ref p=>
  cases r
  rcases ty with⟨rfl,xs,hq⟩ | ⟨rfl,o,hk,hc,hd⟩ | ⟨rfl,hk⟩ | ⟨rfl,S,n,hk⟩
  ·obtain⟨i',_,pl,_⟩:=I.list hq
   refine⟨pl.isList.typeIs,λa e=>?_⟩;cases e;obtain⟨o,n,e,c,hd,_⟩:=pl;exact⟨o,e,hd⟩
  ·refine⟨⟨o,I.kIn p o hk,hc⟩,λa e=>?_⟩
   cases e;exact⟨o,I.kIn _ o hk,hd⟩
  ·have z:∃o,s.heap.get? p=some o/\o.ExactDict:=by
    rcases hk with⟨f',hk⟩ | ⟨f',hk⟩
    ·obtain⟨_,_,_,_,o,_,_,e,ex,_⟩:=I.hok p _ hk
     exact⟨o,e,ex⟩
    ·obtain⟨_,_,_,_,o,_,_,e,ex,_⟩:=I.hok p _ hk
     exact⟨o,e,ex⟩
   obtain⟨o,e,ex⟩:=z;refine⟨⟨o,e,ex.1⟩,λa e2=>?_⟩;cases e2;exact⟨o,e,ex.2.1⟩
  ·obtain⟨o,_,_,_,e,ex,_⟩:=I.hok p _ hk
   refine⟨⟨o,e,ex.1⟩,λa e2=>?_⟩;cases e2;exact⟨o,e,ex.2.1⟩
 | _=>exact D6 ty
def tBM0(K:AF)(T:String)(r:V->List V->Hp->VK->Prop)(to:TE):TE:=λσ H Q=>to σ H λx H1=>tyV K T x H1/\r x [] H1 Q
def tBM(K:AF)(T:String)(r:V->List V->Hp->VK->Prop)(to:TE)(t:TA):TE:=λσ H Q=>to σ H λx H1=>tyV K T x H1/\t σ H1 λxs H2=>r x xs H2 Q
variable{o e:Expr}{es:List Expr}{to:TE}{t:TA}{name:Str}{apos qf:Pos}{T id:String}{r:V->List V->Hp->VK->Prop}
theorem kG(pa:PlainAttrs T)(slot:Slot T name id)(vI:typeOf (.builtin id)=pure (.type "method_descriptor")) (hm:MtR X id r) (ho:PE X o to)
  (ql:EQ o name X.env (CH o X.env)=CH o X.env:=by rfl) (qm:(apos.endLine==qf.line)=true:=by rfl):PE X (.Call (.Attribute o name apos) [] [] qf) (tBM0 X.K T r to):=by
 intro ζ s σ H Q I h;refine wpAny_Call_method0_late ql qm (thn (ho ζ s σ H _ I h) λv s1 ⟨x,H1,I1,r1,ty,q1⟩=>?_);obtain⟨h1,h2⟩:=aW I1 r1 ty;exact⟨T,id,pa,slot,vI,h1,h2,Ub rfl (PySem.evalArgs_none (hm ζ s1 σ H1 x [] v [] Q I1 r1 .nil q1))⟩
theorem bS(pa:PlainAttrs T)(slot:Slot T name id)(vI:typeOf (.builtin id)=pure (.type "method_descriptor")) (hm:MtR X id r) (ho:PE X o to) (ha:PA X (e :: es) t)
  (ql:EQ o name X.env (CH o X.env)=CH o X.env:=by rfl)
  (qQ:((Dp qf (AX (e :: es) X.env)).all (λx=>!x.1)&&(Rf qf (Ku [] X.env)).all (λx=>x.1.isSome)
    &&decide ((e :: es).length+([]:List Oi).length+(if ([]:List Oi).isEmpty then 0 else 1) < 30))=true:=by rfl)
  (qm:(apos.endLine==qf.line)=true:=by rfl) (hs:AX (e :: es) X.env=(false,CH e X.env) :: AX es X.env:=by rfl) (qr:(Dp qf (AX es X.env)).any (·.1)=false:=by rfl) :
  PE X (.Call (.Attribute o name apos) (e :: es) [] qf) (tBM X.K T r to t):=by
 intro ζ s σ H Q I h;refine wpAny_Call_method_late ql qQ qm rfl (thn (ho ζ s σ H _ I h) λv s1 ⟨x,H1,I1,r1,ty,q1⟩=>?_);obtain⟨h1,h2⟩:=aW I1 r1 ty;refine⟨T,id,pa,slot,vI,h1,h2,?_⟩;have hA:=ha qf ζ s1 σ H1 _ I1 q1;rw[hs]at hA ⊢;refine Ub (by show(false||(Dp qf (AX es X.env)).any (·.1))=false;rw[qr] <;> rfl) (Calls.evalArgs_plain ?_)
 exact thn hA λus s2 ⟨vs,H2,I2,r2,q2⟩=>hm ζ s2 σ H2 x vs v us Q I2 r1 r2 q2
end
section
def MtM(X:Cx)(id:String)(r:V->List V->Hp->VK->Prop):Prop:=
 ∀(ζ:List (AU×Obj)) (s:AL) (σ:St) (H:Hp) (x:V) (xs:List V) (v:AH) (us:List AH) (Q:VK),Inv X ζ σ H s->RelV x v->Bn xs us->r x xs H Q ->
  Ae (Ak X.prog X.w) X.A (call (.builtin id) (v :: us)) (EP X ζ σ Q) X.xe s
theorem Bn.one:∀{x:V} {us:List AH},Bn [x] us->∃u,us=[u]/\RelV x u
 | _,_,.cons r .nil=>⟨_,rfl,r⟩
section
variable{X:Cx}{ζ:List (AU×Obj)}{σ:St}{H:Hp}{s:AL}{a:AU}{y v:V}{u r:AH}{o:Option V}{A:CC}{E:AH->AL->Prop}
theorem Inv.big(I:Inv X ζ σ H s):Db < s.heap.objs.size:=by
 have h:BL < s.heap.objs.size:=(I.mod.glob.keeps I.bk).lt;exact me (by decide) h
theorem Zk(hu:A.units+1 < Fi)(I:Inv X ζ σ H s)(g:No H a y (some v))(ry:RelV y u)(h:∀w' s',Inv X ζ σ H s'->RelV v w'->Q w' s') :
  Ae (Ak X.prog X.w) A (MU (.ref a) u) Q E s:=by
 rcases g with⟨f',k,e,ey,l⟩ | ⟨f',k,b,e,ey,eb,l⟩
 ·subst ey
  obtain⟨z,hd,vs,rel,dd⟩:=Vn I.hok e;obtain⟨w',hw,qC⟩:=MF.some_of (v:=v) (o:=Ra vs k) (by rw[l];exact rel.val k);exact wpAny_getItem_of (Vg ry) dd.mapOf hw (h w' _ (I.tok _) qC)
 ·subst ey
  cases(show u=BA b from ry);obtain⟨z,hd,xs,rel,dd⟩:=Vm I.hok e;obtain⟨w',hw,qC⟩:=MF.some_of (v:=v) (o:=(WA xs k).map (·.2)) (by rw[l];exact rel.val k);obtain⟨p,hp,tH⟩:=Gg.mp hw;refine wpAny_getItem_heap (Jw hu) (Qx I.hok eb) dd hp ?_;rw[tH];exact h w' _ (I.tok _) qC
theorem d_in(hu:A.units+1 < Fi)(I:Inv X ζ σ H s)(g:No H a y o)(ry:RelV y u)(h:∀s',Inv X ζ σ H s'->Q (.bool o.isSome) s') :
  Ae (Ak X.prog X.w) A (CM .In u (.ref a)) Q E s:=by
 rcases g with⟨f',k,e,ey,l⟩ | ⟨f',k,b,e,ey,eb,l⟩
 ·subst ey
  obtain⟨z,hd,vs,rel,dd⟩:=Vn I.hok e;refine wpAny_in_of (Vg ry) hd dd.mapOf ?_;rw[<-(rel.val k).isSome_eq,<-l];exact h _ (I.tok _)
 ·subst ey
  cases(show u=BA b from ry);obtain⟨z,hd,xs,rel,dd⟩:=Vm I.hok e;refine wpAny_in_heap (Jw hu) (Qx I.hok eb) hd dd ?_;have q:=(rel.val k).isSome_eq;rw[Gh]at q;rw[<-q,<-l];exact h _ (I.tok _)
theorem g9(hu:A.units+1 < Fi)(I:Inv X ζ σ H s)(g:No H a y o)(ry:RelV y u)(h:∀s',Inv X ζ σ H s'->Q (.bool (!o.isSome)) s') :
  Ae (Ak X.prog X.w) A (CM .NotIn u (.ref a)) Q E s:=by
 rcases g with⟨f',k,e,ey,l⟩ | ⟨f',k,b,e,ey,eb,l⟩
 ·subst ey
  obtain⟨z,hd,vs,rel,dd⟩:=Vn I.hok e;refine wpAny_notIn_of (Vg ry) hd dd.mapOf ?_;rw[<-(rel.val k).isSome_eq,<-l];exact h _ (I.tok _)
 ·subst ey
  cases(show u=BA b from ry);obtain⟨z,hd,xs,rel,dd⟩:=Vm I.hok e;refine wpAny_notIn_heap (Jw hu) (Qx I.hok eb) hd dd ?_;have q:=(rel.val k).isSome_eq;rw[Gh]at q;rw[<-q,<-l];exact h _ (I.tok _)
theorem YQ(I:Inv X ζ σ H s)(mu:Mut (H a))(hs:EZ a s.heap h')(he:∃q,h'.get? a=some q)(new:Cj X.prog X.w (upd H a ob) h' a ob) :
  Inv X ζ σ (upd H a ob) { s with heap:=h',toks:=t' }:=
 I.write (x:=a) (e:=a) mu (.inl rfl) (λb q hb z=>(hs.2 b hb).trans z) he new
theorem lY(z:f'.length<=sizeLine)(hd:(a==Db)=false)(rel:KV f' vs)(dd:h'.DictOf (D8 P w) a vs) :
  Cj P w H' h' a (.dK f'):=⟨z,hd,vs,rel,dd⟩
theorem Zj(hu:A.units+1 < Fi)(I:Inv X ζ σ H s)(g:Vy H a y v H')(ry:RelV y u)(rv:RelV v r)(h:∀s',Inv X ζ σ H' s'->Q () s') :
  Ae (Ak X.prog X.w) A (mD (.ref a) u r) Q E s:=by
 rcases g with⟨f',k,e,ey,l,eH⟩ | ⟨f',k,b,e,ey,eb,l,eH⟩
 ·subst ey eH
  obtain⟨z,hd,vs,rel,dd⟩:=pG I.hok e
  have hz:vs.length<=sizeLine:=by rw[<-rel.length];exact z
  have hl:(Kn f' k v).length<=sizeLine:=by have:=Ow f' k v;lia
  refine wpAny_setItem_pairs (hsz:=hz) (Vg ry) dd λh' uU hs=>h _ ?_
  have he:∃q,h'.get? a=some q:=let ⟨q,_,_,hq,_⟩:=uU;⟨q,hq⟩
  exact YQ I (by rw[e];exact EX) hs he (lY hl hd (rel.put k rv) uU)
 ·subst ey eH
  cases(show u=BA b from ry);obtain⟨z,hd,xs,rel,dd⟩:=pE I.hok e
  have hz:xs.length<=sizeLine:=by rw[<-Eb rel];exact z
  have hl:(Kn f' k v).length<=sizeLine:=by have:=Ow f' k v;lia
  refine wpAny_setItem_heap (hsz:=hz) (Jw hu) (Qx I.hok eb) dd λh' uU hs=>h _ ?_
  obtain⟨q,es,ep,hq,h2,h3,h4,_,h5⟩:=uU;refine YQ I (by rw[e];exact EX) hs ⟨q,hq⟩ ⟨hl,hd,_,(rel.put k eb rv).keeps λc ys ec=>?_,q,es,ep,hq,h2,h3,h4,h5⟩;rw[BX (oP ec e (λz=>nomatch z))];exact ec
variable{X:Cx}{ζ:List (AU×Obj)}{σ:St}{H:Hp}{s:AL}{l:AU}{xs ys:List V}
theorem Inv.lset{i' its':List AH}{n:Nat}{f:Array AH->Array AH}{t':Nat}(I:Inv X ζ σ H s)(hH:H l=some (.lst xs))
  (e:s.heap.get? l=some { cls:=.type "list",data:=.seq i'.toArray n }) (hf:f i'.toArray=its'.toArray) (hv:Bn ys its') (hz:ys.length<=sizeLine) :
  Inv X ζ σ (upd H l (.lst ys)) { s with heap:=s.heap.update l (FL f),toks:=t' }:=by
 have q:=PySem.IsL.update e f;rw[hf]at q;refine I.write (x:=l) (e:=l) (by rw[hH];exact trivial) (.inl rfl) (λb' u hb hu=>(V3 s.heap (FL f) (CF hb)).trans hu) ⟨_,q⟩ ?_;exact⟨hz,its',_,hv,q⟩
theorem Inv.lnew(I:Inv X ζ σ H s)(hv:Bn ys i')(hz:ys.length<=sizeLine) :
  Inv X ζ σ (upd H s.heap.objs.size (.lst ys)) { s with heap:=s.heap.push { cls:=.type "list",data:=.seq i'.toArray },toks:=t' }:=
 I.laid (λ_ _ q=>AR _ q) (AK _) ⟨hz,i',0,hv,Af _ rfl⟩
theorem Inv.fresh(I:Inv X ζ σ H s):H s.heap.objs.size=none:=I.hok.fresh (AK _)
theorem Inv.lstM(I:Inv X ζ σ H s)(hH:H l=some (.lst xs)):xs.length<=sizeLine/\∃(i':List AH) (n:Nat),Bn xs i'/\xs.length=i'.length/\s.heap.get? l=some { cls:=.type "list",data:=.seq i'.toArray n }:=by
 obtain⟨z,i',n,r,e⟩:=I.hok l _ hH;exact⟨z,i',n,r,r.length,e⟩
theorem bi(h:n<=sizeLine):Hx n=false:=by
 unfold Hx;exact wY (by lia)
end
def ls(i:Expr):Prop:=∀ov iv,UP i false ov iv=operate [ov,iv] (MU ov iv)
theorem eg{prog}{w}{A}{E}{s}{env}{value slice}{pos}{T id}{Q}
  (hl:typeLookup (.type T) "__getitem__" = pure (some (.builtin id))) (hs:ls slice)
  (h:Ae (Ak prog w) A (CH value env) (λo s₁=>Ae (Ak prog w) A (CH slice env) (λi s₂=>s₂.TypeIs o T/\Ae (Ak prog w) A (MU o i) Q E s₂) E s₁) E s) :
  Ae (Ak prog w) A (CH (.Subscript value slice pos) env) Q E s:=by
 refine i6 (Gy h (λo s₁ h₁=>Gy h₁ (λi s₂ h₂=>?_) λ_ _ x=>x) λ_ _ x=>x);obtain⟨hT,h₂⟩:=h₂;unfold YY;refine AB ?_;rw[getitemInPython_of_ne hT.not_modules];refine AB (wpAny_specialOf hT hl ?_)
 have fin:Ae (Ak prog w) A (UP slice false o i) (λr s₃=>Ae (Ak prog w) A (letTemporaryGo value o r >>= λ_=>pure r) Q E s₃) E s₂:=by
  rw[hs o i];exact wpAny_operating (Gy h₂ (λr s₃ h₃=>AB (wpAny_letTemporaryGo (AM h₃))) λ_ _ x=>x)
 first
  | exact AM (AB fin)
  | exact AB (AM (AB fin))
  | exact AB fin
theorem Vo(I:Inv X ζ σ H s)(g:No H a y o):s.TypeIs (.ref a) "dict":=by
 rcases g with⟨f',k,e,_,_⟩ | ⟨f',k,b,e,_,_,_⟩
 ·obtain⟨_,_,vs,_,dd⟩:=Vn I.hok e
  exact dd.typeIs
 ·obtain⟨_,_,xs,_,dd⟩:=Vm I.hok e
  exact dd.typeIs
def nM(td ty:TE):TE:=λσ H Q=>td σ H λx H1=>ty σ H1 λy H2=>∃a v,x=.ref a/\No H2 a y (some v)/\Q v H2
def nL(ty td:TE):TE:=λσ H Q=>ty σ H λy H1=>td σ H1 λx H2=>∃a o,x=.ref a/\No H2 a y o/\Q (.bl o.isSome) H2
def Xq(ty td:TE):TE:=λσ H Q=>ty σ H λy H1=>td σ H1 λx H2=>∃a o,x=.ref a/\No H2 a y o/\Q (.bl (!o.isSome)) H2
def nV(td ty tv:TE):TS:=λD σ H=>tv σ H λv H1=>td σ H1 λx H2=>ty σ H2 λy H3=>∃a H4,x=.ref a/\Vy H3 a y v H4/\D.nx σ H4
variable{X:Cx}
def fC:V->List V->Hp->VK->Prop:=λx vs H Q=>∃l xs y,x=.ref l/\vs=[y]/\H l=some (.lst xs)/\xs.length < sizeLine/\Q .non (upd H l (.lst (xs++[y])))
theorem SQ:MtM X "list.append" fC:=by
 intro ζ s σ H x vs v us Q I rx rv h;obtain⟨l,xs,y,rfl,rfl,hH,hz,q⟩:=h;cases rx;obtain⟨u,rfl,ru⟩:=rv.one;obtain⟨z,i',n,r,hl,e⟩:=I.lstM hH;refine i4 F.slot_list_append ⟨_,e,rfl⟩ F.entry_list_append (F.args_list_append_2 _ _) (PySem.list_append l i'.toArray n u (by rw[Ab];lia)) ⟨e,?_⟩;refine⟨.non,_,I.lset (its':=i'++[u]) hH e (by simp) (r.append (.cons ru .nil)) ?_,rfl,q⟩;rw[As,BW]
 lia
def fB:V->List V->Hp->VK->Prop:=λx vs H Q=>∃l b xs zs,x=.ref l/\vs=[.ref b]/\H l=some (.lst xs)/\H b=some (.lst zs)/\xs.length+zs.length<=sizeLine/\Q .non (upd H l (.lst (xs++zs)))
theorem ZN:MtM X "list.extend" fB:=by
 intro ζ s σ H x vs v us Q I rx rv h;obtain⟨l,b,xs,zs,rfl,rfl,hH,hB,hz,q⟩:=h;cases rx;obtain⟨u,rfl,ru⟩:=rv.one;cases ru;obtain⟨z,i',n,r,hl,e⟩:=I.lstM hH;obtain⟨z2,qj,n2,r2,qW,e2⟩:=I.lstM hB
 have hsz:i'.toArray.size+qj.toArray.size<=sizeLine:=by rw[Ab,Ab];lia
 have tZ:¬(!i'.toArray.isEmpty&&Hx (i'.toArray.size+qj.toArray.size))=true:=by
  rw[bi hsz,Bool.and_false];exact AI
 refine i4 F.slot_list_extend ⟨_,e,rfl⟩ F.entry_list_extend (F.args_list_extend_2 _ _)
  (AutoSeq1.list_extend_list_list_0 l i'.toArray n b qj.toArray n2 tZ (by rw[Ab];lia) (by lia)) ⟨e,e2,?_⟩
 refine⟨.non,_,I.lset (its':=i'++qj) hH e (by simp) (r.append r2) ?_,rfl,q⟩;rw[As];omega
def rCat:R2:=λx y H Q=>∃l b xs zs,x=.ref l/\y=.ref b/\H l=some (.lst xs)/\H b=some (.lst zs)/\xs.length+zs.length<=sizeLine/\∀p,H p=none->Q (.ref p) (upd H p (.lst (xs++zs)))
theorem kQ:OpR X (Cr .Add) rCat:=by
 intro ζ s σ H x y v u Q I rx ry h;obtain⟨l,b,xs,zs,rfl,rfl,hH,hB,hz,q⟩:=h;cases rx;cases ry;obtain⟨z,i',n,r,hl,e⟩:=I.lstM hH;obtain⟨z2,qj,n2,r2,qW,e2⟩:=I.lstM hB;refine PySem.P.add_list e e2 ?_ (by rw[Ab,Ab];lia)
 have ea:i'.toArray++qj.toArray=(i'++qj).toArray:=by simp
 rw[ea];exact⟨.ref _,_,I.lnew (t':=s.toks) (r.append r2) (by rw[As];omega),rfl,q _ I.fresh⟩
section
variable{X:Cx}{o i value:Expr}{pos pos':Pos}{td ty tv:TE}
theorem fY(hu:X.A.units+1 < Fi)(ho:PE X o td)(hi:PE X i ty)(hs:ls i):PE X (.Subscript o i pos) (nM td ty):=by
 intro ζ s σ H Q I h;refine eg PySem.F.slot_dict_getitem.lookup hs (thn (ho ζ s σ H _ I h) λu s1 ⟨x,H1,I1,rx,q1⟩=>thn (hi ζ s1 σ H1 _ I1 q1) λiv s2 ⟨y,H2,I2,ry,a,v,ex,g,q2⟩=>?_);subst ex;obtain rfl:u=BA a:=rx;exact⟨Vo I2 g,Zk hu I2 g ry λw' s3 I3 qC=>⟨v,H2,I3,qC,q2⟩⟩
theorem kI(hu:X.A.units+1 < Fi)(hi:PE X i ty)(ho:PE X o td):PC X .In i o (nL ty td):=by
 intro ζ s σ H Q I h
 refine thn (hi ζ s σ H _ I h) λiv s1 ⟨y,H1,I1,ry,q1⟩=>thn (ho ζ s1 σ H1 _ I1 q1) λu s2 ⟨x,H2,I2,rx,a,ov,ex,g,q2⟩=>?_
 subst ex;obtain rfl:u=BA a:=rx
 exact d_in hu I2 g ry λs3 I3=>⟨.bl ov.isSome,H2,I3,rfl,q2⟩
theorem ZF(hu:X.A.units+1 < Fi)(hi:PE X i ty)(ho:PE X o td):PC X .NotIn i o (Xq ty td):=by
 intro ζ s σ H Q I h
 refine thn (hi ζ s σ H _ I h) λiv s1 ⟨y,H1,I1,ry,q1⟩=>thn (ho ζ s1 σ H1 _ I1 q1) λu s2 ⟨x,H2,I2,rx,a,ov,ex,g,q2⟩=>?_
 subst ex;obtain rfl:u=BA a:=rx
 exact g9 hu I2 g ry λs3 I3=>⟨.bl (!ov.isSome),H2,I3,rfl,q2⟩
theorem fJ(hu:X.A.units+1 < Fi)(ho:PE X o td)(hi:PE X i ty)(hv:PE X value tv)(hs:Fu value (some (.Subscript o i pos')) pos.line X.env=pure false) :
  PS X (.Assign [.Subscript o i pos'] value pos) (nV td ty tv):=by
 intro ζ s σ H D I h;refine wpAny_Assign_Subscript (thn (hv ζ s σ H _ I h) λr s1 ⟨v,H1,I1,rv,q1⟩=>thn (ho ζ s1 σ H1 _ I1 q1) λu s2 ⟨x,H2,I2,rx,q2⟩=>thn (hi ζ s2 σ H2 _ I2 q2) λiv s3 ⟨y,H3,I3,ry,a,H4,ex,g,q3⟩=>?_) hs;subst ex;obtain rfl:u=BA a:=rx
 exact Zj hu I3 g ry rv λs4 I4=>⟨σ,H4,I4,q3⟩
end
theorem cp(h:Cu)(hb:Db < h.objs.size):Cj P w H (h.push { cls:=.type "dict",data:=.dict #[] }) h.objs.size (.dK []):=
 ⟨Dc _,beq_eq_false_iff_ne.mpr (CF (BB hb)),[],.nil,Cu.DictOf.new h⟩
theorem cj(h:Cu)(hb:Db < h.objs.size):Cj P w H (h.push { cls:=.type "dict",data:=.dict #[] }) h.objs.size (.dT []):=
 ⟨Dc _,beq_eq_false_iff_ne.mpr (CF (BB hb)),[],.nil,_,#[],0,Af _ rfl,⟨rfl,rfl,rfl⟩,rfl,rfl,Dk⟩
def je:TE:=λ_ H Q=>∀p,H p=none->Q (.ref p) (upd H p (.dK []))
def jd:TE:=λ_ H Q=>∀p,H p=none->Q (.ref p) (upd H p (.dT []))
variable{s:AL}
section
variable{X:Cx}{pos:Pos}
theorem bQ:PE X (.Dict [] [] pos) je:=λζ s σ H Q I h=>
 mX ⟨.ref s.heap.objs.size,_,I.laid (a:=s.heap.objs.size) (o:=.dK []) (t':=s.toks) (λ_ _ q=>AR _ q) (AK _) (cp s.heap I.big),rfl,h _ (I.hok.fresh (AK _))⟩
theorem bP:PE X (.Dict [] [] pos) jd:=λζ s σ H Q I h=>
 mX ⟨.ref s.heap.objs.size,_,I.laid (a:=s.heap.objs.size) (o:=.dT []) (t':=s.toks) (λ_ _ q=>AR _ q) (AK _) (cj s.heap I.big),rfl,h _ (I.hok.fresh (AK _))⟩
end
end
end L2
namespace Att
open PySem PySem.W PySem.Calls PyProof.Rows
theorem Pa:∀(ns:List Int) (vs:List AH),WellAll P h vs (ns.map pS)->F9 vs ns:=by
 intro ns
 induction ns with
 | nil=>
  intro vs w;rw[Oh]at w;cases w;exact .nil
 | cons n ns ih=>
  intro vs w;rw[A9]at w
  cases w with
  | cons a b=>
   cases a;exact .cons _ _ (ih _ b)
theorem Y0{l:OpenLaw}{n:Nat}(hn:l.most=some n){P:Params}{h:Cu}{args:List WData}{vals:List AH}
  (sf:l.row.toRowW.claim.pre args=true) (vJ:WellAll P h vals args) :
  ∃a vs ns,vals=[BA a]/\args=[WData.list (ns.map pS)]/\h.get? a=some { cls:=.type "list",data:=.seq vs.toArray }/\F9 vs ns/\ns.length<=n:=by
 have vK:WShape.hasAll [] args [.list .int]=true:=(pre_splitW sf).1;have hc:l.pre.holds [] { args:=args }=true:=(pre_splitW sf).2;obtain⟨d,r,rfl,h1,h2⟩:=hasAllW_cons vK;obtain rfl:=hasAllW_nil h2;obtain⟨xs,rfl,h3⟩:=hasW_list h1;obtain⟨ns,rfl⟩:=items_int h3
 have hlen:ns.length<=n:=by
  unfold OpenLaw.pre at hc
  have h4:(WTm.not (.lt (.lit (.int (n:Int))) (.len (.arg 0)))).holds [] { args:=[.list (ns.map .int)] }=true:=by
   have h4:=(holds_andW hc).1;rw[hn]at h4;exact h4
  have h5:=condW_of h4 (w_not (w_lt w_lit (w_len_list (w_arg rfl))));rw[AC]at h5
  refine P7 λq=>?_
  have q':(n:Int) < ((ns.length:Nat):Int):=by omega
  first
   | (rw[wX q']at h5;exact zX h5 (by decide))
   | (simp at h5;omega)
 cases vJ with
 | cons w1 w2=>
  cases w2
  cases w1 with
  | list ho sV=>exact⟨_,_,ns,rfl,rfl,ho,Pa ns _ sV,hlen⟩
theorem ZC(l:OpenLaw)(args:List WData):l.row.toRowW.claim.post args (.bool true) args=true:=
 postW_of (r:=l.row.toRowW) (X:=(true==true))
  (show mG [] (.bool true) .bool=true by first | rfl | decide | simp[mG,WShape.arms,WShape.armsAll])
  (show(WTm.eq .res (.lit (.bool true))).value [] { args:=args,res:=some (.bool true),after:=args }=some (.bool (true==true))from w_eq_bool (w_res rfl) w_lit) rfl
theorem Vu{l:OpenLaw}{n:Nat}{q:Ba}{loose:List Str}{XP:(Str->Option AH)->Cu->Prop}{YP:Bx->Cu->Prop}{d:DefRec}
  (hn:l.most=some n) (u0:d.params.defaults=[])
  (call:∀(w:Bx) (s₀ s₁:AL) (mg mb:Str->Option AH) (fa:AU) (o:Obj) (pm cd doc:AH) (a:AU) (vs:List AH) (ns:List Int),
   Ground q loose [] XP w s₀ mg mb s₁.heap->YP w s₁.heap ->
   s₁.heap.get? fa=some o->o.data=.func (docDef d.name d.params d.body d.scope pm cd doc)->s₁.heap.CodeRec cd d.name->mg d.name=some (.ref fa) ->
   s₁.heap.get? a=some { cls:=.type "list",data:=.seq vs.toArray }->F9 vs ns->ns.length<=n->s₁.gens = #[] ->
   MW (Ak l.prog w) Re (.call (.ref fa) ⟨[.ref a],[]⟩) (λr s'=>r=.ok (.ret (.bool true))/\OldK s₁.heap s'.heap/\s'.os=s₁.os/\Jj s'.gens) s₁) :
  WalkO q loose XP YP l.row.toRowW d [] (λf vs=>Yc f vs):=by
 intro w s₀ s₁ mg mb G Y fa o pm cd doc dV kV ho hd rj hD sW hg args vals as sf yX hrd vJ sX;obtain rfl:dV=.none:=Dflts.none hD u0;obtain rfl:kV=.none:=Dflts.noKw hD;obtain⟨a,vs,ns,rfl,rfl,sY,hints,hlen⟩:=Y0 hn sf vJ;refine enter_call (Rc (call w s₀ s₁ mg mb fa o pm cd doc a vs ns G Y ho (fd_plain hd) rj sW sY hints hlen hg) λr s' hq=>?_);obtain⟨rfl,h2,h3,h4⟩:=hq;exact⟨.inl ⟨.bool true,.bool true,[],rfl,λ_=>rfl,.bool true,ZC l _,λ_=>⟨mj,λ_ hm=>(nomatch hm)⟩⟩,h2,h3,h4⟩
end Att
namespace L2
open PySem PySem.Spec PyProof.Rows
theorem SF:∀{vs:List AH} {ns:List Int},F9 vs ns->Bn (ns.map V.int) vs
 | _,_,.nil=>.nil
 | _,_,.cons n t h=>.cons ⟨t,rfl⟩ (SF h)
def iI(H:Hp):Prop:=∀b,H b=none∨∃o xs,H b=some (.frz o (.lst xs))
theorem b9{P}{w}{K}{mg mb}{CX}{k}{fa a}{fd}{x}{sp}{s₁}{vs}{ns}
  (KX:K.In s₁.heap) (sy:s₁.heap.Ns BL mg) (hb:s₁.heap.Ns V9 mb) (yY:∀x:Str,x≠"__name__"->mb x=Fv x) (vL:s₁.heap.NoLimit) (hg:s₁.gens = #[])
  (ha:s₁.heap.get? a=some { cls:=.type "list",data:=.seq vs.toArray }) (hi:F9 vs ns) (hl:ns.length<=sizeLine) (hr:Gn k Re)
  (F:∀base:Cu,K.In base->base.Ns BL mg->Cq P w K mg base CX k fa fd [x] sp) (u5:∀(s:AL) (u:AH),V5 s fd ⟨[u],[]⟩ [(x,u)])
  (tG:∀H:Hp,iI H->SqL K H a (ns.map V.int)->sp [.ref a] H (λv _=>v=.bl true) λ_ _ _=>False)
  (vM:∀H e s',CX [] H s₁ (λ_ _ _=>False) e s'->False) :
  MW (Ak P w) Re (.call (.ref fa) ⟨[.ref a],[]⟩) (λr s'=>r=.ok (.ret (.bool true))/\OldK s₁.heap s'.heap/\s'.os=s₁.os/\Jj s'.gens) s₁:=by
 have rv:=SF hi;have vN:=hi.length
 have core:∀H:Hp,iI H->SqL K H a (ns.map V.int)->HOk P w H s₁.heap->(∀b,H b≠none->b=a)->(H a≠none->K.lookup a=none) ->
   MW (Ak P w) Re (.call (.ref fa) ⟨[.ref a],[]⟩) (λr s'=>r=.ok (.ret (.bool true))/\OldK s₁.heap s'.heap/\s'.os=s₁.os/\Jj s'.gens) s₁:=by
  intro H hO hS hok hA hK
  have qZ:∀{b:AU} {o:Obj},s₁.heap.get? b=some o->H b=none->(Tz s₁.heap H).get? b=some o:=λe n=>cN e n
  have tX:∀{b:AU} {o:Obj} {es:Array Oj} {ep:Nat},s₁.heap.get? b=some o->o.data=.dict es ep->H b=none:=λ{b o es ep} e d=>by
   cases q:H b with
   | none=>rfl
   | some u=>
    have e':b=a:=hA b (by rw[q];simp);subst e';rw[ha]at e;cases e;have d':Data.seq vs.toArray _=Data.dict es ep:=d;cases d'
  have uV:∀{b:AU} {m:Str->Option AH},s₁.heap.Ns b m->(Tz s₁.heap H).Ns b m:=λ{b m} ⟨o,es,ep,e,d,r⟩=>⟨o,es,ep,qZ e (tX e d),d,r⟩
  have xA:K.In (Tz s₁.heap H):=λb o e=>qZ (KX b o e) (by
   cases q:H b with
   | none=>rfl
   | some u=>
    have e':b=a:=hA b (by rw[q];simp);subst e'
    rw[hK (by rw[q];simp)]at e;cases e)
  have hM:Mod K mg (Tz s₁.heap H):=⟨xA,uV sy,⟨mb,uV hb,yY⟩,let ⟨mc,h1,h2⟩:=vL;⟨mc,uV h1,h2⟩⟩;have e0:XV P w K mg (Tz s₁.heap H) Re [] s₁ H:=⟨rfl,hM,λb o e=>fx e,mf (ZY _ _),trivial,λb hb=>zX (show b∈([]:List AU)from hb) (by simp),hok,.of_eq hg⟩
  refine Rc ((F _ xA (uV sy)).run Re [] s₁ H ⟨[.ref a],[]⟩ [.ref a] [.ref a] _ _ hr e0 (u5 s₁ (.ref a)) (.cons rfl .nil) (tG H hO hS)) λr s' h=>?_
  cases r with
  | error e=>exact(vM H e s' h).elim
  | ok fl=>
   cases fl with
   | next=>exact D6 h
   | brk=>exact D6 h
   | cont=>exact D6 h
   | ret u=>
    obtain⟨v,H',os,bare,un,vO,r',q⟩:=h;have q':v=.bl true:=q;subst q';obtain rfl:u=Rg true:=r';refine⟨rfl,OldK.of_keep λb o e=>?_,os,bare⟩
    cases q:H b with
    | none=>exact un.keep b o e q (by intro z;exact zX (show b∈([]:List AU)from z) (by simp)) (by simp)
    | some u=>
     rcases hO b with z | ⟨ob,xs,z⟩
     ·rw[q]at z;cases z
     ·have z2:=un.frzs b ob _ z
      obtain⟨e1,_⟩:=hok b _ z;obtain⟨e2,_⟩:=vO b _ z2;rw[e]at e1;cases e1;exact e2
 cases hk:K.lookup a with
 | some o=>
  have e:=KX a o hk;rw[ha]at e;cases e
  refine core (λ_=>none) (λ_=>.inl rfl) (.inr ⟨_,vs.toArray,_,hk,rfl,rfl,rfl,by rw[Ab,vN];exact hl,by simpa using rv⟩) (λb u z=>by have z':(none:Option HO)=some u:=z;cases z') (λb z=>zX rfl z) λz=>zX rfl z
 | none=>
  refine core (λb=>if b=a then some (.frz { cls:=.type "list",data:=.seq vs.toArray } (.lst (ns.map V.int)))else none) (λb=>?_) (.inl (.inr ⟨{ cls:=.type "list",data:=.seq vs.toArray },qX rfl⟩)) (λb u z=>?_) (λb z=>?_) λ_=>hk
  ·by_cases hb:b=a
   ·exact .inr ⟨_,_,qX hb⟩
   ·exact .inl (qY hb)
  ·by_cases hb:b=a
   ·have z':=(qX hb).symm.trans z
    cases z';subst hb;exact⟨ha,by rw[AC];exact hl,vs,_,rv,ha⟩
   ·have z':=(qY hb).symm.trans z
    cases z'
  ·by_cases hb:b=a
   ·exact hb
   ·exact zX (qY hb) z
theorem dq{l:PySem.W.OpenLaw}{n k:Nat}{q:Ba}{loose:List Str}{XP:(Str->Option AH)->Cu->Prop}{YP:Bx->Cu->Prop}{d:DefRec}{K:Params->AF}{CX:Bx->CXT}{sp:Bx->Sp}{x:Str}
  (hn:l.most=some n) (qF:n<=sizeLine) (u0:d.params.defaults=[]) (hr:Gn k Re)
  (hY:∀(w:Bx) (h:Cu),YP w h->(K w.params).In h)
  (F:∀(w:Bx) (mg:Str->Option AH) (fa:AU) (h:Cu),(K w.params).In h->h.Ns BL mg->mg d.name=some (.ref fa) ->
   ∃fd:Jz,(∀(s:AL) (u:AH),V5 s fd ⟨[u],[]⟩ [(x,u)]) /\
    ∀base:Cu,(K w.params).In base->base.Ns BL mg->Cq l.prog w (K w.params) mg base (CX w) k fa fd [x] (sp w))
  (tG:∀(w:Bx) (H:Hp) (a:AU) (ns:List Int),ns.length<=n->iI H->SqL (K w.params) H a (ns.map V.int)->sp w [.ref a] H (λv _=>v=.bl true) λ_ _ _=>False)
  (vM:∀(w:Bx) (H:Hp) (s:AL) (e:AH) (s':AL),CX w [] H s (λ_ _ _=>False) e s'->False) :
  PySem.W.WalkO q loose XP YP l.row.toRowW d [] (λf vs=>Yc f vs):=by
 refine Att.Vu hn u0 λw s₀ s₁ mg mb fa o pm cd doc a vs ns G Y ho hd rj sW sY hints hlen hg=>?_
 have KX:=hY w _ Y;obtain⟨fd,hb,hF⟩:=F w mg fa _ KX G.T.g sW
 exact b9 KX G.T.g G.T.b G.T.builtins G.T.nolimit hg sY hints (Aw hlen qF) hr hF hb (λH hO hS=>tG w H a ns hlen hO hS) λH e s'=>vM w H s₁ e s'
def KP(s:DB)(j:Nat):DB:=match s with
 | .ClassDef _ _ _ body _ _ _ _ _ _ _=>body.getD j (.Pass ⟨0,0,0,0⟩)
 | _=>.Pass ⟨0,0,0,0⟩
def KW(s:DB):Arguments:=match s with
 | .FunctionDef _ a _ _ _ _ _ _ _ _=>a
 | _=>{ posonlyargs:=[],args:=[],vararg:=none,kwonlyargs:=[],kw_defaults:=[],kwarg:=none,defaults:=[] }
def Hs(s:DB):List DB:=match s with
 | .FunctionDef _ _ b _ _ _ _ _ _ _=>b
 | _=>[]
def Az(s:DB):Rh:=match s with
 | .FunctionDef _ _ _ _ _ _ sc _ _ _=>sc
 | _=>{ kind:=.function,names:=[],isGenerator:=false,isCoroutine:=false }
structure Fun(K:AF)(x qual:Str)(st:DB)(f:AU)(fd:Jz):Prop where
 ex:∃(oc:AH) (od:Option AU) (kV doc pm:AH) (an:Option AU) (qi ct:AH) (rp:Array (Option AH)),
  fd=Hn x qual (KW st) (Hs st) (Az st) .none kV doc pm an qi ct/\K.lookup f=some ⟨oc,od,.func fd,rp⟩/\P5 K qi qual=true
 kp:Eu K (.ref f)=true
section
variable{K:AF}
theorem Fun.binds{x qual}{st}{f}{fd}{ps}(F:Fun K x qual st f fd)
  (h:∀(kV doc pm:AH) (an:Option AU) (qi ct:AH) (us:List AH),us.length=ps.length->dY (Hn x qual (KW st) (Hs st) (Az st) .none kV doc pm an qi ct) ⟨us,[]⟩=pure (ps.zip us)):Binds K fd ps []:=by
 obtain⟨oc,od,kV,doc,pm,an,qi,ct,rp,rfl,lk,rj⟩:=F.ex;exact .all (h kV doc pm an qi ct)
theorem cV{x qual}{st}{f}{oc}{od an}{rp}{kV doc pm qi ct}(l:K.lookup f=some ⟨oc,od,.func (Hn x qual (KW st) (Hs st) (Az st) .none kV doc pm an qi ct),rp⟩)
  (c:P5 K qi qual=true) (k:Eu K (.ref f)=true):Fun K x qual st f (Hn x qual (KW st) (Hs st) (Az st) .none kV doc pm an qi ct):=⟨⟨oc,od,kV,doc,pm,an,qi,ct,rp,rfl,l,c⟩,k⟩
end
section
variable{X:Cx}
theorem pv(i:Nat)(hN:X.N[i]?=some x:=by rfl)(hv:Vis X.env.scope x:=by first | exact Of rfl | exact M2 (Of rfl) | exact M2 (M2 rfl))(hd:(x==("__debug__" : Str))=false:=by decide)
  (rj:(x==("__classdict__" : Str))=false:=by decide):PE X (.Name x pos) (jZ i):=j8 hN hv hd rj
end
inductive D where
 | non | bl (b:Bool) | int (i:Int) | str (x:Str) | tup (ds:List D) | fro (ds:List D) | ref (n:Nat) | exc (C:AU)
def R9(K:AF)(H:Hp)(a:AU)(vs:List V):Prop:=
 (∃o,H a=some (.frz o (.lst vs))) ∨
  ∃(o:Obj) (i':Array AH) (n:Nat),K.lookup a=some o/\o.cls=.type "list"/\o.dict=none/\o.data=.seq i' n/\i'.size<=sizeLine/\Bn vs i'.toList
theorem R9.sq{K}{H}{a}{vs}(h:R9 K H a vs):SqL K H a vs:=by
 rcases h with h | h
 ·exact .inl (.inr h)
 ·exact .inr h
def ExcO(o:Obj)(C:AU):Prop:=o.cls=.ref C/\o.dict=none/\∃vs,o.data=.fields vs
mutual
inductive Bo(K:AF)(ρ:List AU)(H:Hp):D->V->Prop where
 | non:Bo K ρ H .non .non
 | bl (b:Bool):Bo K ρ H (.bl b) (.bl b)
 | int (i:Int):Bo K ρ H (.int i) (.int i)
 | str (x:Str):Bo K ρ H (.str x) (.str x)
 | tup {ds:List D} {a:AU} {vs:List V}:H a=some (.tup vs)->Am K ρ H ds vs->Bo K ρ H (.tup ds) (.ref a)
 | fro {ds:List D} {a:AU} {vs:List V}:R9 K H a vs->Am K ρ H ds vs->Bo K ρ H (.fro ds) (.ref a)
 | ref {n:Nat} {a:AU}:ρ[n]?=some a->Bo K ρ H (.ref n) (.ref a)
 | exc {C a:AU} {o:Obj} {u:HO}:H a=some (.frz o u)->ExcO o C->Bo K ρ H (.exc C) (.ref a)
inductive Am(K:AF)(ρ:List AU)(H:Hp):List D->List V->Prop where
 | nil:Am K ρ H [] []
 | cons {d:D} {v:V} {ds:List D} {vs:List V}:Bo K ρ H d v->Am K ρ H ds vs->Am K ρ H (d :: ds) (v :: vs)
end
structure Le(K:AF)(ρ:List AU)(H:Hp)(ρ':List AU)(H':Hp):Prop where
 pre:∀(n:Nat) a,ρ[n]?=some a->ρ'[n]?=some a
 tup:∀a xs,H a=some (.tup xs)->H' a=some (.tup xs)
 frz:∀a o u,H a=some (.frz o u)->H' a=some (.frz o u)
 oth:∀a o,H a=some o->(∀n:Nat,ρ[n]?≠some a)->H' a=some o/\∀n:Nat,ρ'[n]?≠some a
theorem R9.mono{K}{H H'}{a}{xs}(l:∀a o u,H a=some (.frz o u)->H' a=some (.frz o u))(h:R9 K H a xs):R9 K H' a xs:=by
 rcases h with⟨o,h⟩ | h
 ·exact .inl ⟨o,l _ _ _ h⟩
 ·exact .inr h
section
variable{K:AF}{ρ ρ' ρ'':List AU}{H H' rE:Hp}
theorem Le.fro(l:Le K ρ H ρ' H'):∀a xs,R9 K H a xs->R9 K H' a xs:=λ_ _ h=>h.mono l.frz
theorem Le.refl:Le K ρ H ρ H:=⟨λ_ _ h=>h,λ_ _ h=>h,λ_ _ _ h=>h,λ_ _ h n=>⟨h,n⟩⟩
theorem Le.trans(a:Le K ρ H ρ' H')(b:Le K ρ' H' ρ'' rE):Le K ρ H ρ'' rE:=
 ⟨λn x h=>b.pre n x (a.pre n x h),λx xs h=>b.tup x xs (a.tup x xs h),λx o u h=>b.frz x o u (a.frz x o u h),λx o h n=>b.oth x o (a.oth x o h n).1 (a.oth x o h n).2⟩
mutual
theorem Bo.mono(l:Le K ρ H ρ' H'):∀{d:D} {v:V},Bo K ρ H d v->Bo K ρ' H' d v
 | _,_,.non=>.non
 | _,_,.bl b=>.bl b
 | _,_,.int i=>.int i
 | _,_,.str x=>.str x
 | _,_,.tup h r=>.tup (l.tup _ _ h) (Am.mono l r)
 | _,_,.fro h r=>.fro (l.fro _ _ h) (Am.mono l r)
 | _,_,.ref h=>.ref (l.pre _ _ h)
 | _,_,.exc h e=>.exc (l.frz _ _ _ h) e
theorem Am.mono(l:Le K ρ H ρ' H'):∀{ds:List D} {vs:List V},Am K ρ H ds vs->Am K ρ' H' ds vs
 | _,_,.nil=>.nil
 | _,_,.cons r t=>.cons (Bo.mono l r) (Am.mono l t)
end
mutual
theorem Bo.more(l:∀(n:Nat) a,ρ[n]?=some a->ρ'[n]?=some a):∀{d:D} {v:V},Bo K ρ H d v->Bo K ρ' H d v
 | _,_,.non=>.non
 | _,_,.bl b=>.bl b
 | _,_,.int i=>.int i
 | _,_,.str x=>.str x
 | _,_,.tup h r=>.tup h (Am.more l r)
 | _,_,.fro h r=>.fro h (Am.more l r)
 | _,_,.ref h=>.ref (l _ _ h)
 | _,_,.exc h e=>.exc h e
theorem Am.more(l:∀(n:Nat) a,ρ[n]?=some a->ρ'[n]?=some a):∀{ds:List D} {vs:List V},Am K ρ H ds vs->Am K ρ' H ds vs
 | _,_,.nil=>.nil
 | _,_,.cons r t=>.cons (Bo.more l r) (Am.more l t)
end
mutual
theorem Bo.keep(h1:∀a xs,H a=some (.tup xs)->H' a=some (.tup xs))(h2:∀a o u,H a=some (.frz o u)->H' a=some (.frz o u)):∀{d:D} {v:V},Bo K ρ H d v->Bo K ρ H' d v
 | _,_,.non=>.non
 | _,_,.bl b=>.bl b
 | _,_,.int i=>.int i
 | _,_,.str x=>.str x
 | _,_,.tup h r=>.tup (h1 _ _ h) (Am.keep h1 h2 r)
 | _,_,.fro h r=>.fro (h.mono h2) (Am.keep h1 h2 r)
 | _,_,.ref h=>.ref h
 | _,_,.exc h e=>.exc (h2 _ _ _ h) e
theorem Am.keep(h1:∀a xs,H a=some (.tup xs)->H' a=some (.tup xs))(h2:∀a o u,H a=some (.frz o u)->H' a=some (.frz o u)):∀{ds:List D} {vs:List V},Am K ρ H ds vs->Am K ρ H' ds vs
 | _,_,.nil=>.nil
 | _,_,.cons r t=>.cons (Bo.keep h1 h2 r) (Am.keep h1 h2 t)
end
theorem Am.length:∀{ds:List D} {vs:List V},Am K ρ H ds vs->ds.length=vs.length
 | _,_,.nil=>rfl
 | _,_,.cons _ t=>by rw[Aj,Aj,Am.length t]
theorem Am.get:∀{ds:List D} {vs:List V} {i:Nat} {d:D},Am K ρ H ds vs->ds[i]?=some d->∃v,vs[i]?=some v/\Bo K ρ H d v
 | _,_,_,_,.nil,e=>by simp at e
 | _,_,0,_,.cons r _,e=>by simp at e;subst e;exact⟨_,rfl,r⟩
 | _,_,i+1,d,.cons _ t,e=>by
  obtain⟨v,h1,h2⟩:=Am.get (i:=i) (d:=d) t (by simpa using e);exact⟨v,by simpa using h1,h2⟩
theorem Am.get':∀{ds:List D} {vs:List V} {i:Nat} {v:V},Am K ρ H ds vs->vs[i]?=some v->∃d,ds[i]?=some d/\Bo K ρ H d v
 | _,_,_,_,.nil,e=>by simp at e
 | _,_,0,_,.cons r _,e=>by simp at e;subst e;exact⟨_,rfl,r⟩
 | _,_,i+1,d,.cons _ t,e=>by
  obtain⟨v,h1,h2⟩:=Am.get' (i:=i) (v:=d) t (by simpa using e);exact⟨v,by simpa using h1,h2⟩
theorem Am.append:∀{ds es:List D} {vs us:List V},Am K ρ H ds vs->Am K ρ H es us->Am K ρ H (ds++es) (vs++us)
 | _,_,_,_,.nil,s=>s
 | _,_,_,_,.cons r t,s=>.cons r (Am.append t s)
theorem Am.take:∀{ds:List D} {vs:List V} (n:Nat),Am K ρ H ds vs->Am K ρ H (ds.take n) (vs.take n)
 | _,_,0,_=>.nil
 | _,_,_+1,.nil=>.nil
 | _,_,n+1,.cons r t=>.cons r (Am.take n t)
theorem Am.drop:∀{ds:List D} {vs:List V} (n:Nat),Am K ρ H ds vs->Am K ρ H (ds.drop n) (vs.drop n)
 | _,_,0,r=>r
 | _,_,_+1,.nil=>.nil
 | _,_,n+1,.cons _ t=>Am.drop n t
theorem Am.set(r:Bo K ρ H d v):∀{ds:List D} {vs:List V} (i:Nat),Am K ρ H ds vs->Am K ρ H (ds.set i d) (vs.set i v)
 | _,_,_,.nil=>.nil
 | _,_,0,.cons _ t=>.cons r t
 | _,_,i+1,.cons q t=>.cons q (Am.set r i t)
theorem Am.of_ints:∀(ns:List Int),Am K ρ H (ns.map D.int) (ns.map V.int)
 | []=>.nil
 | n :: ns=>.cons (.int n) (Am.of_ints ns)
theorem Am.ints:∀{ns:List Int} {vs:List V},Am K ρ H (ns.map D.int) vs->vs=ns.map V.int
 | [],_,.nil=>rfl
 | n :: ns,_,.cons r t=>by
  cases r;rw[Am.ints (ns:=ns) t];rfl
end
inductive Ob where
 | lst (ds:List D)
 | dK (f':List (Key×D))
 | dT (f':List (List Key×D))
 | ins (C:AU) (fs:List (Str×D))
 | fK (f':List (Key×D))
 | fT (f':List (List Key×D))
 | mem (L:Key->Int)
abbrev Sto:=List Ob
def Ts:List Key:=(C9 1000).map λ(i:Nat)=>DR (i:Int)
abbrev KVR{κ:Type}(K:AF)(ρ:List AU)(H:Hp):List (κ×D)->List (κ×V)->Prop:=Fj λ(p:κ×D) (q:κ×V)=>p.1=q.1/\Bo K ρ H p.2 q.2
def Do(K:AF)(ρ:List AU)(H:Hp)(a:AU):Ob->Prop
 | .lst ds=>∃vs,H a=some (.lst vs)/\Am K ρ H ds vs
 | .dK f'=>∃p8,H a=some (.dK p8)/\KVR K ρ H f' p8
 | .dT f'=>∃p8,H a=some (.dT p8)/\KVR K ρ H f' p8
 | .ins C fs=>∃dx rP,H a=some (.ins C dx rP)/\KVR K ρ H fs rP
 | .fK f'=>∃ob p8,H a=some (.frz ob (.dK p8))/\KVR K ρ H f' p8
 | .fT f'=>∃ob p8,H a=some (.frz ob (.dT p8))/\KVR K ρ H f' p8
 | .mem L=>∃p8,H a=some (.dK p8)/\(p8.map (·.1)).Nodup/\∀x∈p8,x.1∈Ts/\x.2=V.int (L x.1)
structure B2(K:AF)(ρ:List AU)(S:Sto)(H:Hp):Prop where
 len:ρ.length=S.length
 nd:∀(i j:Nat) a,ρ[i]?=some a->ρ[j]?=some a->i=j
 ob:∀(n:Nat) o a,S[n]?=some o->ρ[n]?=some a->Do K ρ H a o
section
variable{K:AF}{ρ ρ':List AU}{H H':Hp}{S:Sto}{a p:AU}{o:Ob}{n:Nat}{ho:HO}
theorem KVR.mono{κ:Type}(l:Le K ρ H ρ' H'){x:List (κ×D)}{y:List (κ×V)}(h:KVR K ρ H x y):KVR K ρ' H' x y:=Fj.mapP h λ_ _ z=>⟨z.1,z.2.mono l⟩
theorem KVR.keys{κ:Type}:∀{x:List (κ×D)} {y:List (κ×V)},KVR K ρ H x y->x.map (·.1)=y.map (·.1)
 | _,_,.nil=>rfl
 | _,_,.cons r t=>by rw[A9,A9,r.1,KVR.keys t]
theorem Do.has(h:Do K ρ H a o):H a≠none:=by
 cases o with
 | lst ds=>obtain⟨_,e,_⟩:=h;rw[e];exact λz=>nomatch z
 | dK ds=>obtain⟨_,e,_⟩:=h;rw[e];exact λz=>nomatch z
 | dT ds=>obtain⟨_,e,_⟩:=h;rw[e];exact λz=>nomatch z
 | ins C fs=>obtain⟨_,_,e,_⟩:=h;rw[e];exact λz=>nomatch z
 | fK ds=>obtain⟨_,_,e,_⟩:=h;rw[e];exact λz=>nomatch z
 | fT ds=>obtain⟨_,_,e,_⟩:=h;rw[e];exact λz=>nomatch z
 | mem L=>obtain⟨_,e,_⟩:=h;rw[e];exact λz=>nomatch z
theorem Do.mono(l:Le K ρ H ρ' H')(e:H' a=H a)(h:Do K ρ H a o):Do K ρ' H' a o:=by
 cases o with
 | lst ds=>obtain⟨vs,h1,h2⟩:=h;exact⟨vs,e.trans h1,h2.mono l⟩
 | dK ds=>obtain⟨vs,h1,h2⟩:=h;exact⟨vs,e.trans h1,h2.mono l⟩
 | dT ds=>obtain⟨vs,h1,h2⟩:=h;exact⟨vs,e.trans h1,h2.mono l⟩
 | ins C fs=>obtain⟨dx,vs,h1,h2⟩:=h;exact⟨dx,vs,e.trans h1,h2.mono l⟩
 | fK ds=>obtain⟨dx,vs,h1,h2⟩:=h;exact⟨dx,vs,e.trans h1,h2.mono l⟩
 | fT ds=>obtain⟨dx,vs,h1,h2⟩:=h;exact⟨dx,vs,e.trans h1,h2.mono l⟩
 | mem L=>obtain⟨vs,h1,h2⟩:=h;exact⟨vs,e.trans h1,h2⟩
theorem Do.keep(h1:∀a xs,H a=some (.tup xs)->H' a=some (.tup xs))(h2:∀a o u,H a=some (.frz o u)->H' a=some (.frz o u))(e:H' a=H a)(h:Do K ρ H a o):Do K ρ H' a o:=by
 cases o with
 | lst ds=>obtain⟨vs,q1,q2⟩:=h;exact⟨vs,e.trans q1,q2.keep h1 h2⟩
 | dK ds=>obtain⟨vs,q1,q2⟩:=h;exact⟨vs,e.trans q1,Fj.mapP q2 λ_ _ z=>⟨z.1,z.2.keep h1 h2⟩⟩
 | dT ds=>obtain⟨vs,q1,q2⟩:=h;exact⟨vs,e.trans q1,Fj.mapP q2 λ_ _ z=>⟨z.1,z.2.keep h1 h2⟩⟩
 | ins C fs=>obtain⟨dx,vs,q1,q2⟩:=h;exact⟨dx,vs,e.trans q1,Fj.mapP q2 λ_ _ z=>⟨z.1,z.2.keep h1 h2⟩⟩
 | fK ds=>obtain⟨dx,vs,q1,q2⟩:=h;exact⟨dx,vs,e.trans q1,Fj.mapP q2 λ_ _ z=>⟨z.1,z.2.keep h1 h2⟩⟩
 | fT ds=>obtain⟨dx,vs,q1,q2⟩:=h;exact⟨dx,vs,e.trans q1,Fj.mapP q2 λ_ _ z=>⟨z.1,z.2.keep h1 h2⟩⟩
 | mem L=>obtain⟨vs,q1,q2⟩:=h;exact⟨vs,e.trans q1,q2⟩
theorem Do.mono'(l:∀(n:Nat) a,ρ[n]?=some a->ρ'[n]?=some a)(h:Do K ρ H a o):Do K ρ' H a o:=by
 cases o with
 | lst ds=>obtain⟨vs,h1,h2⟩:=h;exact⟨vs,h1,h2.more l⟩
 | dK ds=>obtain⟨vs,h1,h2⟩:=h;exact⟨vs,h1,Fj.mapP h2 λ_ _ z=>⟨z.1,z.2.more l⟩⟩
 | dT ds=>obtain⟨vs,h1,h2⟩:=h;exact⟨vs,h1,Fj.mapP h2 λ_ _ z=>⟨z.1,z.2.more l⟩⟩
 | ins C fs=>obtain⟨dx,vs,h1,h2⟩:=h;exact⟨dx,vs,h1,Fj.mapP h2 λ_ _ z=>⟨z.1,z.2.more l⟩⟩
 | fK ds=>obtain⟨dx,vs,h1,h2⟩:=h;exact⟨dx,vs,h1,Fj.mapP h2 λ_ _ z=>⟨z.1,z.2.more l⟩⟩
 | fT ds=>obtain⟨dx,vs,h1,h2⟩:=h;exact⟨dx,vs,h1,Fj.mapP h2 λ_ _ z=>⟨z.1,z.2.more l⟩⟩
 | mem L=>exact h
theorem GY(hp:H p=none∨Mut (H p)):(∀a xs,H a=some (.tup xs)->upd H p ho a=some (.tup xs))/\∀a o u,H a=some (.frz o u)->upd H p ho a=some (.frz o u):=by
 have ne:∀a u,H a=some u->¬Mut (some u)->a≠p:=λa u e nm z=>by
  subst z
  rcases hp with h | h
  ·rw[e]at h;cases h
  ·rw[e]at h;exact nm h
 refine⟨λa xs e=>?_,λa o u e=>?_⟩
 ·rw[BX (ne a _ e λz=>z)];exact e
 ·rw[BX (ne a _ e λz=>z)];exact e
theorem Le.fresh(hp:H p=none):Le K ρ H ρ (upd H p ho):=
 ⟨λ_ _ h=>h,(GY (.inl hp)).1,(GY (.inl hp)).2,λa o e n=>⟨by rw[BX (CP e hp)];exact e,n⟩⟩
theorem Le.write(hn:ρ[n]?=some p)(hm:Mut (H p)):Le K ρ H ρ (upd H p ho):=
 ⟨λ_ _ h=>h,(GY (.inr hm)).1,(GY (.inr hm)).2,λa o e h=>⟨by rw[BX λz=>h n (by rw[z];exact hn)];exact e,h⟩⟩
theorem IX{α:Type}{l:List α}{x:α}{m:Nat}{a:α}(e:(l++[x])[m]?=some a):(l[m]?=some a/\m < l.length)∨(m=l.length/\a=x):=by
 by_cases hm:m < l.length
 ·rw[Ao hm]at e;exact .inl ⟨e,hm⟩
 ·rw[Bg (by lia)]at e
  have:m - l.length=0:=by
   have:=(AE.mp e).1;simp at this;omega
  rw[this]at e;exact .inr ⟨by lia,by simpa using e.symm⟩
theorem Le.alloc(hp:H p=none):Le K ρ H (ρ++[p]) (upd H p ho):=by
 refine⟨λn a h=>by rw[Ao (AE.mp h).1];exact h,(GY (.inl hp)).1,(GY (.inl hp)).2,λa o e h=>⟨by rw[BX (CP e hp)];exact e,λn q=>?_⟩⟩
 rcases IX q with⟨q,_⟩ | ⟨_,q⟩
 ·exact h n q
 ·exact CP e hp q
theorem B2.at(h:B2 K ρ S H)(e:S[n]?=some o):∃a,ρ[n]?=some a/\Do K ρ H a o:=by
 have hn:n < ρ.length:=by rw[h.len];exact(AE.mp e).1
 exact⟨ρ[n],by simp[hn],h.ob n o _ e (by simp[hn])⟩
theorem B2.there(h:B2 K ρ S H){m:Nat}(e:ρ[m]?=some a):∃o,S[m]?=some o/\Do K ρ H a o:=by
 have hn:m < S.length:=by rw[<-h.len];exact(AE.mp e).1
 exact⟨S[m],by simp[hn],h.ob m _ a (by simp[hn]) e⟩
theorem B2.notIn(h:B2 K ρ S H)(hp:H p=none){m:Nat}(e:ρ[m]?=some p):False:=by
 obtain⟨o,_,r⟩:=h.there e;exact r.has hp
theorem B2.alloc(h:B2 K ρ S H)(hp:H p=none)(u6:Do K (ρ++[p]) (upd H p ho) p o):B2 K (ρ++[p]) (S++[o]) (upd H p ho)/\Le K ρ H (ρ++[p]) (upd H p ho)/\(ρ++[p])[S.length]?=some p:=by
 have le:Le K ρ H (ρ++[p]) (upd H p ho):=Le.alloc hp
 have at':∀(m:Nat) a,(ρ++[p])[m]?=some a->(ρ[m]?=some a/\m < ρ.length)∨(m=ρ.length/\a=p):=λm a e=>IX e
 refine⟨⟨by simp[h.len],λi j a hi hj=>?_,λm ob a hm ha=>?_⟩,le,by rw[<-h.len];simp⟩
 ·rcases at' i a hi with⟨rR,_⟩ | ⟨rR,ea⟩ <;> rcases at' j a hj with⟨hj1,_⟩ | ⟨hj1,ea'⟩
  ·exact h.nd i j a rR hj1
  ·rw[ea']at rR;exact(h.notIn hp rR).elim
  ·rw[ea]at hj1;exact(h.notIn hp hj1).elim
  ·lia
 ·rcases at' m a ha with⟨ha1,qt⟩ | ⟨rfl,rfl⟩
  ·rw[Ao (by rw[<-h.len];exact qt)]at hm
   refine(h.ob m ob a hm ha1).mono le (BX λz=>?_);rw[z]at ha1;exact h.notIn hp ha1
  ·rw[h.len]at hm
   simp at hm;subst hm;exact u6
theorem B2.write(h:B2 K ρ S H)(hn:ρ[n]?=some a)(u6:Do K ρ (upd H a ho) a o)(le:Le K ρ H ρ (upd H a ho)):B2 K ρ (S.set n o) (upd H a ho)/\Le K ρ H ρ (upd H a ho):=by
 refine⟨⟨by simp[h.len],h.nd,λm ob b hm hb=>?_⟩,le⟩
 by_cases e:m=n
 ·subst e
  rw[hn]at hb;cases hb;rw[Ai (by rw[<-h.len];exact(AE.mp hn).1)]at hm;cases hm;exact u6
 ·rw[AY (CF e)]at hm
  refine(h.ob m ob b hm hb).mono le (BX λz=>?_);subst z;exact e (h.nd m n b hb hn)
theorem Le.back{S':Sto}(l:Le K ρ H ρ' H')(s:B2 K ρ S H)(s':B2 K ρ' S' H')(hp:H' p=none):H p=none:=by
 cases q:H p with
 | none=>rfl
 | some o=>
  by_cases hn:∃n:Nat,ρ[n]?=some p
  ·obtain⟨n,hn⟩:=hn
   exact(s'.notIn hp (l.pre n p hn)).elim
  ·have:=(l.oth p o q λn h=>hn ⟨n,h⟩).1
   rw[hp]at this;cases this
theorem B2.adopt(h:B2 K ρ S H)(hn:∀m:Nat,ρ[m]?≠some p)(u6:Do K (ρ++[p]) H p o):B2 K (ρ++[p]) (S++[o]) H/\(ρ++[p])[S.length]?=some p:=by
 have le:∀a ob,Do K ρ H a ob->Do K (ρ++[p]) H a ob:=λa ob r=>by
  have l0:∀(n:Nat) a,ρ[n]?=some a->(ρ++[p])[n]?=some a:=λn a h=>by rw[Ao (AE.mp h).1];exact h
  exact r.mono' l0
 refine⟨⟨by simp[h.len],λi j a hi hj=>?_,λm ob a hm ha=>?_⟩,by rw[<-h.len];simp⟩
 ·rcases IX hi with⟨rR,_⟩ | ⟨rR,ea⟩ <;> rcases IX hj with⟨hj1,_⟩ | ⟨hj1,ea'⟩
  ·exact h.nd i j a rR hj1
  ·rw[ea']at rR;exact(hn i rR).elim
  ·rw[ea]at hj1;exact(hn j hj1).elim
  ·lia
 ·rcases IX ha with⟨ha,qt⟩ | ⟨rfl,rfl⟩
  ·rw[Ao (by rw[<-h.len];exact qt)]at hm
   exact le a ob (h.ob m ob a hm ha)
  ·rw[h.len]at hm
   simp at hm;subst hm;exact u6
end
inductive Res(α:Type) where
 | ok (a:α) (S:Sto) | err (c:AU) (S:Sto) | bad
def Res.bind{α β:Type}(r:Res α)(f:α->Sto->Res β):Res β:=match r with
 | .ok a S=>f a S
 | .err c S=>.err c S
 | .bad=>.bad
abbrev Lo:=List (Option D)
abbrev ME:=Lo->Sto->Res D
abbrev MT:=Lo->Sto->Res Bool
abbrev ML:=Lo->Sto->Res (List D)
inductive Fl where
 | nx (e:Lo) | rt (d:D) | bk (e:Lo) | ct (e:Lo) | ex (c:AU) (e:Lo)
abbrev MS:=Lo->Sto->Res Fl
abbrev MG:=D->Lo->Sto->Res Lo
abbrev Pd:=Sto->Option (List D)
abbrev MI:=Lo->Sto->Res Pd
structure Ff(K:AF)(ρ:List AU)(H:Hp)(e:Lo)(σ:St):Prop where
 len:e.length=σ.length
 at':∀(i:Nat) d,e[i]?=some (some d)->∃v,σ[i]?=some (some v)/\Bo K ρ H d v
section
variable{K:AF}{ρ ρ':List AU}{H H':Hp}{e:Lo}{σ:St}
theorem Ff.mono(l:Le K ρ H ρ' H')(h:Ff K ρ H e σ):Ff K ρ' H' e σ:=⟨h.len,λi d q=>by
 obtain⟨v,h1,h2⟩:=h.at' i d q
 exact⟨v,h1,h2.mono l⟩⟩
theorem Ff.set(h:Ff K ρ H e σ)(r:Bo K ρ H d v)(i:Nat):Ff K ρ H (e.set i (some d)) (σ.set i (some v)):=by
 refine⟨by simp[h.len],λj d' q=>?_⟩
 by_cases hj:i=j
 ·subst hj
  have hi:i < e.length:=by
   have:=(AE.mp q).1;simpa using this
  rw[Ai hi]at q;cases q;exact⟨v,by rw[Ai (by rw[<-h.len];exact hi)],r⟩
 ·rw[AY hj]at q ⊢
  exact h.at' j d' q
end
abbrev EW:=AU->St->Hp->Prop
abbrev EH:=AU->Hp->Prop
abbrev noE:EW:=λ_ _ _=>False
abbrev noH:EH:=λ_ _=>False
def CD{α:Type}(K:AF)(E:EH)(ρ:List AU)(H:Hp)(r:Res α)(k:α->Sto->Prop):Prop:=match r with
 | .ok a S=>k a S
 | .err c S=>∀ρ' H',Le K ρ H ρ' H'->B2 K ρ' S H'->E c H'
 | .bad=>False
section
variable{K:AF}{E:EH}{ρ ρ1:List AU}{H H1:Hp}
theorem CD.seq(h:CD K E ρ H (r.bind F) k)(f:∀a S,CD K E ρ H (F a S) k->k' a S):CD K E ρ H r k':=by
 cases r with
 | ok a S=>exact f a S h
 | err c S=>exact h
 | bad=>exact h
theorem CD.later(h:CD K E ρ H r k)(l:Le K ρ H ρ1 H1):CD K E ρ1 H1 r k:=by
 cases r with
 | ok a S=>exact h
 | err c S=>exact λρ' H' l'=>h ρ' H' (l.trans l')
 | bad=>exact h
theorem CD.imp(h:CD K E ρ H r k)(f:∀a S,k a S->k' a S):CD K E ρ H r k':=by
 cases r with
 | ok a S=>exact f a S h
 | err c S=>exact h
 | bad=>exact h
theorem CD.go(h:CD K E ρ H r k)(l:Le K ρ H ρ1 H1)(f:∀a S,k a S->k' a S):CD K E ρ1 H1 r k':=(h.later l).imp f
end
def okR{α:Type}:Res α->Res α
 | .ok a S=>.ok a S
 | _=>.bad
theorem CD.okR{α:Type}{K:AF}{E:EH}{ρ:List AU}{H:Hp}{r:Res α}{k:α->Sto->Prop}(h:CD K E ρ H (L2.okR r) k):∃a S,r=.ok a S/\k a S:=by
 cases r with
 | ok a S=>exact⟨a,S,rfl,h⟩
 | err c S=>exact h.elim
 | bad=>exact h.elim
section
variable(K:AF)(E:EW)
def gE(m:ME):TE:=λσ H Q=>∃ρ e S,Ff K ρ H e σ/\B2 K ρ S H/\CD K (λc=>E c σ) ρ H (m e S) λd S'=>∀ρ' H' x,Le K ρ H ρ' H'->B2 K ρ' S' H'->Bo K ρ' H' d x->Q x H'
def gT(m:MT):TT:=λσ H Q=>∃ρ e S,Ff K ρ H e σ/\B2 K ρ S H/\CD K (λc=>E c σ) ρ H (m e S) λb S'=>∀ρ' H',Le K ρ H ρ' H'->B2 K ρ' S' H'->Q b H'
def gA(m:ML):TA:=λσ H Q=>∃ρ e S,Ff K ρ H e σ/\B2 K ρ S H/\CD K (λc=>E c σ) ρ H (m e S) λds S'=>∀ρ' H' xs,Le K ρ H ρ' H'->B2 K ρ' S' H'->Am K ρ' H' ds xs->Q xs H'
def gL(m:ML):TE:=λσ H Q=>∃ρ e S,Ff K ρ H e σ/\B2 K ρ S H/\CD K (λc=>E c σ) ρ H (m e S) λds S'=>∀ρ' H' p xs,Le K ρ H ρ' H'->B2 K ρ' S' H'->Am K ρ' H' ds xs->H' p=some (.lst xs)->(∀n:Nat,ρ'[n]?≠some p)->H p=none->Q (.ref p) H'
def gQ(m:ML):TE:=λσ H Q=>∃ρ e S,Ff K ρ H e σ/\B2 K ρ S H/\CD K (λc=>E c σ) ρ H (m e S) λds S'=>∀ρ' H' p xs,Le K ρ H ρ' H'->B2 K ρ' S' H'->Am K ρ' H' ds xs->(SqL K H' p xs∨SqT K H' p xs)->Q (.ref p) H'
def Pb(K:AF)(E:EW)(ρ:List AU)(H:Hp)(S':Sto)(D:Zv):Fl->Prop
 | .ex c e'=>∀ρ' H' σ',Le K ρ H ρ' H'->B2 K ρ' S' H'->Ff K ρ' H' e' σ'->E c σ' H'
 | .nx e'=>∀ρ' H' σ',Le K ρ H ρ' H'->B2 K ρ' S' H'->Ff K ρ' H' e' σ'->D.nx σ' H'
 | .bk e'=>∀ρ' H' σ',Le K ρ H ρ' H'->B2 K ρ' S' H'->Ff K ρ' H' e' σ'->D.bk σ' H'
 | .ct e'=>∀ρ' H' σ',Le K ρ H ρ' H'->B2 K ρ' S' H'->Ff K ρ' H' e' σ'->D.ct σ' H'
 | .rt d=>∀ρ' H' x,Le K ρ H ρ' H'->B2 K ρ' S' H'->Bo K ρ' H' d x->D.rt x H'
def gS(m:MS):TS:=λD σ H=>∃ρ e S,Ff K ρ H e σ/\B2 K ρ S H/\CD K noH ρ H (m e S) λfl S'=>Pb K E ρ H S' D fl
def gG(m:MG):TG:=λv σ H Q=>∃ρ e S d,Bo K ρ H d v/\Ff K ρ H e σ/\B2 K ρ S H/\CD K noH ρ H (m d e S) λe' S'=>∀ρ' H' σ',Le K ρ H ρ' H'->B2 K ρ' S' H'->Ff K ρ' H' e' σ'->Q σ' H'
def Mv(ρ0:List AU)(H0:Hp)(J:It)(v:Pd):Prop:=∀ρ H S ds (i:Nat),Le K ρ0 H0 ρ H->B2 K ρ S H->v S=some ds ->
 (ds[i]?=none->J.stop i H)/\∀d,ds[i]?=some d->J.go i H/\∀x H',J.yld i H x H'->∃ρ',Le K ρ H ρ' H'/\B2 K ρ' S H'/\Bo K ρ' H' d x
def gI(m:MI):TI:=λσ H R=>∃ρ e S,Ff K ρ H e σ/\B2 K ρ S H/\CD K (λc=>E c σ) ρ H (m e S) λv S'=>∀ρ' H' J,Le K ρ H ρ' H'->B2 K ρ' S' H'->Mv K ρ' H' J v->R J H'
end
abbrev GE(X:Cx)(E:EW)(e:Expr)(m:ME):Prop:=PE X e (gE X.K E m)
abbrev GT(X:Cx)(E:EW)(e:Expr)(m:MT):Prop:=PT X e (gT X.K E m)
abbrev GA(X:Cx)(E:EW)(es:List Expr)(m:ML):Prop:=PA X es (gA X.K E m)
abbrev GL(X:Cx)(E:EW)(e:Expr)(m:ML):Prop:=PE X e (gL X.K E m)
abbrev GQ(X:Cx)(E:EW)(e:Expr)(m:ML):Prop:=PE X e (gQ X.K E m)
abbrev GS(X:Cx)(E:EW)(s:DB)(m:MS):Prop:=PS X s (gS X.K E m)
abbrev GSs(X:Cx)(E:EW)(s:List DB)(m:MS):Prop:=PSs X s (gS X.K E m)
abbrev GG(X:Cx)(t:Expr)(m:MG):Prop:=PG X t (gG X.K m)
abbrev GI(X:Cx)(E:EW)(tg t:Expr)(m:MI):Prop:=PI X tg t (gI X.K E m)
theorem PE.imp(h:PE X e t)(i:∀σ H Q,t' σ H Q->t σ H Q):PE X e t':=λζ s σ H Q I q=>h ζ s σ H Q I (i σ H Q q)
theorem PT.imp(h:PT X e t)(i:∀σ H Q,t' σ H Q->t σ H Q):PT X e t':=λζ s σ H Q I q=>h ζ s σ H Q I (i σ H Q q)
theorem PW.imp(h:PW X e t)(i:∀σ H Q,t' σ H Q->t σ H Q):PW X e t':=λwh ζ s σ H Q I q=>h wh ζ s σ H Q I (i σ H Q q)
theorem PA.imp(h:PA X e t)(i:∀σ H Q,t' σ H Q->t σ H Q):PA X e t':=λpos ζ s σ H Q I q=>h pos ζ s σ H Q I (i σ H Q q)
theorem PS.imp(h:PS X e t)(i:∀D σ H,t' D σ H->t D σ H):PS X e t':=λζ s σ H D I q=>h ζ s σ H D I (i D σ H q)
theorem PSs.imp(h:PSs X e t)(i:∀D σ H,t' D σ H->t D σ H):PSs X e t':=λζ s σ H D I q=>h ζ s σ H D I (i D σ H q)
theorem PG.imp(h:PG X e t)(i:∀v σ H Q,t' v σ H Q->t v σ H Q):PG X e t':=λζ s σ H v u Q I r q=>h ζ s σ H v u Q I r (i v σ H Q q)
theorem PI.imp(h:PI X tg e t)(i:∀σ H R,t' σ H R->t σ H R):PI X tg e t':=λζ s σ H R I q=>h ζ s σ H R I (i σ H R q)
theorem OpR.imp(h:OpR X f r)(i:∀x y H Q,r' x y H Q->r x y H Q):OpR X f r':=λζ s σ H x y v u Q I rx ry q=>h ζ s σ H x y v u Q I rx ry (i x y H Q q)
theorem IxR.imp(h:IxR X r)(i:∀x y H Q,r' x y H Q->r x y H Q):IxR X r':=λva sl ζ s σ H x y v u Q I rx ry q=>h va sl ζ s σ H x y v u Q I rx ry (i x y H Q q)
def AD(i:Nat):ME:=λe S=>match e[i]? with
 | some (some d)=>.ok d S
 | _=>.bad
def mC(d:D):ME:=λ_ S=>.ok d S
section
variable{X:Cx}{E:EW}{e a b:Expr}{pos:Pos}{ma mb:ME}
theorem AA(h:PE X e (jZ i)):GE X E e (AD i):=h.imp λσ H Q ⟨ρ,l,S,hl,hs,hm⟩=>by
 unfold AD at hm;split at hm
 ·rename_i d' hd
  obtain⟨v,h1,h2⟩:=hl.at' i _ hd;exact⟨v,h1,hm ρ H v .refl hs h2⟩
 ·exact hm.elim
theorem gl(h:PE X e (tC v))(hd:∀ρ H,Bo X.K ρ H d v):GE X E e (mC d):=h.imp λσ H Q ⟨ρ,l,S,hl,hs,hm⟩=>by
 exact hm ρ H v .refl hs (hd _ _)
theorem ge_int{i j pos}:GE X E (.Constant (.int i) j pos) (mC (.int i)):=gl kE λ_ _=>.int i
theorem RB{b j pos}:GE X E (.Constant (.bool b) j pos) (mC (.bl b)):=gl n9 λ_ _=>.bl b
theorem OT{x j pos}:GE X E (.Constant (.str x) j pos) (mC (.str x)):=gl kA λ_ _=>.str x
theorem Q9(hg:Gl X x)(hm:X.mg x=some (.int i tk))(hd:(x==("__debug__" : Str))=false:=by decide):GE X E (.Name x pos) (mC (.int i)):=
 gl (fX (v:=.int i) hg hm ⟨tk,rfl⟩ hd) λ_ _=>.int i
def m2(f:D->D->Sto->Res D)(ma mb:ME):ME:=λe S=>(ma e S).bind λx S1=>(mb e S1).bind λy S2=>okR (f x y S2)
def rD(K:AF)(f:D->D->Sto->Res D):R2:=λu v H Q=>∃ρ S x y d S',B2 K ρ S H/\Bo K ρ H x u/\Bo K ρ H y v/\f x y S=.ok d S' /\
 ∀ρ' H' z,Le K ρ H ρ' H'->B2 K ρ' S' H'->Bo K ρ' H' d z->Q z H'
theorem MZ{K:AF}{f:D->D->Sto->Res D}{σ:St}{H:Hp}{Q:VK}(h:gE K E (m2 f ma mb) σ H Q):tOp (rD K f) (gE K E ma) (gE K E mb) σ H Q:=by
 obtain⟨ρ,l,S,hl,hs,hm⟩:=h;refine⟨ρ,l,S,hl,hs,hm.seq λx S1 hm ρ1 H1 u l1 s1 r1=>⟨ρ1,l,S1,hl.mono l1,s1,(hm.later l1).seq λy S2 hm ρ2 H2 v l2 s2 r2=>?_⟩⟩;obtain⟨d,S',e,k⟩:=hm.okR;exact⟨ρ2,S2,x,y,d,S',s2,r1.mono l2,r2,e,λρ' H' z l' s' r'=>k ρ' H' z (l1.trans (l2.trans l')) s' r'⟩
theorem BY(ho:OpR X (Cr op) (rD X.K f))(ha:GE X E a ma)(hb:GE X E b mb):GE X E (.BinOp a op b pos) (m2 f ma mb):=(nz ho ha hb).imp λ_ _ _ h=>MZ h
theorem RA(ho:OpR X (CM op) (rD X.K f))(ha:GE X E a ma)(hb:GE X E b mb)(hm:DN op b=false):GE X E (.Compare a [op] [b] pos) (m2 f ma mb):=(fb ho ha hb hm).imp λ_ _ _ h=>MZ h
theorem oz(ho:IxR X (rD X.K f))(ha:GE X E a ma)(hb:GE X E b mb)(hs:UM b:=by intro _ _;rfl):GE X E (.Subscript a b pos) (m2 f ma mb):=(n8 ho ha hb hs).imp λ_ _ _ h=>MZ h
def mB(m:ME):MT:=λe S=>(m e S).bind λd S1=>match d with
 | .bl b=>.ok b S1
 | _=>.bad
def Ot(d:D)(S:Sto):Option Bool:=match d with
 | .non=>some false
 | .bl b=>some b
 | .int i=>some (i != 0)
 | .tup ds=>some (!ds.isEmpty)
 | .fro ds=>some (!ds.isEmpty)
 | .ref n=>match S[n]? with
  | some (.lst ds)=>some (!ds.isEmpty)
  | some (.dK f')=>some (!f'.isEmpty)
  | _=>none
 | _=>none
def FO(m:ME):MT:=λe S=>(m e S).bind λd S1=>match Ot d S1 with
 | some b=>.ok b S1
 | none=>.bad
theorem Am.empty{K}{ρ}{H}{ds}{vs}(h:Am K ρ H ds vs):ds.isEmpty=vs.isEmpty:=by cases h <;> rfl
theorem KVR.empty{κ:Type}{K:AF}{ρ:List AU}{H:Hp}{x:List (κ×D)}{y:List (κ×V)}(h:KVR K ρ H x y):x.isEmpty=y.isEmpty:=by cases h <;> rfl
theorem eW{K:AF}{ρ:List AU}{H:Hp}{S:Sto}{d:D}{x:V}{b:Bool}(hs:B2 K ρ S H)(r:Bo K ρ H d x)(h:Ot d S=some b):lr K x H b:=by
 cases r with
 | non=>cases h;rfl
 | bl c=>cases h;rfl
 | int i=>cases h;rfl
 | str x=>cases h
 | tup h1 h2=>cases h;rw[h2.empty];exact .inr (.inl ⟨_,.inl (.inl h1),rfl⟩)
 | fro h1 h2=>cases h;rw[h2.empty];exact .inl ⟨_,h1.sq,rfl⟩
 | exc _ _=>cases h
 | @ref n a hn=>
  obtain⟨o,ho,ro⟩:=hs.there hn;unfold Ot at h;simp only[ho]at h
  cases o with
  | lst ds=>cases h;obtain⟨vs,e,rr⟩:=ro;rw[rr.empty];exact .inl ⟨_,.inl (.inl e),rfl⟩
  | dK f'=>cases h;obtain⟨vs,e,rr⟩:=ro;rw[KVR.empty rr];exact .inr (.inr ⟨_,e,rfl⟩)
  | dT f'=>cases h
  | ins C fs=>cases h
  | fK _=>cases h
  | fT _=>cases h
  | mem _=>cases h
theorem E5(h:GE X E e ma)(he:∀whole,i3 e X.env whole=(do let v <-whole;lz e.pos;V0 [v] (truthy v)):=by intro _;rfl):GT X E e (FO ma):=(bD h he).imp λσ H Q ⟨ρ,l,S,hl,hs,hm⟩=>by
 refine⟨ρ,l,S,hl,hs,hm.seq λd S1 hm ρ1 H1 x l1 s1 r1=>?_⟩
 cases hb:Ot d S1 with
 | none=>rw[hb]at hm;exact hm.elim
 | some c=>
  rw[hb]at hm;exact⟨c,eW s1 r1 hb,hm ρ1 H1 l1 s1⟩
theorem DV{op}{f}(ho:OpR X (CM op) (rD X.K f))(ha:GE X E a ma)(hb:GE X E b mb)(hm:DN op b=false):GT X E (.Compare a [op] [b] pos) (mB (m2 f ma mb)):=(fF ho ha hb hm).imp λσ H Q ⟨ρ,l,S,hl,hs,hm⟩=>by
 refine MZ (Q:=λx H'=>∃k,x=.bl k/\Q k H') ⟨ρ,l,S,hl,hs,hm.seq λd S1 hm ρ1 H1 x l1 s1 r1=>?_⟩
 cases d <;> first | exact hm.elim | skip
 cases r1;exact⟨_,rfl,hm ρ1 H1 l1 s1⟩
def PX(m:MT):MT:=λe S=>(m e S).bind λb S1=>.ok (!b) S1
def NX(ma mb:MT):MT:=λe S=>(ma e S).bind λb S1=>if b=true then mb e S1 else .ok false S1
def mOr(ma mb:MT):MT:=λe S=>(ma e S).bind λb S1=>if b=true then .ok true S1 else mb e S1
variable{ta tb:MT}{rest:List Expr}
theorem Q3(h:GT X E a ta):GT X E (.UnaryOp .Not a pos) (PX ta):=(jt h).imp λσ H Q ⟨ρ,l,S,hl,hs,hm⟩=>by
 exact⟨ρ,l,S,hl,hs,hm.seq λd S1 hm ρ1 H1 l1 s1=>hm ρ1 H1 l1 s1⟩
theorem ed{K}{σ}{H}{Q}(h:gT K E (NX ta tb) σ H Q):nS (gT K E ta) (gT K E tb) σ H Q:=by
 obtain⟨ρ,l,S,hl,hs,hm⟩:=h;refine⟨ρ,l,S,hl,hs,hm.seq λc S1 hm ρ1 H1 l1 s1=>?_⟩
 cases c with
 | true=>rw[qX rfl]at hm ⊢;exact⟨ρ1,l,S1,hl.mono l1,s1,hm.go l1 λ_ _ k ρ2 H2 l2 s2=>k ρ2 H2 (l1.trans l2) s2⟩
 | false=>rw[qY AI]at hm ⊢;exact hm ρ1 H1 l1 s1
theorem ja{K}{σ}{H}{Q}(h:gT K E (mOr ta tb) σ H Q):tOr (gT K E ta) (gT K E tb) σ H Q:=by
 obtain⟨ρ,l,S,hl,hs,hm⟩:=h;refine⟨ρ,l,S,hl,hs,hm.seq λc S1 hm ρ1 H1 l1 s1=>?_⟩
 cases c with
 | false=>rw[qY AI]at hm ⊢;exact⟨ρ1,l,S1,hl.mono l1,s1,hm.go l1 λ_ _ k ρ2 H2 l2 s2=>k ρ2 H2 (l1.trans l2) s2⟩
 | true=>rw[qX rfl]at hm ⊢;exact hm ρ1 H1 l1 s1
abbrev GW(X:Cx)(E:EW)(e:Expr)(m:MT):Prop:=PW X e (gT X.K E m)
theorem Nf(ha:GT X E a ta):GW X E (.BoolOp .And [a] pos) ta:=fE ha
theorem cO(ha:GT X E a ta):GW X E (.BoolOp .Or [a] pos) ta:=jq ha
theorem Q2(ha:GT X E a ta)(hb:GW X E (.BoolOp .And (b :: rest) pos) tb):GW X E (.BoolOp .And (a :: b :: rest) pos) (NX ta tb):=(jr ha hb).imp λ_ _ _ h=>ed h
theorem io(ha:GT X E a ta)(hb:GW X E (.BoolOp .Or (b :: rest) pos) tb):GW X E (.BoolOp .Or (a :: b :: rest) pos) (mOr ta tb):=(nv ha hb).imp λ_ _ _ h=>ja h
theorem W5(h:GW X E e t):GT X E e t:=PW.pt h
def Qs(ma mb:ME):ME:=λe S=>(ma e S).bind λd S1=>match d with
 | .bl true=>mb e S1
 | .bl false=>.ok (.bl false) S1
 | _=>.bad
def X5(ma:ME):ME:=λe S=>(ma e S).bind λd S1=>match d with
 | .bl c=>.ok (.bl (!c)) S1
 | _=>.bad
theorem W8{op}(h:GE X E a ma):GE X E (.BoolOp op [a] pos) ma:=kB h
theorem W9(ha:GE X E a ma)(hb:GE X E (.BoolOp .And (b :: rest) pos) mb):GE X E (.BoolOp .And (a :: b :: rest) pos) (Qs ma mb):=(kH ha hb).imp λσ H Q ⟨ρ,l,S,hl,hs,hm⟩=>by
 refine⟨ρ,l,S,hl,hs,hm.seq λc S1 hm ρ1 H1 x l1 s1 r1=>?_⟩
 cases c with
 | bl c=>
  cases r1;refine⟨c,rfl,?_⟩
  cases c with
  | true=>rw[qX rfl];exact⟨ρ1,l,S1,hl.mono l1,s1,hm.go l1 λ_ _ k ρ2 H2 z l2 s2 r2=>k ρ2 H2 z (l1.trans l2) s2 r2⟩
  | false=>rw[qY AI];exact hm ρ1 H1 _ l1 s1 (.bl false)
 | _=>exact hm.elim
theorem lK(ha:GE X E a ma):GE X E (.UnaryOp .Not a pos) (X5 ma):=(kC ha).imp λσ H Q ⟨ρ,l,S,hl,hs,hm⟩=>by
 refine⟨ρ,l,S,hl,hs,hm.seq λc S1 hm ρ1 H1 x l1 s1 r1=>?_⟩
 cases c with
 | bl c=>cases r1;exact⟨c,rfl,hm ρ1 H1 _ l1 s1 (.bl _)⟩
 | _=>exact hm.elim
def VZ(t:MT)(ma mb:ME):ME:=λe S=>(t e S).bind λb S1=>if b=true then ma e S1 else mb e S1
theorem Q7(hc:GT X E c ta)(ha:GE X E a ma)(hb:GE X E b mb):GE X E (.IfExp c a b pos) (VZ ta ma mb):=(bO hc ha hb).imp λσ H Q ⟨ρ,l,S,hl,hs,hm⟩=>by
 refine⟨ρ,l,S,hl,hs,hm.seq λc S1 hm ρ1 H1 l1 s1=>?_⟩
 cases c with
 | true=>rw[qX rfl]at hm ⊢;exact⟨ρ1,l,S1,hl.mono l1,s1,hm.go l1 λ_ _ k ρ2 H2 z l2 s2 r2=>k ρ2 H2 z (l1.trans l2) s2 r2⟩
 | false=>rw[qY AI]at hm ⊢;exact⟨ρ1,l,S1,hl.mono l1,s1,hm.go l1 λ_ _ k ρ2 H2 z l2 s2 r2=>k ρ2 H2 z (l1.trans l2) s2 r2⟩
def m3(f g:D->D->Sto->Res D)(ma mb mc:ME):ME:=λe S=>(ma e S).bind λx S1=>(mb e S1).bind λy S2=>(okR (f x y S2)).bind λz S3=>match z with
 | .bl true=>(mc e S3).bind λw S4=>okR (g y w S4)
 | .bl false=>.ok (.bl false) S3
 | _=>.bad
def BR:ML:=λ_ S=>.ok [] S
def AT(m:ME)(r:ML):ML:=λe S=>(m e S).bind λd S1=>(r e S1).bind λds S2=>.ok (d :: ds) S2
variable{es:List Expr}{ml:ML}
theorem Au:GA X E [] BR:=IS.imp λσ H Q ⟨ρ,l,S,hl,hs,hm⟩=>by
 exact hm ρ H [] .refl hs .nil
theorem AN(ha:GE X E e ma)(hr:GA X E es ml)(hs:AX (e :: es) X.env=(false,CH e X.env) :: AX es X.env:=by rfl):GA X E (e :: es) (AT ma ml):=(FI ha hr hs).imp λσ H Q ⟨ρ,l,S,hl,hs,hm⟩=>by
 exact⟨ρ,l,S,hl,hs,hm.seq λd S1 hm ρ1 H1 x l1 s1 r1=>⟨ρ1,l,S1,hl.mono l1,s1,(hm.later l1).seq λqH S2 hm ρ2 H2 xs l2 s2 r2=>hm ρ2 H2 (x :: xs) (l1.trans l2) s2 (.cons (r1.mono l2) r2)⟩⟩
def Kp(m:ML):ME:=λe S=>(m e S).bind λds S1=>if ds.length<=sizeLine then .ok (.tup ds) S1 else .bad
theorem Ix{K}{ρ}{H}{S}{p}{ho}(hs:B2 K ρ S H)(hp:H p=none):B2 K ρ S (upd H p ho)/\Le K ρ H ρ (upd H p ho):=by
 have le:Le K ρ H ρ (upd H p ho):=Le.fresh hp;refine⟨⟨hs.len,hs.nd,λn o a h1 h2=>(hs.ob n o a h1 h2).mono le (BX λz=>?_)⟩,le⟩;subst z;exact hs.notIn hp h2
theorem JR{x1}(h:GA X E es ml):GE X E (.Tuple es x1 pos) (Kp ml):=(j9 h).imp λσ H Q ⟨ρ,l,S,hl,hs,hm⟩=>by
 refine⟨ρ,l,S,hl,hs,hm.seq λds S1 hm ρ1 H1 xs l1 s1 r1=>?_⟩;split at hm
 ·rename_i hz
  refine⟨by rw[<-r1.length];exact hz,λp hp=>?_⟩;obtain⟨s2,l2⟩:=Ix (ho:=.tup xs) s1 hp;exact hm ρ1 _ _ (l1.trans l2) s2 (.tup Bu (r1.mono l2))
 ·exact hm.elim
def GV(m:ML):ML:=λe S=>(m e S).bind λds S1=>if ds.length<=sizeLine then .ok ds S1 else .bad
theorem KQ(h:GA X E es ml):GL X E (.List es pos) (GV ml):=(kD h).imp λσ H Q ⟨ρ,l,S,hl,hs,hm⟩=>by
 refine⟨ρ,l,S,hl,hs,hm.seq λds S1 hm ρ1 H1 xs l1 s1 r1=>?_⟩;split at hm
 ·rename_i hz
  refine⟨by rw[<-r1.length];exact hz,λp hp=>?_⟩;obtain⟨s2,l2⟩:=Ix (ho:=.lst xs) s1 hp;exact hm ρ1 _ p xs (l1.trans l2) s2 (r1.mono l2) Bu (λn q=>s1.notIn hp q) (l1.back hs s1 hp)
 ·exact hm.elim
def FP(m:ML):ME:=λe S=>(m e S).bind λds S1=>.ok (.ref S1.length) (S1++[.lst ds])
theorem D2(h:GL X E e ml):GE X E e (FP ml):=PE.imp h λσ H Q ⟨ρ,l,S,hl,hs,hm⟩=>by
 refine⟨ρ,l,S,hl,hs,hm.seq λds S1 hm ρ1 H1 p xs l1 s1 r1 hp hn u7=>?_⟩
 have l0:∀(n:Nat) a,ρ1[n]?=some a->(ρ1++[p])[n]?=some a:=λn a h=>by rw[Ao (AE.mp h).1];exact h
 obtain⟨s2,at2⟩:=s1.adopt (o:=.lst ds) hn ⟨xs,hp,r1.more l0⟩;refine hm _ _ _ ⟨λn a h=>l0 n a (l1.pre n a h),l1.tup,l1.frz,λa o e h=>⟨(l1.oth a o e h).1,λn q=>?_⟩⟩ s2 (.ref at2)
 rcases IX q with⟨q,_⟩ | ⟨_,q⟩
 ·exact(l1.oth a o e h).2 n q
 ·exact CP e u7 q
def GF(d:D)(S:Sto):Option (List D):=match d with
 | .tup ds=>some ds
 | .fro ds=>some ds
 | .ref n=>match S[n]? with
  | some (.lst ds)=>some ds
  | _=>none
 | _=>none
def kb(m:ME):ML:=λe S=>(m e S).bind λd S1=>match GF d S1 with
 | some ds=>.ok ds S1
 | none=>.bad
theorem Pt{K}{ρ}{H}{S}{d}{x}{ds}(hs:B2 K ρ S H)(r:Bo K ρ H d x)(h:GF d S=some ds):∃p xs,x=.ref p/\Am K ρ H ds xs/\(SqL K H p xs∨SqT K H p xs):=by
 cases r with
 | tup h1 h2=>cases h;exact⟨_,_,rfl,h2,.inr (.inl (.inl h1))⟩
 | fro h1 h2=>cases h;exact⟨_,_,rfl,h2,.inl h1.sq⟩
 | @ref n a hn=>
  obtain⟨o,ho,ro⟩:=hs.there hn;unfold GF at h;simp only[ho]at h
  cases o with
  | lst es=>cases h;obtain⟨vs,e,rr⟩:=ro;exact⟨_,_,rfl,rr,.inl (.inl (.inl e))⟩
  | _=>cases h
 | _=>cases h
theorem oy(h:GE X E e ma):GQ X E e (kb ma):=PE.imp h λσ H Q ⟨ρ,l,S,hl,hs,hm⟩=>by
 refine⟨ρ,l,S,hl,hs,hm.seq λx S1 hm ρ1 H1 v l1 s1 r1=>?_⟩
 cases hq:GF x S1 with
 | none=>rw[hq]at hm;exact hm.elim
 | some ds=>
  rw[hq]at hm;obtain⟨p,xs,rfl,r2,sq⟩:=Pt s1 r1 hq;exact hm ρ1 H1 p xs l1 s1 r2 sq
end
def Res.lift{α:Type}(r:Res α)(e:Lo)(f:α->Sto->Res Fl):Res Fl:=match r with
 | .ok a S=>f a S
 | .err c S=>.ok (.ex c e) S
 | .bad=>.bad
theorem CD.lift{α:Type}{K:AF}{E:EW}{ρ ρ1:List AU}{H H1:Hp}{σ:St}{e:Lo}{D:Zv}{r:Res α}{F:α->Sto->Res Fl}{k':α->Sto->Prop}(h:CD K noH ρ1 H1 (r.lift e F) λfl S'=>Pb K E ρ H S' D fl)(hl:Ff K ρ1 H1 e σ)(l:Le K ρ H ρ1 H1)
  (f:∀a S,(CD K noH ρ1 H1 (F a S) λfl S'=>Pb K E ρ H S' D fl)->k' a S):CD K (λc=>E c σ) ρ1 H1 r k':=by
 cases r with
 | ok a S=>exact f a S h
 | err c S=>exact λρ' H' l' s'=>h ρ' H' σ (l.trans l') s' (hl.mono l')
 | bad=>exact h
def sNx:MS:=λe S=>.ok (.nx e) S
def PL:MS:=λ_ _=>.bad
def BO(a b:MS):MS:=λe S=>(a e S).bind λf S1=>match f with
 | .nx e1=>b e1 S1
 | f=>.ok f S1
def HR(m:ME):MS:=λe S=>(m e S).lift e λ_ S1=>.ok (.nx e) S1
def DM(m:ME):MS:=λe S=>(m e S).lift e λd S1=>.ok (.rt d) S1
def sIf(t:MT)(a b:MS):MS:=λe S=>(t e S).lift e λc S1=>if c=true then a e S1 else b e S1
def nW(m:ME)(g:MG):MS:=λe S=>(m e S).lift e λd S1=>(g d e S1).bind λe1 S2=>.ok (.nx e1) S2
def tgN(i:Nat):MG:=λd e S=>.ok (e.set i (some d)) S
def DH(i:Nat)(m:ME):MS:=nW m (tgN i)
section
variable{X:Cx}{E:EW}{st:DB}{rest:List DB}{e:Expr}{pos:Pos}{a b:MS}{t:MT}
theorem Pb.later{K}{ρ ρ1}{H H1}{S}{D}{f}(l:Le K ρ H ρ1 H1)(h:Pb K E ρ H S D f):Pb K E ρ1 H1 S D f:=by
 cases f with
 | nx e=>exact λρ' H' σ' l'=>h ρ' H' σ' (l.trans l')
 | bk e=>exact λρ' H' σ' l'=>h ρ' H' σ' (l.trans l')
 | ct e=>exact λρ' H' σ' l'=>h ρ' H' σ' (l.trans l')
 | ex c e=>exact λρ' H' σ' l'=>h ρ' H' σ' (l.trans l')
 | rt d=>exact λρ' H' x l'=>h ρ' H' x (l.trans l')
theorem CG:GSs X E [] sNx:=fH.imp λD σ H ⟨ρ,l,S,hl,hs,hm⟩=>by
 exact hm ρ H σ .refl hs hl
theorem AW(h1:GS X E st a)(h2:GSs X E rest b):GSs X E (st :: rest) (BO a b):=(bG h1 h2).imp λD σ H ⟨ρ,l,S,hl,hs,hm⟩=>by
 refine⟨ρ,l,S,hl,hs,hm.seq λg S1 hm=>?_⟩
 cases g with
 | nx e'=>exact λρ1 H1 σ1 l1 s1 r1=>⟨ρ1,e',S1,r1,s1,hm.go l1 λ_ _ k=>k.later l1⟩
 | rt d=>exact hm
 | bk d=>exact hm
 | ct d=>exact hm
 | ex c d=>exact hm
theorem Ac(h1:GS X E st a):GSs X E [st] a:=fG h1
theorem HU:GS X E st PL:=(bI (X:=X) (st:=st)).imp λD σ H ⟨ρ,l,S,hl,hs,hm⟩=>hm.elim
theorem JD(he:GE X E e m)(hs:Fu e none pos.line X.env=pure false:=by rfl):GS X E (.Expr e pos) (HR m):=(fI he hs).imp λD σ H ⟨ρ,l,S,hl,hs,hm⟩=>by
 exact⟨ρ,l,S,hl,hs,hm.lift hl .refl λd S1 hm ρ1 H1 x l1 s1 r1=>hm ρ1 H1 σ l1 s1 (hl.mono l1)⟩
theorem Br(he:GE X E e m):GS X E (.Return (some e) pos) (DM m):=(jv he).imp λD σ H ⟨ρ,l,S,hl,hs,hm⟩=>by
 exact⟨ρ,l,S,hl,hs,hm.lift hl .refl λd S1 hm ρ1 H1 x l1 s1 r1=>hm ρ1 H1 x l1 s1 r1⟩
theorem D5{c}{sa sb}(hc:GT X E c t)(ha:GSs X E sa a)(hb:GSs X E sb b):GS X E (.If c sa sb pos) (sIf t a b):=(nw hc ha hb).imp λD σ H ⟨ρ,l,S,hl,hs,hm⟩=>by
 refine⟨ρ,l,S,hl,hs,hm.lift hl .refl λc S1 hm ρ1 H1 l1 s1=>?_⟩
 cases c with
 | true=>rw[qX rfl]at hm ⊢;exact⟨ρ1,l,S1,hl.mono l1,s1,hm.go l1 λ_ _ k=>k.later l1⟩
 | false=>rw[qY AI]at hm ⊢;exact⟨ρ1,l,S1,hl.mono l1,s1,hm.go l1 λ_ _ k=>k.later l1⟩
theorem gh(h:PG X tg (YJ i)):GG X tg (tgN i):=h.imp λv σ H Q ⟨ρ,l,S,d,hd,hl,hs,hm⟩=>by
 exact hm ρ H _ .refl hs (hl.set hd i)
theorem lD{i}{x}{pos'}(hN:X.N.Nodup)(hi:X.N[i]?=some x)(hx:Loc X.env.scope x)(he:GE X E e m)(hs:Fu e (some (.Name x pos')) pos.line X.env=pure false:=by rfl)
  (hf:X.fn x=true∨X.env.scope.names.lookup x=some .local:=by first | exact .inl rfl | exact .inr rfl | assumption):GS X E (.Assign [.Name x pos'] e pos) (DH i m):=(ju hN hi hx he hs hf).imp λD σ H ⟨ρ,l,S,hl,hs,hm⟩=>by
 exact⟨ρ,l,S,hl,hs,hm.lift hl .refl λd S1 hm ρ1 H1 x l1 s1 r1=>hm ρ1 H1 _ l1 s1 ((hl.mono l1).set r1 i)⟩
def Kq(v:Pd)(g:MG)(b:MS):Nat->Nat->Lo->Sto->Res Fl
 | k,i,e,S=>match v S with
  | none=>.bad
  | some ds=>match ds[i]? with
   | none=>.ok (.nx e) S
   | some d=>match k with
    | 0=>.bad
    | k+1=>(g d e S).bind λe1 S1=>(b e1 S1).bind λf S2=>match f with
     | .nx e2=>Kq v g b k (i+1) e2 S2
     | .ct e2=>Kq v g b k (i+1) e2 S2
     | .bk e2=>.ok (.nx e2) S2
     | .rt d=>.ok (.rt d) S2
     | .ex c e2=>.ok (.ex c e2) S2
def Df(v:Pd)(S:Sto):Nat:=match v S with
 | none=>0
 | some ds=>ds.length
def Gk(m:MI)(g:MG)(b:MS):MS:=λe S=>(m e S).lift e λv S1=>Kq v g b (Df v S1) 0 e S1
theorem D1{tg iter}{body}{mi}{g}(hp:Sv (Ak X.prog X.w) X.A X.env X.xe)(hc:X.calm=true)(hi:GI X E tg iter mi)(hg:GG X tg g)(hb:GSs X E body b)
  (hs:∀x,FR iter X.env x=pure x:=by intro _;rfl):GS X E (.For tg iter body [] pos) (Gk mi g b):=(jw hp hc hi hg hb hs).imp λD σ H ⟨ρ,l,S,hl,hs,hm⟩=>by
 refine⟨ρ,l,S,hl,hs,hm.lift hl .refl λv S1 hm ρ1 H1 J l1 s1 vo=>?_⟩;refine⟨λi n σ2 H2=>∃ρ2 e2 S2,Le X.K ρ1 H1 ρ2 H2/\Ff X.K ρ2 H2 e2 σ2/\B2 X.K ρ2 S2 H2/\CD X.K noH ρ2 H2 (Kq v g b n i e2 S2) λfl S'=>Pb X.K E ρ H S' D fl,⟨Df v S1,ρ1,l,S1,.refl,hl.mono l1,s1,hm.later l1⟩,?_⟩;rintro i n σ2 H2 ⟨ρ2,e2,S2,l2,r2,s2,p9⟩;unfold Kq at p9
 cases hv:v S2 with
 | none=>rw[hv]at p9;exact p9.elim
 | some ds=>
  rw[hv]at p9;dsimp only at p9;obtain⟨v1,v2⟩:=vo ρ2 H2 S2 ds i l2 s2 hv
  cases hd:ds[i]? with
  | none=>
   rw[hd]at p9;exact .inl ⟨v1 hd,p9 ρ2 H2 σ2 (l1.trans l2) s2 r2⟩
  | some d=>
   rw[hd]at p9;dsimp only at p9;obtain⟨go,yl⟩:=v2 d hd
   cases n with
   | zero=>exact p9.elim
   | succ n=>
    dsimp only at p9;refine .inr ⟨go,λσ' H'=>∃ρ2 e2 S2,Le X.K ρ1 H1 ρ2 H'/\Ff X.K ρ2 H' e2 σ'/\B2 X.K ρ2 S2 H'/\CD X.K noH ρ2 H' (Kq v g b n (i+1) e2 S2) λfl S'=>Pb X.K E ρ H S' D fl,λσ' H' q=>⟨n,DD n,q⟩,λx H' y=>?_⟩;obtain⟨ρ3,l3,s3,rd⟩:=yl x H' y;refine⟨ρ3,e2,S2,d,rd,r2.mono l3,s3,(p9.later l3).seq λe3 S3 p9 ρ4 H4 σ4 l4 s4 r4=>?_⟩;refine⟨ρ4,e3,S3,r4,s4,(p9.later l4).seq λf4 S4 p9=>?_⟩
    cases f4 with
    | nx e5=>exact λρ5 H5 σ5 l5 s5 r5=>⟨ρ5,e5,S4,l2.trans (l3.trans (l4.trans l5)),r5,s5,p9.later l5⟩
    | ct e5=>exact λρ5 H5 σ5 l5 s5 r5=>⟨ρ5,e5,S4,l2.trans (l3.trans (l4.trans l5)),r5,s5,p9.later l5⟩
    | bk e5=>exact λρ5 H5 σ5 l5 s5 r5=>p9 ρ5 H5 σ5 (l1.trans (l2.trans (l3.trans (l4.trans l5)))) s5 r5
    | ex c e5=>exact λρ5 H5 σ5 l5 s5 r5=>p9 ρ5 H5 σ5 (l1.trans (l2.trans (l3.trans (l4.trans l5)))) s5 r5
    | rt d5=>exact λρ5 H5 x5 l5 s5 r5=>p9 ρ5 H5 x5 (l1.trans (l2.trans (l3.trans (l4.trans l5)))) s5 r5
def He(c:MT)(b:MS):Nat->MS
 | 0=>λ_ _=>.bad
 | n+1=>λe S=>(c e S).lift e λt S1=>if t=true then(b e S1).bind λf S2=>match f with
   | .nx e2=>He c b n e2 S2
   | .ct e2=>He c b n e2 S2
   | .bk e2=>.ok (.nx e2) S2
   | .rt d=>.ok (.rt d) S2
   | .ex c e2=>.ok (.ex c e2) S2
  else .ok (.nx e) S1
theorem Vh{c}{body}(N:Nat)(hp:Sv (Ak X.prog X.w) X.A X.env X.xe)(hc:GT X E c t)(hb:GSs X E body b):GS X E (.While c body [] pos) (He t b N):=(bH hp hc hb).imp λD σ H ⟨ρ,l,S,hl,hs,hm⟩=>by
 refine⟨λn σ2 H2=>∃ρ2 e2 S2,Le X.K ρ H ρ2 H2/\Ff X.K ρ2 H2 e2 σ2/\B2 X.K ρ2 S2 H2/\CD X.K noH ρ2 H2 (He t b n e2 S2) λfl S'=>Pb X.K E ρ H S' D fl,⟨N,ρ,l,S,.refl,hl,hs,hm⟩,?_⟩;rintro n σ2 H2 ⟨ρ2,e2,S2,l2,r2,s2,p9⟩
 cases n with
 | zero=>exact p9.elim
 | succ n=>
  refine⟨ρ2,e2,S2,r2,s2,p9.lift r2 l2 λtc S3 p9 ρ3 H3 l3 s3=>?_⟩
  cases tc with
  | false=>rw[qY AI]at p9 ⊢;exact p9 ρ3 H3 σ2 (l2.trans l3) s3 (r2.mono l3)
  | true=>
   rw[qX rfl]at p9 ⊢;refine⟨λσ' H'=>∃ρ2 e2 S2,Le X.K ρ H ρ2 H'/\Ff X.K ρ2 H' e2 σ'/\B2 X.K ρ2 S2 H'/\CD X.K noH ρ2 H' (He t b n e2 S2) λfl S'=>Pb X.K E ρ H S' D fl,λσ' H' q=>⟨n,DD n,q⟩,?_⟩;refine⟨ρ3,e2,S3,r2.mono l3,s3,(p9.later l3).seq λf4 S4 p9=>?_⟩
   cases f4 with
   | nx e5=>exact λρ5 H5 σ5 l5 s5 r5=>⟨ρ5,e5,S4,l2.trans (l3.trans l5),r5,s5,p9.later l5⟩
   | ct e5=>exact λρ5 H5 σ5 l5 s5 r5=>⟨ρ5,e5,S4,l2.trans (l3.trans l5),r5,s5,p9.later l5⟩
   | bk e5=>exact λρ5 H5 σ5 l5 s5 r5=>p9 ρ5 H5 σ5 (l2.trans (l3.trans l5)) s5 r5
   | ex c e5=>exact λρ5 H5 σ5 l5 s5 r5=>p9 ρ5 H5 σ5 (l2.trans (l3.trans l5)) s5 r5
   | rt d5=>exact λρ5 H5 x5 l5 s5 r5=>p9 ρ5 H5 x5 (l2.trans (l3.trans l5)) s5 r5
end
section
variable{X:Cx}{E:EW}{tg e:Expr}{m:ME}{K:AF}
def Oo(d:D):Pd:=λS=>match d with
 | .ref n=>match S[n]? with
  | some (.lst ds)=>some ds
  | _=>none
 | .fro ds=>some ds
 | _=>none
def Gs(ds:List D):Pd:=λ_=>some ds
def om(m:ME):MI:=λe S=>(m e S).bind λd S1=>match Oo d S1 with
 | some _=>.ok (Oo d) S1
 | none=>.bad
def im(m:ME):MI:=λe S=>(m e S).bind λd S1=>match d with
 | .tup ds=>.ok (Gs ds) S1
 | _=>.bad
theorem QG(s:B2 K ρ S H)(r:Bo K ρ H d (.ref a))(hv:Oo d S=some ds):∃xs,SqL K H a xs/\Am K ρ H ds xs:=by
 cases r with
 | tup h1 h2=>cases hv
 | exc _ _=>cases hv
 | fro h1 h2=>cases hv;exact⟨_,h1.sq,h2⟩
 | @ref n _ hn=>
  obtain⟨o,ho,ro⟩:=s.there hn;unfold Oo at hv;simp only[ho]at hv
  cases o with
  | lst es=>
   cases hv;obtain⟨vs,e,rr⟩:=ro;exact⟨vs,.inl (.inl e),rr⟩
  | _=>cases hv
theorem QE(r:Bo K ρ H d (.ref a)):Mv K ρ H (Itl K a) (Oo d):=by
 intro ρ2 H2 S ds i l s hv;obtain⟨xs,sq,rr⟩:=QG s (r.mono l) hv;refine⟨λhn=>⟨xs,sq,by rw[<-rr.length];exact FW.mp hn⟩,λd hd=>?_⟩;obtain⟨x,hx,rx⟩:=rr.get hd;refine⟨⟨xs,x,sq,hx⟩,λy H' ⟨e,hy⟩=>?_⟩;subst e;have:=hy xs sq;rw[hx]at this;cases this;exact⟨ρ2,.refl,s,rx⟩
theorem lH(h:GE X E e m):GI X E tg e (om m):=(fP h).imp λσ H R ⟨ρ,l,S,hl,hs,hm⟩=>by
 refine⟨ρ,l,S,hl,hs,hm.seq λd S1 hm ρ1 H1 x l1 s1 r1=>?_⟩
 cases hv:Oo d S1 with
 | none=>rw[hv]at hm;exact hm.elim
 | some ds=>
  rw[hv]at hm
  have:∃a,x=.ref a:=by
   cases r1 <;> first | exact⟨_,rfl⟩ | (cases hv;done)
  obtain⟨a,rfl⟩:=this;obtain⟨xs,sq,_⟩:=QG s1 r1 hv;exact⟨a,rfl,⟨xs,sq⟩,hm ρ1 H1 _ l1 s1 (QE r1)⟩
theorem QC(h1:H a=some (.tup xs))(h2:Am K ρ H ds xs):Mv K ρ H (Itt K a) (Gs ds):=by
 intro ρ2 H2 S qH i l s hv;cases hv;have rr:=h2.mono l;have sq:SqT K H2 a xs:=.inl (.inl (l.tup _ _ h1));refine⟨λhn=>⟨xs,sq,by rw[<-rr.length];exact FW.mp hn⟩,λd hd=>?_⟩;obtain⟨x,hx,rx⟩:=rr.get hd;refine⟨⟨xs,x,sq,hx⟩,λy H' ⟨e,hy⟩=>?_⟩;subst e;have:=hy xs sq;rw[hx]at this;cases this;exact⟨ρ2,.refl,s,rx⟩
theorem lG(h:GE X E e m):GI X E tg e (im m):=(jz h).imp λσ H R ⟨ρ,l,S,hl,hs,hm⟩=>by
 refine⟨ρ,l,S,hl,hs,hm.seq λd S1 hm ρ1 H1 x l1 s1 r1=>?_⟩
 cases d <;> first | exact hm.elim | skip
 cases r1 with
 | tup q1 q2=>exact⟨_,rfl,⟨_,.inl (.inl q1)⟩,hm ρ1 H1 _ l1 s1 (QC q1 q2)⟩
def IQ(lo:Int)(n:Nat):List D:=(C9 n).map λi:Nat=>D.int (lo+i)
theorem SL(lo:Int)(n i:Nat):(IQ lo n)[i]?=if i < n then some (.int (lo+i))else none:=by
 unfold IQ;rw[Aa]
 by_cases h:i < n
 ·rw[DX h,qX h];rfl
 ·rw[qY h,FW.mpr (by simpa using h)];rfl
theorem QD(lo:Int)(n:Nat):Mv K ρ H (Itr lo n) (Gs (IQ lo n)):=by
 intro ρ2 H2 S qH i l s hv;cases hv;rw[SL];refine⟨λhn=>?_,λd hd=>?_⟩
 ·split at hn
  ·cases hn
  ·rename_i h;exact P7 h
 ·split at hd
  ·rename_i h
   cases hd;refine⟨h,λy H' ⟨e,hy⟩=>?_⟩;subst e;subst hy;exact⟨ρ2,.refl,s,.int _⟩
  ·cases hd
def iR1(ml:ML):MI:=λe S=>(ml e S).bind λds S1=>match ds with
 | [.int j]=>if -(2 ^ 62)<=j/\j < 2 ^ 62 then .ok (Gs (IQ 0 j.toNat)) S1 else .bad
 | _=>.bad
def iR2(ml:ML):MI:=λe S=>(ml e S).bind λds S1=>match ds with
 | [.int i,.int j]=>if -(2 ^ 62)<=i/\i < 2 ^ 62/\-(2 ^ 62)<=j/\j < 2 ^ 62 then .ok (Gs (IQ i (j - i).toNat)) S1 else .bad
 | _=>.bad
theorem Du(hg:Gl X "range") (hm:X.mg "range" = none) (ha:GA X E [a] ml) (hs:AX [a] X.env=[(false,CH a X.env)]:=by rfl):GI X E tg (.Call (.Name "range" p) [a] [] pos) (iR1 ml):=(ZE hg hm ha hs).imp λσ H R ⟨ρ,l,S,hl,hs,hm⟩=>by
 refine⟨ρ,l,S,hl,hs,hm.seq λds S1 hm ρ1 H1 xs l1 s1 r1=>?_⟩;split at hm
 ·rename_i j
  split at hm
  ·rename_i hj
   cases r1 with
   | cons r t=>
    cases t;cases r;exact⟨j,rfl,hj.1,hj.2,hm ρ1 H1 _ l1 s1 (QD 0 j.toNat)⟩
  ·exact hm.elim
 ·exact hm.elim
theorem OS(hg:Gl X "range") (hm:X.mg "range" = none) (ha:GA X E [a,b] ml) (hs:AX [a,b] X.env=[(false,CH a X.env),(false,CH b X.env)]:=by rfl) (qz:AX [b] X.env=[(false,CH b X.env)]:=by rfl) :
  GI X E tg (.Call (.Name "range" p) [a,b] [] pos) (iR2 ml):=(ZD hg hm ha hs qz).imp λσ H R ⟨ρ,l,S,hl,hs,hm⟩=>by
 refine⟨ρ,l,S,hl,hs,hm.seq λds S1 hm ρ1 H1 xs l1 s1 r1=>?_⟩;split at hm
 ·rename_i i j
  split at hm
  ·rename_i hj
   cases r1 with
   | cons r t=>
    cases t with
    | cons r' t=>
     cases t;cases r;cases r';exact⟨i,j,rfl,hj,hm ρ1 H1 _ l1 s1 (QD i _)⟩
  ·exact hm.elim
 ·exact hm.elim
end
def Jk:List D->Lo->Sto->Res Lo
 | [],e,S=>.ok e S
 | _,_,_=>.bad
def DL(g:MG)(r:List D->Lo->Sto->Res Lo):List D->Lo->Sto->Res Lo
 | d :: ds,e,S=>(g d e S).bind λe1 S1=>r ds e1 S1
 | [],_,_=>.bad
def Iy(n:Nat)(r:List D->Lo->Sto->Res Lo):MG:=λd e S=>match d with
 | .tup ds=>if ds.length=n then r ds e S else .bad
 | _=>.bad
section
variable{X:Cx}
def gGs(K:AF)(r:List D->Lo->Sto->Res Lo):TGs:=λvs σ H Q=>∃ρ e S ds,Am K ρ H ds vs/\Ff K ρ H e σ/\B2 K ρ S H/\CD K noH ρ H (r ds e S) λe' S'=>∀ρ' H' σ',Le K ρ H ρ' H'->B2 K ρ' S' H'->Ff K ρ' H' e' σ'->Q σ' H'
abbrev GGs(X:Cx)(ts:List Expr)(r:List D->Lo->Sto->Res Lo):Prop:=PGs X ts (gGs X.K r)
theorem PGs.imp(h:PGs X ts t)(i:∀vs σ H Q,t' vs σ H Q->t vs σ H Q):PGs X ts t':=λζ s σ H vs us Q I r q=>h ζ s σ H vs us Q I r (i vs σ H Q q)
theorem Nh:GGs X [] Jk:=fS.imp λvs σ H Q ⟨ρ,l,S,ds,hd,hl,hs,hm⟩=>by
 cases ds with
 | nil=>cases hd;exact⟨rfl,hm ρ H σ .refl hs hl⟩
 | cons d ds=>exact hm.elim
theorem Fb(h1:GG X e g)(h2:GGs X es r)
  (hs:(Gz (e :: es) X.env).map (·.2)=WB e X.env :: (Gz es X.env).map (·.2):=by rfl):GGs X (e :: es) (DL g r):=(bM h1 h2 hs).imp λvs σ H Q ⟨ρ,l,S,ds,hd,hl,hs,hm⟩=>by
 cases ds with
 | nil=>exact hm.elim
 | cons d ds=>
  cases hd with
  | cons q1 q2=>
   exact⟨_,_,rfl,ρ,l,S,d,q1,hl,hs,hm.seq λe1 S1 hm ρ1 H1 σ1 l1 s1 r1=>⟨ρ1,e1,S1,ds,q2.mono l1,r1,s1,hm.go l1 λ_ _ k ρ2 H2 σ2 l2 s2 r2=>k ρ2 H2 σ2 (l1.trans l2) s2 r2⟩⟩
theorem Q5(hc:X.calm=true)(h:GGs X es r)
  (hn:(Gz es X.env).length=n:=by rfl) (se:(Gz es X.env).findIdx? (·.1)=none:=by rfl):GG X (.Tuple es k pos) (Iy n r):=(j7 hc h hn se).imp λv σ H Q ⟨ρ,l,S,d,hd,hl,hs,hm⟩=>by
 cases d <;> first | exact hm.elim | skip
 rename_i ds
 cases hd with
 | tup q1 q2=>
  unfold Iy at hm;dsimp only at hm;split at hm
  ·rename_i hlen
   exact⟨_,_,rfl,.inl (.inl q1),by rw[<-q2.length];exact hlen,ρ,l,S,ds,q2,hl,hs,hm⟩
  ·exact hm.elim
end
def spM(K:AF)(n:Nat)(f:List D->Sto->Res D):Sp:=λvs H Q E=>∃ρ ds S,ds.length=n/\Am K ρ H ds vs/\B2 K ρ S H/\CD K (λc H'=>E (.ref c) none H') ρ H (f ds S) λd S'=>
 ∀ρ' H' x,Le K ρ H ρ' H'->B2 K ρ' S' H'->Bo K ρ' H' d x->Q x H'
theorem spM.len{K}{n}{f}{vs}{H}{Q}{E}(h:spM K n f vs H Q E):vs.length=n:=by
 obtain⟨ρ,ds,S,h1,h2,_⟩:=h;rw[<-h2.length];exact h1
def CW(n:Nat)(f:List D->Sto->Res D)(m:ML):ME:=λe S=>(m e S).bind λds S1=>if ds.length=n then f ds S1 else .bad
def Ou(C:AU)(n:Nat)(f:List D->Sto->Res D)(m:ML):ME:=λe S=>(m e S).bind λds S1=>if ds.length+1=n then(f (.ref S1.length :: ds) (S1++[.ins C []])).bind (λd S2=>match d with
  | .non=>.ok (.ref S1.length) S2
  | _=>.bad)else .bad
def S9(E:EW)(σ:St):XK:=λv o H=>o=none/\∃c,v=.ref c/\E c σ H
section
variable{X:Cx}{E:EW}{k n:Nat}{x:Str}{e:Expr}{es:List Expr}
theorem CD.xk{α:Type}{K:AF}{σ:St}{ρ ρ1:List AU}{H H1:Hp}{r:Res α}{k k':α->Sto->Prop}(h:CD K (λc=>E c σ) ρ H r k)(l:Le K ρ H ρ1 H1)(f:∀a S,k a S->k' a S):CD K (λc H'=>S9 E σ (.ref c) none H') ρ1 H1 r k':=by
 cases r with
 | ok a S=>exact f a S h
 | err c S=>exact λρ' H' l' s=>⟨rfl,c,rfl,h ρ' H' (l.trans l') s⟩
 | bad=>exact h
theorem UB(F:Cq X.prog X.w X.K X.mg X.base CX k f fd ps (spM X.K n g))(hx:Ke CX X (S9 E))(hr:Gn k X.A)(hg:Gl X x)(hm:X.mg x=some (.ref f))(hk:Eu X.K (.ref f)=true)(hb:Binds X.K fd ps [])
  (ha:GA X E (e :: es) ml) (qJ:(x==("__debug__" : Str))=false:=by decide) (he:AX (e :: es) X.env=(false,CH e X.env) :: AX es X.env:=by rfl) (qv:(Dp pos (AX es X.env)).any (·.1)=false:=by rfl) :
  GE X E (.Call (.Name x p) (e :: es) [] pos) (CW n g ml):=(ff (E:=S9 E) F hr hg hm hk hb .nil hx ha qJ he qv).imp λσ H Q ⟨ρ,l,S,hl,hs,hm⟩=>by
 refine⟨ρ,l,S,hl,hs,hm.seq λds S1 hm ρ1 H1 xs l1 s1 r1=>?_⟩;split at hm
 ·rename_i hlen
  rw[CL];exact⟨ρ1,ds,S1,hlen,r1,s1,hm.xk l1 λ_ _ k ρ' H' z l' s' r'=>k ρ' H' z (l1.trans l') s' r'⟩
 ·exact hm.elim
theorem YH(M:Mk X.K C f)(F:Cq X.prog X.w X.K X.mg X.base CX k f fd ps (spM X.K n g))(hx:Ke CX X (S9 E))(hr:Gn (k+1) X.A)(hg:Gl X x)(hm:X.mg x=some (.ref C))(hb:Binds X.K fd ps [])
  (ha:GA X E (e :: es) ml) (qJ:(x==("__debug__" : Str))=false:=by decide) (he:AX (e :: es) X.env=(false,CH e X.env) :: AX es X.env:=by rfl) (qv:(Dp pos (AX es X.env)).any (·.1)=false:=by rfl) :
  GE X E (.Call (.Name x p) (e :: es) [] pos) (Ou C n g ml):=(fW (E:=S9 E) M F hr hg hm hb .nil hx ha qJ he qv).imp λσ H Q ⟨ρ,l,S,hl,hs,hm⟩=>by
 refine⟨ρ,l,S,hl,hs,hm.seq λds S1 hm ρ1 H1 xs l1 s1 r1 a dx ha hdx qp=>?_⟩;split at hm
 ·rename_i hlen
  rw[CL];obtain⟨s2,l2⟩:=Ix (ho:=.own a) s1 hdx
  have uW:upd H1 dx (.own a) a=none:=by rw[BX (CF qp)];exact ha
  obtain⟨s3,l3,xB⟩:=s2.alloc (p:=a) (ho:=.ins C dx []) (o:=.ins C []) uW ⟨dx,[],Bu,.nil⟩;refine⟨ρ1++[a],.ref S1.length :: ds,S1++[.ins C []],by simpa using hlen,.cons (.ref xB) (r1.mono (l2.trans l3)),s3,CD.xk (hm.seq λz S2 hm=>hm) (l1.trans (l2.trans l3)) λz S2 hm ρ' H' y l' s' r'=>?_⟩
  cases z <;> first | exact hm.elim | skip
  cases r';exact⟨rfl,hm ρ' H' _ (l1.trans (l2.trans (l3.trans l'))) s' (.ref (l'.pre _ _ xB))⟩
 ·exact hm.elim
end
theorem KVR.lookup{K}{ρ}{H}(f:Str):∀{x:List (Str×D)} {y:List (Str×V)} {d:D},KVR K ρ H x y->x.lookup f=some d->∃v,y.lookup f=some v/\Bo K ρ H d v
 | _,_,_,.nil,h=>by simp at h
 | (g,a) :: x,(g',b) :: y,d,.cons r t,h=>by
  obtain⟨r1,r2⟩:=r;dsimp only at r1 r2;subst r1;rw[BQ]at h ⊢
  cases hq:(f==g)with
  | true=>rw[hq]at h;cases h;exact⟨b,rfl,r2⟩
  | false=>rw[hq]at h;exact KVR.lookup f t h
def Io(f:Str)(v:D):List (Str×D)->List (Str×D)
 | []=>[(f,v)]
 | (g,x) :: r=>if g=f then(g,v) :: r else(g,x) :: Io f v r
theorem KVR.putF{K}{ρ}{H}(f:Str){d}{v}(rd:Bo K ρ H d v):∀{x:List (Str×D)} {y:List (Str×V)},KVR K ρ H x y->KVR K ρ H (Io f d x) (putF f v y)
 | _,_,.nil=>.cons ⟨rfl,rd⟩ .nil
 | (g,a) :: x,(g',b) :: y,.cons r t=>by
  obtain⟨r1,r2⟩:=r;dsimp only at r1 r2;subst r1;unfold Io L2.putF
  by_cases hq:g=f
  ·rw[qX hq,qX hq];exact .cons ⟨rfl,rd⟩ t
  ·rw[qY hq,qY hq];exact .cons ⟨rfl,r2⟩ (KVR.putF f rd t)
theorem KVR.length{κ:Type}{K:AF}{ρ:List AU}{H:Hp}{x:List (κ×D)}{y:List (κ×V)}(h:KVR K ρ H x y):x.length=y.length:=Eb h
def DJ(C:AU)(f:Str)(m:ME):ME:=λe S=>(m e S).bind λd S1=>match d with
 | .ref n=>match S1[n]? with
  | some (.ins C' fs)=>if C'=C then(match fs.lookup f with | some v=>.ok v S1 | none=>.bad)else .bad
  | _=>.bad
 | _=>.bad
def Iz(C:AU)(f:Str)(mo mv:ME):MS:=λe S=>(mv e S).lift e λv S1=>(mo e S1).lift e λd S2=>match d with
 | .ref n=>match S2[n]? with
  | some (.ins C' fs)=>if C'=C/\fs.length < 1000 then .ok (.nx e) (S2.set n (.ins C (Io f v fs)))else .bad
  | _=>.bad
 | _=>.bad
section
variable{X:Cx}{E:EW}{o e value:Expr}{m mv:ME}
theorem Cc(hc:Cls X.K C)(hn:Eh X.K C f)(he:GE X E e m)(hb:EQ e f X.env (CH e X.env)=CH e X.env:=by rfl):GE X E (.Attribute e f pos) (DJ C f m):=(kF he hb).imp λσ H Q ⟨ρ,l,S,hl,hs,hm⟩=>by
 refine⟨ρ,l,S,hl,hs,hm.seq λx S1 hm ρ1 H1 v l1 s1 r1=>?_⟩
 cases x <;> first | exact hm.elim | skip
 rename_i n;dsimp only at hm
 cases ho:S1[n]? with
 | none=>rw[ho]at hm;exact hm.elim
 | some ob=>
  rw[ho]at hm
  cases ob <;> first | exact hm.elim | skip
  rename_i C' fs;dsimp only at hm;split at hm
  ·rename_i hC
   rw[hC]at ho
   cases r1 with
   | ref qG=>
    obtain⟨dx,rP,e1,e2⟩:=s1.ob n _ _ ho qG
    cases hq:fs.lookup f with
    | none=>rw[hq]at hm;exact hm.elim
    | some w=>
     rw[hq]at hm;obtain⟨v,h3,h4⟩:=KVR.lookup f e2 hq;exact⟨_,_,dx,rP,v,rfl,e1,hc,hn,h3,hm ρ1 H1 v l1 s1 h4⟩
  ·exact hm.elim
theorem JQ(hc:Cls X.K C)(hn:Eh X.K C f)(ha:GE X E o m)(hv:GE X E value mv)(hs:Fu value (some (.Attribute o f pos')) pos.line X.env=pure false:=by rfl):GS X E (.Assign [.Attribute o f pos'] value pos) (Iz C f m mv):=(jx ha hv hs).imp λD σ H ⟨ρ,l,S,hl,hs,hm⟩=>by
 refine⟨ρ,l,S,hl,hs,hm.lift hl .refl λv S1 hm ρ1 H1 y l1 s1 r1=>⟨ρ1,l,S1,hl.mono l1,s1,(hm.later l1).lift (hl.mono l1) l1 λx S2 hm ρ2 H2 u l2 s2 r2=>?_⟩⟩
 cases x <;> first | exact hm.elim | skip
 rename_i n;dsimp only at hm
 cases ho:S2[n]? with
 | none=>rw[ho]at hm;exact hm.elim
 | some ob=>
  rw[ho]at hm
  cases ob <;> first | exact hm.elim | skip
  rename_i C' fs;dsimp only at hm;split at hm
  ·rename_i hC
   obtain⟨hC,hlen⟩:=hC;rw[hC]at ho
   cases r2 with
   | ref qG=>
    obtain⟨dx,rP,e1,e2⟩:=s2.ob n _ _ ho qG;have le:Le X.K ρ2 H2 ρ2 (upd H2 _ (.ins C dx (putF f y rP))):=Le.write qG (by rw[e1];trivial);obtain⟨s3,l3⟩:=s2.write (ho:=.ins C dx (putF f y rP)) (o:=.ins C (Io f v fs)) qG ⟨dx,_,Bu,(KVR.putF f (r1.mono l2) e2).mono le⟩ le;refine⟨_,C,dx,rP,rfl,e1,hc,hn,by rw[<-KVR.length e2];exact hlen,?_⟩;exact hm ρ2 _ σ (l1.trans (l2.trans l3)) s3 (hl.mono (l1.trans (l2.trans l3)))
  ·exact hm.elim
end
def ExAt(Nw:AU->Prop)(F:Option AH->Prop)(ea C:AU)(H:Hp)(h:Cu):Prop:=
 H ea=none/\Nw ea/\∃(oe:Obj) (vs:Array AH) (a0:AH),h.get? ea=some oe/\oe.cls=.ref C/\(oe.dict=none/\oe.data=.fields vs)/\vs[0]?=some a0 /\
  ((F none/\vs[1]?=some .none)∨∃(T:AU) (oT:Obj) (ts:Array AH) (fl:AH),F (some fl)/\vs[1]?=some (.ref T)/\T≠ea/\H T=none/\Nw T/\h.get? T=some oT/\oT.data=.fields ts/\ts[3]?=some fl)
def CXG(P:Ba)(w:Bx):CXT:=λouter H s E e s'=>∃ea C H',e=.ref ea/\s'.os=s.os/\Jj s'.gens/\Un (frs outer) [] H H' s.heap s'.heap/\HOk P w H' s'.heap/\ExAt (λb=>s.heap.get? b=none) (· = some .none) ea C H' s'.heap/\E (.ref C) none H'
theorem Inv.with(I:Inv X ζ σ H s)(z:AH->AL->Prop):Inv { X with xe:=z } ζ σ H s:=by
 obtain⟨ok,a,b,c,d,e,f,g,i,j,l⟩:=I;obtain⟨o1,o2,o3,o4,o5,o6,o7,o8,o9,yZ,z9,za,zb,zc,zd,ze,zf,zg⟩:=ok;exact⟨⟨o1,o2,o3,o4,o5,o6,o7,o8,o9,yZ,z9,za,zb,zc,zd,ze,zf,zg⟩,a,b,c,d,e,f,g,i,j,l⟩
theorem Inv.without(I:Inv { X with xe:=z } ζ σ H s):Inv X ζ σ H s:=by
 have:=I.with X.xe
 exact this
structure Good(X:Cx)(E:EW):Prop where
 pass:Ke (CXG X.prog X.w) X (S9 E)
 own:Sv (Ak X.prog X.w) X.A X.env X.xe
 made:∀(ζ:List (AU×Obj)) (σ:St) (H:Hp) (s:AL) (h':Cu) (ea C:AU) (args:List AH),Inv X ζ σ H s->E C σ H->Cu.MadeExcOf s.heap h' ea (.ref C) args->X.xe (.ref ea) { s with heap:=h' }
theorem good_none(hx:X.xe=λ_ _=>False):Good X noE:=by
 refine⟨λζ σ H s e s' I h=>?_,by rw[hx];exact Sv.never,λ_ _ _ _ _ _ _ _ _ w _=>w.elim⟩;obtain⟨ea,C,H',rfl,os,bare,un,hok,x,_,c,ec,w⟩:=h;exact w.elim
def Hd(n:Nat)(ds:List D):Lo:=ds.map some++Bf (n - ds.length) none
theorem WZ{K}{ρ}{H}{N}{ds}{vs}(r:Am K ρ H ds vs):Ff K ρ H (Hd N.length ds) (start N vs):=by
 refine⟨by simp[Hd,start,r.length],λi d q=>?_⟩;unfold Hd at q;unfold start
 by_cases hi:i < ds.length
 ·rw[Ao (by simpa using hi),Aa]at q
  rw[Ao (by rw[AC,<-r.length];exact hi),Aa]
  cases e:ds[i]? with
  | none=>rw[e]at q;cases q
  | some d'=>
   rw[e]at q;cases q;obtain⟨v,h1,h2⟩:=r.get e;exact⟨v,by rw[h1];rfl,h2⟩
 ·rw[Bg (by simpa using hi),DQ]at q
  split at q <;> cases q
section
variable{X:Cx}
def intOp(C:Int->Int->Prop)[∀i j,Decidable (C i j)](g:Int->Int->D):D->D->Sto->Res D
 | .int i,.int j,S=>if C i j then .ok (g i j) S else .bad
 | _,_,_=>.bad
theorem cI[∀i j,Decidable (C i j)](h:intOp C g a b S=.ok d S'):∃i j,a=.int i/\b=.int j/\C i j/\d=g i j/\S'=S:=by
 unfold intOp at h;split at h
 ·split at h
  ·rename_i i j _ hc
   cases h;exact⟨_,_,rfl,rfl,hc,rfl,rfl⟩
  ·cases h
 ·cases h
theorem OL[∀i j,Decidable (C i j)](hv:∀ρ H i j,Bo X.K ρ H (g i j) (v i j))(h:OpR X f (rI C v)):OpR X f (rD X.K (intOp C g)):=h.imp λx y H Q ⟨ρ,S,a,b,d,S',hs,ra,rb,hm,k⟩=>by
 obtain⟨i,j,rfl,rfl,hc,rfl,rfl⟩:=cI hm;cases ra;cases rb;exact⟨i,j,rfl,rfl,hc,k ρ H _ .refl hs (hv _ _ _ _)⟩
theorem Lz(hv:∀ρ H i j,Bo X.K ρ H (g i j) (v i j))(h:OpR X f (rI0 v)):OpR X f (rD X.K (intOp (λ_ _=>True) g)):=
 OL (C:=λ_ _=>True) hv (h.imp λx y H Q ⟨i,j,e1,e2,_,q⟩=>⟨i,j,e1,e2,q⟩)
instance(i j:Int):Decidable (dJ i j):=inferInstanceAs (Decidable (_/\_))
instance(i j:Int):Decidable (dI i j):=inferInstanceAs (Decidable (_/\_/\_))
instance(i j:Int):Decidable (Zw i j):=inferInstanceAs (Decidable (_∨_))
abbrev Rs:=intOp (λ_ _=>True) λi j=>.int (i - j)
abbrev gH:=intOp Zw λi j=>.int (i * j)
abbrev Nk:=intOp dJ λi j=>.int (i / j)
abbrev R3:=intOp (λ_ j=>0 < j) λi j=>.int (i % j)
abbrev ltD:=intOp (λ_ _=>True) λi j=>.bl (decide (i < j))
abbrev leD:=intOp (λ_ _=>True) λi j=>.bl (decide (i<=j))
abbrev gtD:=intOp (λ_ _=>True) λi j=>.bl (decide (j < i))
abbrev geD:=intOp (λ_ _=>True) λi j=>.bl (decide (j<=i))
theorem LL:OpR X (Cr .Sub) (rD X.K Rs):=Lz (λ_ _ _ _=>.int _) kK
theorem ba:OpR X (Cr .Mult) (rD X.K gH):=OL (λ_ _ _ _=>.int _) kO
theorem NT:OpR X (Cr .FloorDiv) (rD X.K Nk):=OL (λ_ _ _ _=>.int _) fj
theorem OK:OpR X (Cr .Mod) (rD X.K R3):=OL (λ_ _ _ _=>.int _) kP
theorem X0:OpR X (CM .Lt) (rD X.K ltD):=Lz (λ_ _ _ _=>.bl _) oA
theorem VR:OpR X (CM .LtE) (rD X.K leD):=Lz (λ_ _ _ _=>.bl _) oB
theorem bb:OpR X (CM .Gt) (rD X.K gtD):=Lz (λ_ _ _ _=>.bl _) oC
theorem oI:OpR X (CM .GtE) (rD X.K geD):=Lz (λ_ _ _ _=>.bl _) oE
def Jr:D->D->Sto->Res D
 | .int i,.int j,S=>.ok (.int (i+j)) S
 | .tup xs,.tup ys,S=>if xs.length+ys.length<=sizeLine then .ok (.tup (xs++ys)) S else .bad
 | .ref l,.ref b,S=>match S[l]?,S[b]? with
  | some (.lst xs),some (.lst ys)=>if xs.length+ys.length<=sizeLine then .ok (.ref S.length) (S++[.lst (xs++ys)])else .bad
  | _,_=>.bad
 | _,_,_=>.bad
def np(K:AF):R2:=λx y H Q=>∃a b xs ys,x=.ref a/\y=.ref b/\H a=some (.tup xs)/\H b=some (.tup ys)/\xs.length+ys.length<=sizeLine /\
 (xs=[]->Q (.ref b) H)/\(ys=[]->Q (.ref a) H)/\(∀p,H p=none->Q (.ref p) (upd H p (.tup (xs++ys))))
theorem fo:OpR X (Cr .Add) (np X.K):=by
 intro ζ s σ H x y v u Q I rx ry h;obtain⟨a,b,xs,ys,rfl,rfl,ha,hb,hz,q0,q1,q2⟩:=h;cases rx;cases ry;obtain⟨i',r1,p1,_⟩:=I.tuple (a:=a) (xs:=xs) (.inl (.inl ha));obtain⟨qj,r2,p2,_⟩:=I.tuple (a:=b) (xs:=ys) (.inl (.inl hb))
 by_cases hx:xs=[]
 ·obtain⟨⟨cls,dd,data,sl⟩,ho,hc,n,hd⟩:=id p1
  obtain⟨⟨cls2,dd2,data2,sl2⟩,ho2,hc2,n2,hd2⟩:=id p2;simp only at hc hd hc2 hd2;subst hc hd hc2 hd2;have hi:i'=[]:=r1.nil_iff.mpr hx
  exact Z5 ⟨_,ho,rfl⟩ ⟨_,ho2,rfl⟩ Sq YZ Jy Jg (JI _ _)
   (tuple_addW0 a b i'.toArray qj.toArray n n2 dd dd2 sl sl2 (by simp[hi])) ⟨ho,ho2,⟨.ref b,H,I,rfl,q0 hx⟩⟩
 ·exact fm ζ s σ H (.ref a) (.ref b) _ _ Q I rfl rfl ⟨a,b,xs,ys,rfl,rfl,.inl (.inl ha),.inl (.inl hb),hx,hz,q1,λ_ p hp=>q2 p hp⟩
theorem Am.nil_of{K}{ρ}{H}{xs}{vs}(r:Am K ρ H xs vs)(e:vs=[]):xs=[]:=by
 subst e;cases r;rfl
theorem G7:OpR X (Cr .Add) (rD X.K Jr):=(kW.or (fo.or kQ)).imp λx y H Q ⟨ρ,S,a,b,d,S',hs,ra,rb,hm,k⟩=>by
 cases ra with
 | int i=>
  cases rb <;> first | (cases hm;done) | skip
  cases hm;exact .inl ⟨_,_,rfl,rfl,k ρ H _ .refl hs (.int _)⟩
 | @tup xs a1 vs h1 h2=>
  cases rb with
  | @tup ys b1 ws h3 h4=>
   unfold Jr at hm;dsimp only at hm;split at hm
   ·rename_i hz
    cases hm;refine .inr (.inl ⟨_,_,_,_,rfl,rfl,h1,h3,by rw[<-h2.length,<-h4.length];exact hz,λe=>?_,λe=>?_,λp hp=>?_⟩)
    ·rw[h2.nil_of e,df]at k
     exact k ρ H _ .refl hs (.tup h3 h4)
    ·rw[h4.nil_of e,CL]at k
     exact k ρ H _ .refl hs (.tup h1 h2)
    ·obtain⟨s2,l2⟩:=Ix (ho:=.tup (vs++ws)) hs hp
     exact k ρ _ _ l2 s2 (.tup Bu ((h2.append h4).mono l2))
   ·cases hm
  | _=>cases hm
 | @ref n a1 hn=>
  cases rb with
  | @ref m b1 qG=>
   unfold Jr at hm;dsimp only at hm;split at hm
   ·rename_i xs ys h1 h2
    split at hm
    ·rename_i hz
     cases hm;obtain⟨vs,e1,r1⟩:=hs.ob _ _ _ h1 hn;obtain⟨us,e2,r2⟩:=hs.ob _ _ _ h2 qG;refine .inr (.inr ⟨_,_,_,_,rfl,rfl,e1,e2,by rw[<-r1.length,<-r2.length];exact hz,λp hp=>?_⟩);have le:Le X.K ρ H (ρ++[p]) (upd H p (.lst (vs++us))):=Le.alloc hp;obtain⟨s2,l2,at2⟩:=hs.alloc (ho:=.lst (vs++us)) (o:=.lst (xs++ys)) hp ⟨_,Bu,(r1.append r2).mono le⟩;exact k _ _ _ l2 s2 (.ref at2)
    ·cases hm
   ·cases hm
  | _=>cases hm
 | _=>cases hm
def ixD:D->D->Sto->Res D:=λa b S=>match GF a S,b with
 | some ds,.int i=>match atI ds i with
  | some d=>.ok d S
  | none=>.bad
 | _,_=>.bad
theorem iB{K}{ρ}{H}{ds}{vs}{i}{d}(r:Am K ρ H ds vs)(h:atI ds i=some d):∃v,atI vs i=some v/\Bo K ρ H d v:=by
 unfold atI at h ⊢;rw[<-r.length]
 cases hq:ixN ds.length i with
 | none=>rw[hq]at h;cases h
 | some j=>
  rw[hq]at h;exact r.get h
theorem oG:IxR X (rD X.K ixD):=(gZ.or kr).imp λx y H Q ⟨ρ,S,a,b,d,S',hs,ra,rb,hm,k⟩=>by
 unfold ixD at hm;split at hm
 ·rename_i ds i hq
  split at hm
  ·rename_i d' hd
   cases hm;cases rb;obtain⟨p,xs,rfl,rr,sq⟩:=Pt hs ra hq;obtain⟨v,h1,h2⟩:=iB rr hd
   rcases sq with sq | sq
   ·exact .inl ⟨p,xs,_,v,rfl,rfl,sq,h1,k ρ H v .refl hs h2⟩
   ·exact .inr ⟨p,xs,_,v,rfl,rfl,sq,h1,k ρ H v .refl hs h2⟩
  ·cases hm
 ·cases hm
end
def mQ(f:List D->Sto->Res D)(m:ML):ME:=λe S=>(m e S).bind λds S1=>okR (f ds S1)
section
variable{X:Cx}{E:EW}{e:Expr}{es:List Expr}{x:Str}{p pos:Pos}{ml:ML}{id:String}{r:List V->Hp->VK->Prop}{f:List D->Sto->Res D}
def pO(K:AF)(r:List V->Hp->VK->Prop)(f:List D->Sto->Res D):Prop:=∀ρ H S ds q xs d S' (Q:VK),B2 K ρ S H->Am K ρ H ds xs->(SqL K H q xs∨SqT K H q xs)->f ds S=.ok d S' ->
 (∀ρ' H' z,Le K ρ H ρ' H'->B2 K ρ' S' H'->Bo K ρ' H' d z->Q z H')->r [.ref q] H Q
def lv(K:AF)(r:List V->Hp->VK->Prop)(f:List D->Sto->Res D):Prop:=∀ρ H S ds xs d S' (Q:VK),B2 K ρ S H->Am K ρ H ds xs->f ds S=.ok d S' ->
 (∀ρ' H' z,Le K ρ H ρ' H'->B2 K ρ' S' H'->Bo K ρ' H' d z->Q z H')->r xs H Q
theorem gj(hc:Kj X (.builtin id) r)(hf:pO X.K r f)(hg:Gl X x)(hm:X.mg x=none)(hv:Fv x=some (.builtin id))(h:GQ X E e ml)(hn:x≠"__name__":=by decide) (qJ:(x==("__debug__" : Str))=false:=by decide)
  (he:AX [e] X.env=(false,CH e X.env) :: AX [] X.env:=by rfl):GE X E (.Call (.Name x p) [e] [] pos) (mQ f ml):=(LI hc hg hm hv (FI h IS he) hn qJ he rfl).imp λσ H Q ⟨ρ,l,S,hl,hs,hm⟩=>by
 refine⟨ρ,l,S,hl,hs,hm.seq λds S1 hm ρ1 H1 q xs l1 s1 r1 sq=>?_⟩;obtain⟨d,S',e,k⟩:=hm.okR
 exact hf ρ1 H1 S1 ds q xs d S' Q s1 r1 sq e λρ' H' z l' s' r'=>k ρ' H' z (l1.trans l') s' r'
theorem YI(hc:Kj X (.builtin id) r)(hf:lv X.K r f)(hg:Gl X x)(hm:X.mg x=none)(hv:Fv x=some (.builtin id))(h:GA X E (e :: es) ml)(hn:x≠"__name__":=by decide) (qJ:(x==("__debug__" : Str))=false:=by decide)
  (he:AX (e :: es) X.env=(false,CH e X.env) :: AX es X.env:=by rfl) (qv:(Dp pos (AX es X.env)).any (·.1)=false:=by rfl):GE X E (.Call (.Name x p) (e :: es) [] pos) (mQ f ml):=(LI hc hg hm hv h hn qJ he qv).imp λσ H Q ⟨ρ,l,S,hl,hs,hm⟩=>by
 refine⟨ρ,l,S,hl,hs,hm.seq λds S1 hm ρ1 H1 xs l1 s1 r1=>?_⟩;obtain⟨d,S',e,k⟩:=hm.okR
 exact hf ρ1 H1 S1 ds xs d S' Q s1 r1 e λρ' H' z l' s' r'=>k ρ' H' z (l1.trans l') s' r'
def oV(ds:List D)(S:Sto):Res D:=.ok (.int ds.length) S
theorem jj:pO X.K (λxs H Q=>∃p ys,xs=[.ref p]/\(SqL X.K H p ys∨SqT X.K H p ys)/\Q (.int ys.length) H) oV:=λρ H S ds q xs d S' Q hs rr sq hm k=>by
 cases hm;exact⟨q,xs,rfl,sq,k ρ H _ .refl hs (by rw[rr.length];exact .int _)⟩
def Os:List D->Sto->Res D
 | [.int i,.int j],S=>.ok (.int (if j < i then j else i)) S
 | _,_=>.bad
def NV:List D->Sto->Res D
 | [.int i,.int j],S=>.ok (.int (if j > i then j else i)) S
 | _,_=>.bad
theorem iF:lv X.K (λxs H Q=>∃i j,xs=[.int i,.int j]/\Q (.int (if j < i then j else i)) H) Os:=λρ H S ds xs d S' Q hs rr hm k=>by
 unfold Os at hm;split at hm
 ·cases hm
  cases rr with
  | cons a t=>
   cases t with
   | cons b t=>
    cases t;cases a;cases b;exact⟨_,_,rfl,k ρ H _ .refl hs (.int _)⟩
 ·cases hm
theorem iG:lv X.K (λxs H Q=>∃i j,xs=[.int i,.int j]/\Q (.int (if j > i then j else i)) H) NV:=λρ H S ds xs d S' Q hs rr hm k=>by
 unfold NV at hm;split at hm
 ·cases hm
  cases rr with
  | cons a t=>
   cases t with
   | cons b t=>
    cases t;cases a;cases b;exact⟨_,_,rfl,k ρ H _ .refl hs (.int _)⟩
 ·cases hm
end
def D3(X:Cx)(scope:Rh)(N':List Str)(cl:List (Str×AU))(C:AU)(s₁:AL)(H₁:Hp)(ex:List AU)(pn:List (AU×Obj)):Cx where
 prog:=X.prog
 w:=X.w
 K:=X.K
 mg:=X.mg
 base:=X.base
 A:=X.A
 N:=N'
 s₀:=s₁
 H₀:=H₁
 env:=compEnvC scope cl C X.env
 outer:=X.stack
 stack:=X.stack
 ex:=ex
 fn:=λx=>scope.names.lookup x==some .cell
 calm:=X.calm
 pn:=pn
 xe:=λ_ _=>False
theorem UF:∀(names:List (Str×N0)) (acc:List (Str×AU)),(∀y∈names,y.2=.free->∃c,env.cells.lookup y.1=some c)->(∀n c,acc.lookup n=some c->env.cells.lookup n=some c) ->
  ∃cl,(forIn names acc (λ(x:Str×N0) (cs:List (Str×AU))=>match x with | (name,kind)=>if (kind==FS)=true then do let a <-cellOf env name;pure (HN ((name,a) :: cs))else pure (HN cs)):Sem (List (Str×AU)))=pure cl /\
   (∀n c,cl.lookup n=some c->env.cells.lookup n=some c)/\(∀n c,acc.lookup n=some c->∃c',cl.lookup n=some c')/\∀y∈names,y.2=.free->∃c,cl.lookup y.1=some c
 | [],acc,_,ha=>⟨acc,rfl,ha,λn c h=>⟨c,h⟩,λ_ h=>nomatch h⟩
 | (n,k) :: r,acc,h,ha=>by
  rw[dh]
  by_cases hk:k=.free
  ·subst hk
   obtain⟨c,hc⟩:=h (n,.free) AO rfl
   obtain⟨cl,e,h1,h2,h3⟩:=UF r ((n,c) :: acc) (λy hy=>h y (AJ _ hy)) (λm d hm=>by
    rw[BQ]at hm
    cases hq:(m==n)with
    | true=>rw[hq]at hm;cases hm;rw[eq_of_beq hq];exact hc
    | false=>rw[hq]at hm;exact ha m d hm)
   have e0:cellOf env n=pure c:=by unfold cellOf;rw[hc]
   refine⟨cl,?_,h1,λm d hm=>h2 m (if m==n then c else d) ?_,λy hy hf=>?_⟩
   ·simp only[beq_self_eq_true,if_true,e0,pure_bind]
    exact e
   ·rw[BQ]
    cases hq:(m==n)with
    | true=>rfl
    | false=>exact hm
   ·rcases AV.mp hy with rfl | hy
    ·exact h2 n c (by rw[BQ,beq_self_eq_true])
    ·exact h3 y hy hf
  ·have hb:(k==FS)=false:=by simpa using hk
   obtain⟨cl,e,h1,h2,h3⟩:=UF r acc (λy hy=>h y (AJ _ hy)) ha;refine⟨cl,?_,h1,h2,λy hy hf=>?_⟩
   ·simp only[hb,Dm,if_false,pure_bind]
    exact e
   ·rcases AV.mp hy with rfl | hy
    ·exact(hk hf).elim
    ·exact h3 y hy hf
theorem YS(h:∀y∈scope.names,y.2=.free->∃c,env.cells.lookup y.1=some c):∃cl,closureFor scope env=pure cl /\
  (∀n c,cl.lookup n=some c->env.cells.lookup n=some c)/\∀y∈scope.names,y.2=.free->∃c,cl.lookup y.1=some c:=by
 obtain⟨cl,e,h1,_,h3⟩:=UF scope.names [] h (λn c z=>by simp at z);refine⟨cl,?_,h1,h3⟩;unfold closureFor;exact(congrArg (λz=>z >>= λcs=>pure cs) e).trans (by rw[pure_bind])
def XT(X:Cx)(ifs:List Expr)(t:TT):Prop:=
 ∀(ζ:List (AU×Obj)) (s:AL) (σ:St) (H:Hp) (Q:Bool->Hp->Prop),Inv X ζ σ H s->t σ H Q ->
  Ae (Ak X.prog X.w) X.A (forIn ifs true λc r=>if r=true then do let ok <-i3 c X.env (CH c X.env);pure (HN ok)else pure (HN r)) (TP X ζ σ Q) X.xe s
theorem bK:XT X [] (λ_ H Q=>Q true H):=λζ s σ H Q I h=>wpAny_tests_nil ⟨H,I,h⟩
theorem bJ(h:PT X c t):XT X [c] t:=λζ s σ H Q I q=>wpAny_tests_one (h ζ s σ H Q I q)
structure Mx(X:Cx)(scope:Rh)(own N':List Str):Prop where
 kind:scope.kind=.function
 names:∀y∈scope.names,y.2=.local->scope.names.lookup y.1=some .local
 free:∀y∈scope.names,y.2=.free->X.env.kindOf y.1=some .cell∨X.env.kindOf y.1=some .free
 len:N'.length=own.length+X.N.length
 up:∀i x,N'[own.length+i]?=some x->Vis (Jd scope X.env) x->(X.N[i]?=some x/\Vis X.env.scope x/\((Jd scope X.env).names.lookup x=some .cell∨(Jd scope X.env).names.lookup x=some .free)/\X.env.kindOf x≠some .local)/\(x,Ck)∉scope.names/\(x,FS)∈scope.names
 vis:∀x,((Jd scope X.env).names.lookup x=some .cell∨(Jd scope X.env).names.lookup x=some .free)->(x,FS)∈scope.names∨(x,Ck)∈scope.names
theorem FK:∀(names:List (Str×N0)) (n:Nat) (acc:List (Str×AU)) (x:Str) (c:AU),(B0 n names acc).lookup x=some c ->
  ((x,Ck)∈names/\n<=c)∨acc.lookup x=some c
 | [],_,_,_,_,h=>.inr h
 | (y,k) :: r,n,acc,x,c,h=>by
  unfold B0 at h;split at h
  ·rename_i hk
   have hk:k=.cell:=by simpa using hk
   subst hk
   rcases FK r (n+1) _ x c h with⟨h1,h2⟩ | h1
   ·exact .inl ⟨AJ _ h1,O5 h2⟩
   ·rw[BQ]at h1
    cases hb:x==y with
    | true=>rw[hb]at h1;cases h1;rw[beq_iff_eq.mp hb];exact .inl ⟨AO,AK _⟩
    | false=>rw[hb]at h1;exact .inr h1
  ·rcases FK r n acc x c h with⟨h1,h2⟩ | h1
   ·exact .inl ⟨AJ _ h1,h2⟩
   ·exact .inr h1
theorem DE:∀(names:List (Str×N0)) (n:Nat) (acc:List (Str×AU)) (x:Str),(∃c,acc.lookup x=some c)->∃c,(B0 n names acc).lookup x=some c
 | [],_,_,_,h=>h
 | (y,k) :: r,n,acc,x,h=>by
  unfold B0;split
  ·refine DE r (n+1) _ x ?_
   rw[BQ]
   cases hb:x==y with
   | true=>exact⟨_,rfl⟩
   | false=>exact h
  ·exact DE r n acc x h
theorem Dx:∀(names:List (Str×N0)) (n:Nat) (acc:List (Str×AU)) (x:Str),(x,Ck)∈names->∃c,(B0 n names acc).lookup x=some c/\n<=c
 | (y,k) :: r,n,acc,x,h=>by
  unfold B0
  by_cases hr:(x,Ck)∈r
  ·split
   ·obtain⟨c,h1,h2⟩:=Dx r (n+1) ((y,n) :: acc) x hr
    exact⟨c,h1,O5 h2⟩
   ·exact Dx r n acc x hr
  ·rcases AV.mp h with e | e
   ·cases e
    rw[qX (show(Ck==Ck)=true from rfl)];obtain⟨c,hc⟩:=DE r (n+1) ((y,n) :: acc) y ⟨n,by rw[BQ,beq_self_eq_true]⟩
    rcases FK r (n+1) _ y c hc with⟨h1,_⟩ | h1
    ·exact(hr h1).elim
    ·rw[BQ,beq_self_eq_true]at h1
     cases h1;exact⟨n,hc,AK _⟩
   ·exact(hr e).elim
theorem MC(hx:(x,Ck)∉names)(h:acc.lookup x=some c):(B0 n names acc).lookup x=some c:=by
 obtain⟨c',h'⟩:=DE names n acc x ⟨c,h⟩
 rcases FK names n acc x c' h' with⟨h1,_⟩ | h1
 ·exact(hx h1).elim
 ·rw[h]at h1;cases h1;exact h'
theorem JY:∀(names:List (Str×N0)) (n:Nat) (acc:List (Str×AU)),(∀x c,acc.lookup x=some c->c < n)->(∀x y c,acc.lookup x=some c->acc.lookup y=some c->x=y) ->
  ∀x y c,(B0 n names acc).lookup x=some c->(B0 n names acc).lookup y=some c->x=y
 | [],_,_,_,h=>h
 | (z,k) :: r,n,acc,hl,h=>by
  unfold B0;split
  ·have key:∀x c,((z,n) :: acc).lookup x=some c->(x=z/\c=n)∨acc.lookup x=some c:=λx c q=>by
    rw[BQ]at q
    cases hb:x==z with
    | true=>rw[hb]at q;cases q;exact .inl ⟨beq_iff_eq.mp hb,rfl⟩
    | false=>rw[hb]at q;exact .inr q
   refine JY r (n+1) _ (λx c q=>?_) λx y c q1 q2=>?_
   ·rcases key x c q with⟨_,rfl⟩ | e
    ·exact DD _
    ·exact O4 (hl x c e)
   ·rcases key x c q1 with⟨e,e1⟩ | e <;> rcases key y c q2 with⟨e',e1'⟩ | e'
    ·rw[e,e']
    ·subst e1;exact zX (hl _ _ e') (Dd _)
    ·subst e1';exact zX (hl _ _ e) (Dd _)
    ·exact h x y c e e'
  ·exact JY r n acc hl h
theorem JX:∀(names:List (Str×N0)) (h:Cu) (acc:List (Str×AU)) (x:Str) (c:AU),(B0 h.objs.size names acc).lookup x=some c->acc.lookup x=some c∨((Ea h names).IsCell c none/\h.objs.size<=c)
 | [],_,_,_,_,q=>.inl q
 | (y,k) :: r,h,acc,x,c,q=>by
  unfold B0 at q;unfold Ea;split at q
  ·rename_i hk
   rw[qX hk];have:=JX r (h.push { cls:=.type "cell",data:=.cell none }) ((y,h.objs.size) :: acc) x c (by rw[EL];exact q)
   rcases this with e | ⟨e,l⟩
   ·rw[BQ]at e
    cases hb:x==y with
    | true=>
     rw[hb]at e;cases e;exact .inr ⟨⟨_,UU _ _ _ _ (Af _ rfl),rfl⟩,AK _⟩
    | false=>rw[hb]at e;exact .inl e
   ·exact .inr ⟨e,by rw[EL]at l;exact O5 l⟩
  ·rename_i hk
   rw[qY hk];exact JX r h acc x c q
theorem WH
  (h:Q (newEnv scope s.heap.objs.size globals (B0 (s.heap.push { cls:=.type "dict",data:=.dict #[] }).objs.size scope.names cl) qual none .none (some outer) V9) { s with heap:=Ea (s.heap.push { cls:=.type "dict",data:=.dict #[] }) scope.names }) :
  Ae M A (V7 scope globals cl [] qual none .none (some outer)) Q E s:=by
 simp only[V7,Xb,if_true];refine AB (wpAny_alloc ?_);refine AB (wpAny_layCells _ (λname kind cells=>by cases hkc:kind==Ck <;> simp[hkc]) _ _ _ _ ?_);rw[SA];exact AB (AM (AM h))
section
theorem XG(Sc:Mx X scope own N')(I:Inv X ζ σ H2 s2)(hf:∀b∈fp,Mw X ζ H2 b)(sZ:∀b∈fp,b < s2.heap.objs.size)
  (c1:∀n c,cl.lookup n=some c->X.env.cells.lookup n=some c) (c2:∀y∈scope.names,y.2=.free->∃c,cl.lookup y.1=some c)
  (qG:s2.heap.objs.size<=n) (vP:∀x c,(B0 n scope.names cl).lookup x=some c->cl.lookup x=some c∨(s.heap.IsCell c none/\n<=c)) (uX:∀c,n<=c->H c=none)
  (hC:s2.heap.objs.size<=C) (hn:s.heap.Ns C m) (sU:s.os=s2.os) (hg:Jj s.gens)
  (u:Un (frs X.stack) fp H2 H s2.heap s.heap) (hok:HOk X.prog X.w H s.heap) (sA:H C=none) :
  Inv (D3 X scope N' (B0 n scope.names cl) C s2 H2 fp (X.pn++ζ)) [] (Bf own.length none++σ) H s:=by
 have cellK:∀x c v,cl.lookup x=some c->s2.heap.IsCell c v->s.heap.IsCell c v:=λx c v e ⟨o,ho,hd⟩=>by
  obtain⟨sl,q⟩:=u.any ho (I.freeC x c (c1 x c e)) λz=>(hf c z).2.2.2.2.1 x c (c1 x c e) rfl
  exact⟨_,q,hd⟩
 have zh:∀x c,cl.lookup x=some c->c < n:=λx c e=>by
  obtain⟨v,z⟩:=I.cell x c (c1 x c e);exact AS z.lt qG
 have zi:(D3 X scope N' (B0 n scope.names cl) C s2 H2 fp (X.pn++ζ)).Ok:=by
  refine⟨I.ok.mod,Sc.kind,I.ok.glob,I.ok.blt,hC,JY _ _ _ zh λx y c h1 h2=>I.ok.inj x y c (c1 x c h1) (c1 y c h2),λx hx=>?_,λx c z q=>?_,I.ok.hd,I.ok.frames,.inl rfl,λb hb=>?_,I.bs,Aw I.ok.bsz I.sz,λb o e hb=>?_,λb hb qg=>?_,I.stack,I.stkFree⟩
  ·rcases Sc.vis x hx with h | h
   ·exact DE _ _ _ _ (c2 _ h rfl)
   ·obtain⟨c,hc,_⟩:=Dx scope.names n cl x h
    exact⟨c,hc⟩
  ·have z:(scope.names.lookup x==some .cell)=true:=z
   obtain⟨c',qA,hl⟩:=Dx scope.names n cl x (DT (beq_iff_eq.mp z));have q:(B0 n scope.names cl).lookup x=some c:=q;rw[qA]at q;cases q;exact Aw qG hl
  ·refine⟨BB (AS (sZ b hb) hC),λx c e=>?_⟩
   rcases vP x c e with e | ⟨_,e⟩
   ·exact(hf b hb).2.2.2.2.1 x c (c1 x c e)
   ·exact Ec (AS (sZ b hb) (Aw qG e))
  ·obtain⟨_,_,_,z,_⟩:=hf b hb
   rcases z with z | z
   ·exact I.ok.noex b o e z
   ·exact zX (AS (Ad (I.ok.bs b o e).1) z) (Dd _)
  ·obtain⟨_,z1,z2,_⟩:=hf b hb
   rcases AV.mp (I.stkSub b qg)with e | e
   ·exact z1 e
   ·exact z2 e
 refine⟨zi,sU,hg,u,⟨m,hn,λi x v e1 e2 e3=>?_⟩,λx c e=>?_,sA,λx c e=>?_,λp hp=>?_,hok,?_⟩
 ·have hi:own.length<=i:=by
   apply P7
   intro qt;rw[Ao (by simpa using qt),DQ,qX qt]at e2;cases e2
  obtain⟨j,rfl⟩:∃j,i=own.length+j:=⟨i - own.length,by lia⟩
  rw[Bg (by simp)]at e2
  have zj:σ[j]?=some (some v):=by simpa using e2
  obtain⟨⟨n1,n2,n3,n4⟩,n5,n6⟩:=Sc.up j x e1 e3;obtain⟨m0,u9,hl⟩:=I.loc;obtain⟨w',r,lk⟩:=hl j x v n1 zj n2;refine⟨w',r,.inr ⟨n3,?_⟩⟩
  rcases lk with⟨k,_⟩ | ⟨_,c,hc,qu⟩
  ·exact(n4 k).elim
  ·obtain⟨c',qA⟩:=c2 _ n6 rfl
   have e:=c1 x c' qA;rw[hc]at e;cases e;exact⟨c,MC n5 qA,cellK x c _ qA qu⟩
 ·rcases vP x c e with e | ⟨e,_⟩
  ·obtain⟨v,z⟩:=I.cell x c (c1 x c e)
   exact⟨v,cellK x c v e z⟩
  ·exact⟨none,e⟩
 ·rcases vP x c e with e | ⟨_,e⟩
  ·obtain⟨v,o,ho,hd⟩:=I.cell x c (c1 x c e)
   exact u.free c o ho (I.freeC x c (c1 x c e)) λz=>(hf c z).2.2.2.2.1 x c (c1 x c e) rfl
  ·exact uX c e
 ·have xC:p∈X.pn++ζ:=by
   have hp:p∈(X.pn++ζ)++[]:=hp;rwa [CL]at hp
  obtain⟨e,n,ne,nf,d⟩:=I.pin p xC
  have xD:p.1∉frs X.stack:=λz=>(AV.mp (I.stkSub _ z)).elim ne nf
  have xE:p.1∉fp:=λz=>(hf _ z).2.2.2.2.2 p xC rfl
  exact⟨u.keep p.1 p.2 e n xD xE,u.free p.1 p.2 e n xE,BB (AS (Ad e) hC),xD,d⟩
 ·show(Bf own.length none++σ).length=N'.length
  rw[As,Ln,I.len,Sc.len]
def ag(k:Nat)(wi:TI)(g:TG)(tc:TT)(te:TE):TE:=λσ H Q=>wi σ H λJ H1=>∀p,H1 p=none->∃W:Nat->Nat->St->Hp->List V->Prop,(∃m,W 0 m (Bf k none++σ) (upd H1 p (.lst [])) []) /\
 ∀i m σ' H' xs,W i m σ' H' xs->H' p=some (.lst xs)/\((J.stop i H'/\Q (.ref p) H')∨(J.go i H'/\xs.length < sizeLine/\∀x rE,J.yld i H' x rE->g x σ' rE λσ2 H2=>tc σ2 H2 λb H3=>
  if b=true then te σ2 H3 λy H4=>H4 p=some (.lst xs)/\∃m',m' < m/\W (i+1) m' σ2 (upd H4 p (.lst (xs++[y]))) (xs++[y])else ∃m',m' < m/\W (i+1) m' σ2 H3 xs))
theorem Zl{X':Cx}{elt ϖ iter:Expr}{ifs:List Expr}{pos:Pos}{J:It}{it p:AU}{tn:Nat->Cu->Prop}{g:TG}{tc:TT}{te:TE}{R:Result->AL->Prop}{Q:Hp->Prop}
  (hc:X'.calm=true) (hx:X'.xe=λ_ _=>False) (T:UK X'.prog X'.w X'.K ϖ J fp it tn) (hg:PG X' ϖ g) (rF:XT X' ifs tc) (he:PE X' elt te)
  (W:Nat->Nat->St->Hp->List V->Prop) (turn:∀i m σ' H' xs,W i m σ' H' xs->H' p=some (.lst xs)/\((J.stop i H'/\Q H')∨(J.go i H'/\xs.length < sizeLine/\∀x rE,J.yld i H' x rE->g x σ' rE λσ2 H2=>tc σ2 H2 λb H3=>
   if b=true then te σ2 H3 λy H4=>H4 p=some (.lst xs)/\∃m',m' < m/\W (i+1) m' σ2 (upd H4 p (.lst (xs++[y]))) (xs++[y])else ∃m',m' < m/\W (i+1) m' σ2 H3 xs)))
  (fin:∀σ' H' s',Inv X' [] σ' H' s'->Q H'->R (.ok .next) s')
  {m0:Nat} {σ0:St} {H0:Hp} {s0:AL} (I0:Inv X' [] σ0 H0 s0) (zk:tn 0 s0.heap) (f0:∀b∈fp,Mw X' [] H0 b) (w0:W 0 m0 σ0 H0 []) :
  MW (Ak X'.prog X'.w) X'.A (.compLoop (.ListComp elt [⟨ϖ,iter,ifs,0⟩] scope pos) 0 (.ref it) (.ref p) X'.env) R s0:=by
 have qO:∀{H':Hp},(∀b∈fp,H' b=none)->∀b∈fp,Mw X' [] H' b:=λhn b hb=>⟨hn b hb,(f0 b hb).2⟩
 refine codeAny_loop rfl (λn s'=>∃i σ' H' xs,Inv X' [] σ' H' s'/\tn i s'.heap/\(∀b∈fp,H' b=none)/\W i n σ' H' xs) (λn s1 hI=>?_) m0 ⟨0,σ0,H0,[],I0,zk,λb hb=>(f0 b hb).1,w0⟩;obtain⟨i,σ1,H1,xs,I1,qD,xF,w1⟩:=hI;show Ae _ X'.A ((compTurn (.ListComp elt [⟨ϖ,iter,ifs,0⟩] scope pos) 0 (.ref it) (.ref p) X'.env).onRaise (λx=>do noteFrame x X'.env;theTreesLotGoes x)) _ _ s1;refine wpAny_noted ?_;rw[compTurn_list]
 have up:∀{α:Type} {t:Sem α} {P:α->AL->Prop} {E:AH->AL->Prop} {s:AL},Ae (Ak X'.prog X'.w) X'.A t P X'.xe s->Ae (Ak X'.prog X'.w) X'.A t P E s:=λh=>Gy h (λ_ _ z=>z) λ_ _ z=>by rw[hx]at z;exact z.elim
 obtain⟨hp,ua⟩:=turn i n σ1 H1 xs w1;refine AB (wpAny_standAt (AB ?_))
 rcases ua with⟨stop,q⟩ | ⟨go,hz,step⟩
 ·refine up (thn (T.done X' rfl rfl rfl hc i [] s1 σ1 H1 X'.xe I1 (qO xF) qD stop) λr s4 ⟨hr,I4⟩=>?_)
  subst hr;exact AM (fin σ1 H1 s4 I4 q)
 ·refine up (thn (T.item X' rfl rfl rfl hc i [] s1 σ1 H1 X'.xe I1 (qO xF) qD go) λr s4 ⟨u,hr,h4⟩=>?_)
  subst hr;refine AB (up (thn h4 λ_ s5 ⟨x,H5,I5,r5,y5,st5,fr5⟩=>?_));have vE:=I5.pinned (qO fr5) (T.obj _ _ st5);refine AB (up (thn (hg _ s5 σ1 H5 x u _ vE r5 (step x H5 y5)) λ_ s6 ⟨σ6,H6,I6,q6⟩=>?_))
  have mF:∀{s7:AL} {σ7:St} {H7:Hp} {ys:List V},Inv X' ([]++Qh fp s5.heap) σ7 H7 s7->(∃m',m' < n/\W (i+1) m' σ7 H7 ys)->∃m,m < n/\∃i σ' H' xs,Inv X' [] σ' H' s7/\tn i s7.heap/\(∀b∈fp,H' b=none)/\W i m σ' H' xs:=λ{s7 σ7 H7 ys} I7 ⟨m',hm,w7⟩=>by
   refine⟨m',hm,i+1,σ7,H7,ys,I7.unpinned,T.keep _ _ _ st5 λb hb o e=>(I7.pin (b,o) (BP _ (BP _ (KN hb e)))).1,λb hb=>?_,w7⟩;obtain⟨o,e,d⟩:=T.obj _ _ st5 b hb;exact(I7.pin (b,o) (BP _ (BP _ (KN hb e)))).2.1
  refine AB (up (thn (rF _ s6 σ6 H6 _ I6 q6) λok s7 ⟨H7,I7,q7⟩=>?_))
  cases ok with
  | false=>
   rw[qY AI]at q7;exact AM ⟨rfl,mF I7 q7⟩
  | true=>
   rw[qX rfl]at q7;refine AB (AB (up (thn (he _ s7 σ6 H7 _ I7 q7) λyv s8 ⟨y,H8,I8,r8,hp8,q8⟩=>?_)));refine AB (up (thn (SQ (X:=X') _ s8 σ6 H8 (.ref p) [y] (.ref p) [yv] (λv H9=>v=.non/\H9=upd H8 p (.lst (xs++[y]))) I8 rfl (.cons r8 .nil) ⟨p,xs,y,rfl,rfl,hp8,hz,rfl,rfl⟩) λv9 s9 ⟨v,H9,I9,r9,e9,e10⟩=>?_));subst e10;exact AM (AM ⟨rfl,mF I9 q8⟩)
end
section
theorem Se(I2:Inv X ζ σ H2 s2)(J:Inv (D3 X scope N' cl C s2 H2 fp (X.pn++ζ)) [] σ' H' s')(hC:s2.heap.objs.size<=C)(hf:∀b∈fp,Mw X ζ H2 b)
  (sb:EZ C s'.heap h'):Inv X ζ σ H' { s' with heap:=h' }:=by
 have ne:∀b o,s2.heap.get? b=some o->b≠C:=λb o e=>BB (AS (Ad e) hC)
 have jb:Un (frs X.stack) fp H2 H' s2.heap s'.heap:=J.base
 have u:Un (frs X.stack) fp H2 H' s2.heap h':=by
  refine⟨λb o e n hb hx=>(sb.2 b (ne b o e)).trans (jb.keep b o e n hb hx),λb o e n hb hx=>?_,jb.free,λb o e hx=>?_,jb.tups,jb.frzs,jb.tbls⟩
  ·obtain⟨sl,q⟩:=jb.slot b o e n hb hx
   exact⟨sl,(sb.2 b (ne b o e)).trans q⟩
  ·obtain⟨o',q⟩:=jb.there b o e hx
   exact⟨o',(sb.2 b (ne b o e)).trans q⟩
 have sA:H' C=none:=J.free
 have hok:HOk X.prog X.w H' h':=λa o e=>(J.hok a o e).stay (λb u hb q=>(sb.2 b λz=>by
  subst z
  rcases hb with z | z
  ·subst z;rw[sA]at e;cases e
  ·rw[sA]at z;cases z).trans q) (λ_ q=>q) λ_ _ q=>q
 exact I2.call' (s':={ s' with heap:=h' }) (ch:=fp) J.os u hok J.bare λb hb=>by
  obtain⟨_,z1,z2,z3,z4,z5⟩:=hf b hb;exact⟨z3,z1,z4,z5⟩
theorem RO{σ:St}{E:AH->AL->Prop}{Qf:AU->Hp->Prop}{RR:AH->AU->Result->AL->Prop}{it:AU}{J:It}{tn:Nat->Cu->Prop}(hc:X.calm=true)(Sc:Mx X scope own N')
  (hg:∀cl C s₁ H₁ ex pn,PG (D3 X scope N' cl C s₁ H₁ ex pn) ϖ g) (rF:∀cl C s₁ H₁ ex pn,XT (D3 X scope N' cl C s₁ H₁ ex pn) ifs tc) (he:∀cl C s₁ H₁ ex pn,PE (D3 X scope N' cl C s₁ H₁ ex pn) elt te)
  (c1:∀n c,cl.lookup n=some c->X.env.cells.lookup n=some c) (c2:∀y∈scope.names,y.2=.free->∃c,cl.lookup y.1=some c)
  (I2:Inv X ζ σ H2 s2) (T:UK X.prog X.w X.K ϖ J fp it tn) (qe:tn 0 s2.heap) (f2:∀b∈fp,Mw X ζ H2 b)
  (q2:∀p,H2 p=none->∃W:Nat->Nat->St->Hp->List V->Prop,(∃m,W 0 m (Bf own.length none++σ) (upd H2 p (.lst [])) []) /\
   ∀i m σ' H' xs,W i m σ' H' xs->H' p=some (.lst xs)/\((J.stop i H'/\Qf p H')∨(J.go i H'/\xs.length < sizeLine/\∀x rE,J.yld i H' x rE->g x σ' rE λσ2 H2=>tc σ2 H2 λb H3=>
    if b=true then te σ2 H3 λy H4=>H4 p=some (.lst xs)/\∃m',m' < m/\W (i+1) m' σ2 (upd H4 p (.lst (xs++[y]))) (xs++[y])else ∃m',m' < m/\W (i+1) m' σ2 H3 xs)))
  (zm:∀D C cl σ' H' s',s2.heap.objs.size<=C->Inv (D3 X scope N' cl C s2 H2 fp (X.pn++ζ)) [] σ' H' s'->Qf D H'->RR (.ref D) C (.ok .next) s') :
  Ae (Ak X.prog X.w) X.A (newList []) (λacc s₃=>Ae (Ak X.prog X.w) X.A (V7 scope X.env.globals cl [] X.env.qual none .none (some X.env)) (λub s₄=>
   MW (Ak X.prog X.w) X.A (.compStart (.ListComp elt [⟨ϖ,iter,ifs,0⟩] scope pos) 0 (.ref it) acc { ub with scope:=Jd scope X.env }) (RR acc ub.locals) s₄) E s₃) E s2:=by
 have sZ:∀b∈fp,b < s2.heap.objs.size:=λb hb=>by
  obtain⟨o,e,_⟩:=T.obj _ _ qe b hb;exact Ad e
 refine Ce (WH ?_);dsimp only;generalize hH3:s2.heap.push { cls:=.type "list",dict:=none,data:=.seq ([]:List AH).toArray }=H3;generalize hH4:H3.push { cls:=.type "dict",data:=.dict #[] }=H4
 have hC:H3.objs.size=s2.heap.objs.size+1:=by rw[<-hH3,EL]
 have zo:H4.objs.size=H3.objs.size+1:=by rw[<-hH4,EL]
 have hDC:s2.heap.objs.size≠H3.objs.size:=by rw[hC];exact BB (DD _)
 have sg:s2.heap.objs.size<=H3.objs.size:=by rw[hC];exact MY _
 have uc:s2.heap.objs.size<=H4.objs.size:=by rw[zo];exact Nat.le_succ_of_le sg
 have ud:∀b o,H3.get? b=some o->(Ea H4 scope.names).get? b=some o:=λb o e=>UU _ _ _ _ (hH4▸AR _ e)
 have old:∀b o,s2.heap.get? b=some o->(Ea H4 scope.names).get? b=some o:=λb o e=>ud b o (hH3▸AR _ e)
 have vQ:(Ea H4 scope.names).get? s2.heap.objs.size=some { cls:=.type "list",dict:=none,data:=.seq ([]:List AH).toArray }:=ud _ _ (hH3▸Af _ rfl)
 have vR:(Ea H4 scope.names).Ns H3.objs.size λ_=>none:=by
  have:=(Cu.Ns.new H3 (.type "dict")).keeps (UU scope.names (H3.push { cls:=.type "dict",data:=.dict #[] }));rw[hH4]at this;exact this
 have hD:H2 s2.heap.objs.size=none:=I2.hok.fresh (AK _);have u:Un (frs X.stack) fp H2 (upd H2 s2.heap.objs.size (.lst [])) s2.heap (Ea H4 scope.names):=Un.laid old (AK _) hD;have hok:HOk X.prog X.w (upd H2 s2.heap.objs.size (.lst [])) (Ea H4 scope.names):=I2.hok.laid old (AK _) ⟨Dc _,[],0,.nil,vQ⟩
 have uX:∀c,s2.heap.objs.size < c->upd H2 s2.heap.objs.size (.lst []) c=none:=λc h=>by rw[BX (Ec h)];exact I2.hok.fresh (Kx h)
 have sA:upd H2 s2.heap.objs.size (.lst []) H3.objs.size=none:=uX _ (by rw[hC];exact DD _)
 have sC:∀x c,(B0 H4.objs.size scope.names cl).lookup x=some c->cl.lookup x=some c∨((Ea H4 scope.names).IsCell c none/\H4.objs.size<=c):=λx c e=>JX scope.names H4 cl x c e
 obtain⟨W,⟨m0,w0⟩,turn⟩:=q2 s2.heap.objs.size hD
 have loop:∀s₃:AL,s₃={ s2 with heap:=Ea H4 scope.names } ->
   MW (Ak X.prog X.w) X.A (.compLoop (.ListComp elt [⟨ϖ,iter,ifs,0⟩] scope pos) 0 (.ref it) (.ref s2.heap.objs.size) (compEnvC scope (B0 H4.objs.size scope.names cl) H3.objs.size X.env))
    (RR (.ref s2.heap.objs.size) H3.objs.size) s₃:=by
  rintro s₃ rfl
  have J0:Inv (D3 X scope N' (B0 H4.objs.size scope.names cl) H3.objs.size s2 H2 fp (X.pn++ζ)) [] (Bf own.length none++σ) (upd H2 s2.heap.objs.size (.lst [])) { s2 with heap:=Ea H4 scope.names }:=
   XG (s:={ s2 with heap:=Ea H4 scope.names }) Sc I2 f2 sZ c1 c2 uc sC (λc h=>uX c (by lia)) sg vR rfl I2.bare u hok sA
  refine Zl (X':=D3 X scope N' (B0 H4.objs.size scope.names cl) H3.objs.size s2 H2 fp (X.pn++ζ)) (fp:=fp) (Q:=Qf s2.heap.objs.size) hc rfl T (hg _ _ _ _ _ _) (rF _ _ _ _ _ _) (he _ _ _ _ _ _) W turn (λσ' H' s' J q=>zm _ _ _ σ' H' s' sg J q) J0 (T.keep _ _ _ qe λb _ o e=>old b o e) (λb hb=>?_) w0;obtain⟨z0,z1,z2,z3,z4,z5⟩:=f2 b hb;refine⟨by rw[BX (BB (sZ b hb))];exact z0,BB (AS (sZ b hb) sg),λz=>?_,.inl hb,λx c e=>?_,λp hp=>?_⟩
  ·exact(AV.mp (I2.stkSub _ z)).elim z1 z2
  ·rcases sC x c e with e | ⟨_,e⟩
   ·exact z4 x c (c1 x c e)
   ·exact Ec (AS (sZ b hb) (Aw uc e))
  ·have hp:p∈(X.pn++ζ)++[]:=hp
   rw[CL]at hp;exact z5 p hp
 exact codeAny_compStart_list (loop _ rfl) (T.self X.A 0 _ _ _ (T.keep _ _ _ qe λb _ o e=>old b o e) (loop _ rfl))
theorem fZ(hc:X.calm=true)(Sc:Mx X scope own N')(hi:PI X ϖ iter wi)
  (hg:∀cl C s₁ H₁ ex pn,PG (D3 X scope N' cl C s₁ H₁ ex pn) ϖ g) (rF:∀cl C s₁ H₁ ex pn,XT (D3 X scope N' cl C s₁ H₁ ex pn) ifs tc) (he:∀cl C s₁ H₁ ex pn,PE (D3 X scope N' cl C s₁ H₁ ex pn) elt te)
  (hs:∀x,FR iter X.env x=pure x:=by intro _;rfl):PE X (.ListComp elt [⟨ϖ,iter,ifs,0⟩] scope pos) (ag own.length wi g tc te):=by
 intro ζ s σ H Q I h;rw[eval_ListComp];obtain⟨cl,rG,c1,c2⟩:=YS (scope:=scope) (env:=X.env) (λy hy hf=>I.ok.has y.1 (Sc.free y hy hf));refine YX (use:=none) rfl hs rG Sc.kind Sc.names (thn (hi ζ s σ H _ I h) λv s1 h1=>thn h1 λuR s2 h2=>?_);obtain⟨it,fp,tn,J,H2,rfl,I2,T,qe,f2,q2⟩:=h2
 refine RO (Qf:=λp H'=>Q (.ref p) H') (RR:=λacc C=>compPost (Ak X.prog X.w) X.A X.xe none (EP X ζ σ Q) acc C) hc Sc hg rF he c1 c2 I2 T qe f2 q2 λD C zp σ' H' s' hC J q=>?_
 obtain⟨m,hn,_⟩:=J.loc;exact⟨m,hn,λh' sb=>⟨.ref D,H',Se I2 J hC f2 sb,rfl,q⟩⟩
theorem fL{i:Nat}{y:Str}{py sh:Pos}(hc:X.calm=true)(vS:Fu (.ListComp elt [⟨ϖ,iter,ifs,0⟩] scope pos) (some (.Name y py)) sh.line X.env=pure true)
  (hN:X.N.Nodup) (hy:X.N[i]?=some y) (t5:Loc X.env.scope y) (Sc:Mx X scope own N') (hi:PI X ϖ iter wi)
  (hg:∀cl C s₁ H₁ ex pn,PG (D3 X scope N' cl C s₁ H₁ ex pn) ϖ g) (rF:∀cl C s₁ H₁ ex pn,XT (D3 X scope N' cl C s₁ H₁ ex pn) ifs tc) (he:∀cl C s₁ H₁ ex pn,PE (D3 X scope N' cl C s₁ H₁ ex pn) elt te)
  (hs:∀x,FR iter X.env x=pure x:=by intro _;rfl) (hf:X.fn y=true∨X.env.scope.names.lookup y=some .local:=by first | exact .inl rfl | exact .inr rfl | assumption) :
  PS X (.Assign [.Name y py] (.ListComp elt [⟨ϖ,iter,ifs,0⟩] scope pos) sh) (nQ (ag own.length wi g tc te) (YJ i)):=by
 intro ζ s σ H D I h;rw[exec_Assign_Name_used _ _ _ _ vS];refine AB (wpAny_standAt (AB ?_));show Ae _ X.A (do let _ <-comprehension (.ListComp elt [⟨ϖ,iter,ifs,0⟩] scope pos) scope X.env _ (newList []) false (CH iter X.env) (some (WB (.Name y py) X.env))) _ _ s;obtain⟨cl,rG,c1,c2⟩:=YS (scope:=scope) (env:=X.env) (λy hy hf=>I.ok.has y.1 (Sc.free y hy hf))
 refine AB (Gy (YX (use:=some (WB (.Name y py) X.env)) (Q:=λ_ s'=>SP X ζ D .next s') rfl hs rG Sc.kind Sc.names
  (thn (hi ζ s σ H _ I h) λv s1 h1=>thn h1 λuR s2 h2=>?_)) (λ_ s' hq=>AM (AM hq)) λ_ _ e=>e)
 obtain⟨it,fp,tn,J,H2,rfl,I2,T,qe,f2,q2⟩:=h2
 refine RO (Qf:=λp H'=>D.nx (σ.set i (some (.ref p))) H') (RR:=λacc C=>compPost (Ak X.prog X.w) X.A X.xe (some (WB (.Name y py) X.env)) (λ_ s'=>SP X ζ D .next s') acc C) hc Sc hg rF he c1 c2 I2 T qe f2 q2 λA C zp σ' H' s' hC J q=>?_
 obtain⟨m,hn,_⟩:=J.loc;have I3:Inv X ζ σ H' s':=Se I2 J hC f2 (p0 ..);have sA:H' C=none:=J.free
 have qu:∀x c,X.env.cells.lookup x=some c->c≠C:=λx c e z=>by
  obtain⟨v,q⟩:=I2.cell x c e;exact zX (AS q.lt (by rw[z];exact hC)) (Dd _)
 have sD:C≠X.env.locals:=Ec (AS I2.lt hC);show Ae _ X.A (WB (.Name y py) X.env (.ref A)) _ _ s';refine lw (SH (v:=.ref A) I3 hN hy t5 rfl (λs4 I4 ⟨a,sb,ha⟩=>?_) hf)
 have zq:C≠a:=by
  rcases ha with e | e
  ·rw[e];exact sD
  ·exact CF (qu _ _ e)
 refine⟨m,hn.sameBut sb zq,λh' zt=>⟨_,H',?_,q⟩⟩
 refine I4.turned (t':=s4.toks) (it:=C) (λb o hb e=>(zt.2 b hb).trans e) sA sD (.inr (Aw I2.sz hC)) qu λp hp z=>?_
 exact zX (AS (Ad (I2.pin p hp).1) (by rw[z];exact hC)) (Dd _)
end
def Ft(v:Pd)(g:MG)(c:MT)(m:ME):Nat->Nat->Lo->Sto->List D->Res (List D)
 | k,i,e,S,acc=>match v S with
  | none=>.bad
  | some ds=>match ds[i]? with
   | none=>.ok acc S
   | some d=>match k with
    | 0=>.bad
    | k+1=>if acc.length < sizeLine then(okR (g d e S)).bind λe1 S1=>(okR (c e1 S1)).bind λb S2=>if b=true then(okR (m e1 S2)).bind λy S3=>Ft v g c m k (i+1) e1 S3 (acc++[y])else Ft v g c m k (i+1) e1 S2 acc else .bad
def EM(n:Nat)(mi:MI)(g:MG)(c:MT)(m:ME):ML:=λe S=>(mi e S).bind λv S1=>Ft v g c m (Df v S1) 0 (Bf n none++e) S1 []
def Gx:MT:=λ_ S=>.ok true S
section
abbrev iK(X:Cx)(E:EW)(ifs:List Expr)(c:MT):Prop:=XT X ifs (gT X.K E c)
theorem EU:iK X E [] Gx:=λζ s σ H Q I ⟨ρ,l,S,hl,hs,hm⟩=>by
 exact bK ζ s σ H Q I (hm ρ H .refl hs)
theorem Ng(h:GT X E e c):iK X E [e] c:=bJ h
theorem Ff.grow{K}{ρ}{H}{e}{σ}(n:Nat)(h:Ff K ρ H e σ):Ff K ρ H (Bf n none++e) (Bf n none++σ):=by
 refine⟨by simp[h.len],λi d q=>?_⟩
 by_cases hi:i < n
 ·rw[Ao (by simpa using hi),DQ,qX hi]at q
  cases q
 ·rw[Bg (by simpa using hi)]at q ⊢
  simp only[Ln]at q ⊢;exact h.at' _ d q
theorem CD.ok_of{α:Type}{K:AF}{E:EH}{ρ:List AU}{H:Hp}{r:Res α}{k:α->Sto->Prop}{a:α}{S:Sto}(e:r=.ok a S)(h:k a S):CD K E ρ H r k:=by
 subst e;exact h
theorem Qn{α β:Type}{r:Res α}{F:α->Sto->Res β}{b:β}{S:Sto}(h:(okR r).bind F=.ok b S):∃a S1,r=.ok a S1/\F a S1=.ok b S:=by
 cases r with
 | ok a S1=>exact⟨a,S1,rfl,h⟩
 | err c S1=>cases h
 | bad=>cases h
theorem Vq:∀(k i:Nat) (e:Lo) (S:Sto) (acc:List D),Ft v g c m k i e S acc≠.err er S':=by
 intro k
 induction k with
 | zero=>
  intro i e S acc h;unfold Ft at h;split at h
  ·cases h
  ·split at h <;> cases h
 | succ k ih=>
  intro i e S acc h;unfold Ft at h;split at h
  ·cases h
  ·split at h
   ·cases h
   ·dsimp only at h
    split at h
    ·cases h1:g _ e S with
     | ok e1 S1=>
      rw[h1]at h;dsimp only[okR,Res.bind]at h
      cases h2:c e1 S1 with
      | ok b S2=>
       rw[h2]at h;dsimp only[okR,Res.bind]at h
       cases b with
       | true=>
        rw[qX rfl]at h
        cases h3:m e1 S2 with
        | ok y S3=>rw[h3]at h;exact ih _ _ _ _ h
        | err _ _=>rw[h3]at h;cases h
        | bad=>rw[h3]at h;cases h
       | false=>
        rw[qY AI]at h;exact ih _ _ _ _ h
      | err _ _=>rw[h2]at h;cases h
      | bad=>rw[h2]at h;cases h
     | err _ _=>rw[h1]at h;cases h
     | bad=>rw[h1]at h;cases h
    ·cases h
theorem Uo{K:AF}{n:Nat}{σ:St}{H:Hp}{Q:VK}(h:gL K E (EM n mi g c m) σ H Q):ag n (gI K E mi) (gG K g) (gT K noE c) (gE K noE m) σ H Q:=by
 obtain⟨ρ,l,S,hl,hs,hm⟩:=h;refine⟨ρ,l,S,hl,hs,hm.seq λv S1 hm ρ1 H1 J l1 s1 vo p hp=>?_⟩
 obtain⟨ds,S',hm,k⟩:∃ds S',Ft v g c m (Df v S1) 0 (Bf n none++l) S1 []=.ok ds S'/\∀ρ' H' p xs,Le K ρ H ρ' H'->B2 K ρ' S' H'->Am K ρ' H' ds xs->H' p=some (.lst xs)->(∀n:Nat,ρ'[n]?≠some p)->H p=none->Q (.ref p) H':=by
  cases hc:Ft v g c m (Df v S1) 0 (Bf n none++l) S1 []with
  | ok ds S'=>rw[hc]at hm;exact⟨ds,S',rfl,hm⟩
  | err c S'=>exact(Vq _ _ _ _ _ hc).elim
  | bad=>rw[hc]at hm;exact hm.elim
 obtain⟨zu,ue⟩:=Ix (ho:=.lst []) s1 hp;have u7:H p=none:=l1.back hs s1 hp
 refine⟨λi j σ2 H2 xs=>∃ρ2 e2 S2 acc,Le K ρ1 H1 ρ2 H2/\Ff K ρ2 H2 e2 σ2/\B2 K ρ2 S2 H2/\Am K ρ2 H2 acc xs/\H2 p=some (.lst xs)/\(∀q:Nat,ρ2[q]?≠some p)/\Ft v g c m j i e2 S2 acc=.ok ds S',
  ⟨Df v S1,ρ1,_,S1,[],ue,(hl.mono (l1.trans ue)).grow n,zu,.nil,Bu,λq e=>s1.notIn hp e,hm⟩,?_⟩
 rintro i j σ2 H2 xs ⟨ρ2,e2,S2,acc,l2,r2,s2,ra,tH,qF,p9⟩;refine⟨tH,?_⟩;unfold Ft at p9
 cases hv:v S2 with
 | none=>rw[hv]at p9;cases p9
 | some vs=>
  rw[hv]at p9;dsimp only at p9;obtain⟨v1,v2⟩:=vo ρ2 H2 S2 vs i l2 s2 hv
  cases hd:vs[i]? with
  | none=>
   rw[hd]at p9;cases p9;exact .inl ⟨v1 hd,k ρ2 H2 p xs (l1.trans l2) s2 ra tH qF u7⟩
  | some d=>
   rw[hd]at p9;dsimp only at p9;obtain⟨go,yl⟩:=v2 d hd
   cases j with
   | zero=>cases p9
   | succ j=>
    dsimp only at p9;split at p9
    ·rename_i hz
     obtain⟨e3,S3,h3,p9⟩:=Qn p9;obtain⟨b,S4,h4,p9⟩:=Qn p9;refine .inr ⟨go,by rw[<-ra.length];exact hz,λx H' y=>?_⟩;obtain⟨ρ3,l3,s3,rd⟩:=yl x H' y;obtain⟨zw,vT⟩:=l3.oth p _ tH qF;refine⟨ρ3,e2,S2,d,rd,r2.mono l3,s3,CD.ok_of h3 λρ4 H4 σ4 l4 s4 r4=>?_⟩;obtain⟨zy,zz⟩:=l4.oth p _ zw vT;refine⟨ρ4,e3,S3,r4,s4,CD.ok_of h4 λρ5 H5 l5 s5=>?_⟩;obtain⟨xG,xH⟩:=l5.oth p _ zy zz
     cases b with
     | false=>
      rw[qY AI]at p9 ⊢;exact⟨j,DD j,ρ5,e3,S4,acc,l2.trans (l3.trans (l4.trans l5)),r4.mono l5,s5,ra.mono (l3.trans (l4.trans l5)),xG,xH,p9⟩
     | true=>
      rw[qX rfl]at p9 ⊢;obtain⟨yv,S5,h5,p9⟩:=Qn p9;refine⟨ρ5,e3,S4,r4.mono l5,s5,CD.ok_of h5 λρ6 H6 y6 l6 s6 r6=>?_⟩;obtain⟨uY,xI⟩:=l6.oth p _ xG xH
      have l7:∀rf,Le K ρ6 H6 ρ6 (upd H6 p (.lst rf))->True:=λ_ _=>trivial
      have zA:∀rf:List V,B2 K ρ6 S5 (upd H6 p (.lst rf))/\(∀a o,Do K ρ6 H6 a o->a≠p->Do K ρ6 (upd H6 p (.lst rf)) a o)/\∀e' w',Bo K ρ6 H6 e' w'->Bo K ρ6 (upd H6 p (.lst rf)) e' w':=λrf=>by
       have kk:=GY (H:=H6) (p:=p) (ho:=.lst rf) (.inr (by rw[uY];trivial))
       have mono:∀e' w',Bo K ρ6 H6 e' w'->Bo K ρ6 (upd H6 p (.lst rf)) e' w':=λe' w' r=>r.keep kk.1 kk.2
       have xJ:∀a o,Do K ρ6 H6 a o->a≠p->Do K ρ6 (upd H6 p (.lst rf)) a o:=λa o r ne=>r.keep kk.1 kk.2 (BX ne)
       exact⟨⟨s6.len,s6.nd,λn o a q1 q2=>xJ a o (s6.ob n o a q1 q2) λz=>xI n (by rw[<-z];exact q2)⟩,xJ,mono⟩
      obtain⟨u1,u2,u3⟩:=zA (xs++[y6]);refine⟨uY,j,DD j,ρ6,e3,S5,acc++[yv],?_,?_,u1,?_,Bu,xI,p9⟩
      ·have lx:=l2.trans (l3.trans (l4.trans (l5.trans l6)))
       have kk:=GY (H:=H6) (p:=p) (ho:=.lst (xs++[y6])) (.inr (by rw[uY];trivial))
       exact⟨lx.pre,λa zs q=>kk.1 a zs (lx.tup a zs q),λa o u q=>kk.2 a o u (lx.frz a o u q),λa o q z=>by
        have zB:a≠p:=CP q hp;obtain⟨z1,z2⟩:=lx.oth a o q z
        exact⟨by rw[BX zB];exact z1,z2⟩⟩
      ·have rr:=r4.mono (l5.trans l6)
       exact⟨rr.len,λq d' hq=>by
        obtain⟨w',z1,z2⟩:=rr.at' q d' hq
        exact⟨w',z1,u3 _ _ z2⟩⟩
      ·have zC:=ra.mono (l3.trans (l4.trans (l5.trans l6)))
       have kk:=GY (H:=H6) (p:=p) (ho:=.lst (xs++[y6])) (.inr (by rw[uY];trivial));exact(zC.keep kk.1 kk.2).append (.cons (u3 _ _ r6) .nil)
    ·cases p9
theorem Fh(hc:X.calm=true)(Sc:Mx X scope own N')(hi:GI X E ϖ iter mi)
  (hg:∀cl C s₁ H₁ ex pn,GG (D3 X scope N' cl C s₁ H₁ ex pn) ϖ g) (rF:∀cl C s₁ H₁ ex pn,iK (D3 X scope N' cl C s₁ H₁ ex pn) noE ifs c) (he:∀cl C s₁ H₁ ex pn,GE (D3 X scope N' cl C s₁ H₁ ex pn) noE elt m)
  (hs:∀x,FR iter X.env x=pure x:=by intro _;rfl):GL X E (.ListComp elt [⟨ϖ,iter,ifs,0⟩] scope pos) (EM own.length mi g c m):=
 (fZ (g:=gG X.K g) (tc:=gT X.K noE c) (te:=gE X.K noE m) hc Sc hi hg rF he hs).imp λ_ _ _ h=>Uo h
theorem Pz(hc:X.calm=true)(vS:Fu (.ListComp elt [⟨ϖ,iter,ifs,0⟩] scope pos) (some (.Name y py)) sh.line X.env=pure true)
  (hN:X.N.Nodup) (hy:X.N[i]?=some y) (t5:Loc X.env.scope y) (Sc:Mx X scope own N') (hi:GI X E ϖ iter mi)
  (hg:∀cl C s₁ H₁ ex pn,GG (D3 X scope N' cl C s₁ H₁ ex pn) ϖ g) (rF:∀cl C s₁ H₁ ex pn,iK (D3 X scope N' cl C s₁ H₁ ex pn) noE ifs c) (he:∀cl C s₁ H₁ ex pn,GE (D3 X scope N' cl C s₁ H₁ ex pn) noE elt m)
  (hs:∀x,FR iter X.env x=pure x:=by intro _;rfl) (hf:X.fn y=true∨X.env.scope.names.lookup y=some .local:=by first | exact .inl rfl | exact .inr rfl | assumption) :
  GS X E (.Assign [.Name y py] (.ListComp elt [⟨ϖ,iter,ifs,0⟩] scope pos) sh) (DH i (FP (EM own.length mi g c m))):=by
 refine(fL (g:=gG X.K g) (tc:=gT X.K noE c) (te:=gE X.K noE m) hc vS hN hy t5 Sc hi hg rF he hs hf).imp λD σ H ⟨ρ,l,S,hl,hs,hm⟩=>?_
 refine Uo (E:=E) (Q:=λx H'=>D.nx (σ.set i (some x)) H') ⟨ρ,l,S,hl,hs,CD.seq (F:=λds S1=>Res.ok (L2.D.ref S1.length) (S1++[Ob.lst ds])) (k:=λd S2=>CD X.K noH ρ H ((tgN i d l S2).bind λe1 S2=>.ok (.nx e1) S2) λfl S'=>Pb X.K E ρ H S' D fl) (CD.lift hm hl .refl λd S2 h=>h) λds S1 hm ρ1 H1 p xs l1 s1 r1 hp hn u7=>?_⟩
 have l0:∀(n:Nat) a,ρ1[n]?=some a->(ρ1++[p])[n]?=some a:=λn a h=>by rw[Ao (AE.mp h).1];exact h
 obtain⟨s2,at2⟩:=s1.adopt (o:=.lst ds) hn ⟨xs,hp,r1.more l0⟩
 have l2:Le X.K ρ H (ρ1++[p]) H1:=⟨λn a h=>l0 n a (l1.pre n a h),l1.tup,l1.frz,λa o e h=>⟨(l1.oth a o e h).1,λn q=>by
  rcases IX q with⟨q,_⟩ | ⟨_,q⟩
  ·exact(l1.oth a o e h).2 n q
  ·exact CP e u7 q⟩⟩
 exact hm _ _ _ l2 s2 ((hl.mono l2).set (.ref at2) i)
end
end L2
namespace L2
open PySem PySem.Spec PyProof.Rows PySem.SeqAt
def Lb:D->D->Option Bool
 | .non,.non=>some true
 | .bl a,.bl b=>some (a==b)
 | .int a,.int b=>some (a==b)
 | .str a,.str b=>some (a==b)
 | .non,.int _=>some false
 | .non,.str _=>some false
 | .non,.bl _=>some false
 | .non,.tup _=>some false
 | .int _,.non=>some false
 | .str _,.non=>some false
 | .bl _,.non=>some false
 | .tup _,.non=>some false
 | .int _,.tup _=>some false
 | .tup _,.int _=>some false
 | _,_=>none
def eqL(f:D->D->Option Bool):List D->List D->Option Bool
 | [],[]=>some true
 | [],_ :: _=>some false
 | _ :: _,[]=>some false
 | x :: xs,y :: ys=>match f x y,eqL f xs ys with
  | some a,some b=>some (a&&b)
  | _,_=>none
def eqP:Nat->D->D->Option Bool
 | 0,x,y=>Lb x y
 | n+1,x,y=>match x,y with
  | .tup xs,.tup ys=>eqL (eqP n) xs ys
  | x,y=>Lb x y
theorem LZ(h:eqL f (x :: xs) (y :: ys)=some b):∃a c,f x y=some a/\eqL f xs ys=some c/\b=(a&&c):=by
 unfold eqL at h;split at h
 ·rename_i a c h1 h2
  cases h;exact⟨a,c,h1,h2,rfl⟩
 ·cases h
theorem YO:∀{xs ys:List D} {b:Bool},eqL f xs ys=some b->(∀(j:Nat) x y,xs[j]?=some x->ys[j]?=some y->∃c,f x y=some c) /\
  b=((C9 (min xs.length ys.length)).all (λj=>match xs[j]?,ys[j]? with | some x,some y=>(f x y).getD false | _,_=>false)&&xs.length==ys.length)
 | [],[],b,h=>by cases h;exact⟨λj x y h=>by simp at h,by simp⟩
 | [],y :: ys,b,h=>by cases h;exact⟨λj x y h=>by simp at h,by simp⟩
 | x :: xs,[],b,h=>by cases h;exact⟨λj x y _ h=>by simp at h,by simp⟩
 | x :: xs,y :: ys,b,h=>by
  obtain⟨a,c,h1,h2,rfl⟩:=LZ h;obtain⟨i1,i2⟩:=YO h2;refine⟨λj x' y' e1 e2=>?_,?_⟩
  ·cases j with
   | zero=>simp at e1 e2;subst e1;subst e2;exact⟨a,h1⟩
   | succ j=>exact i1 j x' y' (by simpa using e1) (by simpa using e2)
  ·rw[i2,Aj,Aj,show min (xs.length+1) (ys.length+1)=min xs.length ys.length+1 by lia,List.range_succ_eq_map,List.all_cons,mN]
   simp only[List.getElem?_cons_zero,h1,Og,Function.comp_def,List.getElem?_cons_succ];rw[Bool.and_assoc]
   congr 1
   congr 1
   rw[Bool.eq_iff_iff];simp
section
variable{K:AF}{ρ:List AU}{H:Hp}
theorem YL(n k:Nat)(y:D):eqP n (.ref k) y=none:=by cases n <;> cases y <;> rfl
theorem YM(n:Nat)(ds:List D)(y:D):eqP n (.fro ds) y=none:=by cases n <;> cases y <;> rfl
theorem YN(n:Nat)(c:AU)(y:D):eqP n (.exc c) y=none:=by cases n <;> cases y <;> rfl
theorem NM(r1:Bo K ρ H x v)(r2:Bo K ρ H x' v):x=x'∨(∃ds qH vs,x=.tup ds/\x'=.tup qH/\Am K ρ H ds vs/\Am K ρ H qH vs)∨(∀n y,eqP n x y=none)∨∀n y,eqP n x' y=none:=by
 cases r1 with
 | non=>cases r2;exact .inl rfl
 | bl b=>cases r2;exact .inl rfl
 | int b=>cases r2;exact .inl rfl
 | str b=>cases r2;exact .inl rfl
 | fro _ _=>exact .inr (.inr (.inl λn y=>YM n _ y))
 | ref _=>exact .inr (.inr (.inl λn y=>YL n _ y))
 | exc _ _=>exact .inr (.inr (.inl λn y=>YN n _ y))
 | tup u1 u2=>
  cases r2 with
  | fro _ _=>exact .inr (.inr (.inr λn y=>YM n _ y))
  | ref _=>exact .inr (.inr (.inr λn y=>YL n _ y))
  | exc _ _=>exact .inr (.inr (.inr λn y=>YN n _ y))
  | tup w1 w2=>
   rw[u1]at w1;cases w1;exact .inr (.inl ⟨_,_,_,rfl,rfl,u2,w2⟩)
theorem g7:∀(n:Nat) {x x' y:D} {v:V} {b b':Bool},Bo K ρ H x v->Bo K ρ H x' v->eqP n x y=some b->eqP n x' y=some b'->b=b':=by
 intro n
 induction n with
 | zero=>
  intro x x' y v b b' r1 r2 h h'
  rcases NM r1 r2 with rfl | ⟨ds,qH,vs,rfl,rfl,_,_⟩ | q | q
  ·rw[h]at h';cases h';rfl
  ·have:eqP 0 (.tup ds) y=eqP 0 (.tup qH) y:=by cases y <;> rfl
   rw[<-this,h]at h';cases h';rfl
  ·rw[q]at h;cases h
  ·rw[q]at h';cases h'
 | succ n ih=>
  intro x x' y v b b' r1 r2 h h'
  have lists:∀{xs:List D} {vs:List V} {rf ys:List D} {b b':Bool},Am K ρ H xs vs->Am K ρ H rf vs->eqL (eqP n) xs ys=some b->eqL (eqP n) rf ys=some b'->b=b':=by
   intro xs
   induction xs with
   | nil=>
    intro vs rf ys b b' q1 q2 g g';cases q1;cases q2;rw[g]at g';cases g';rfl
   | cons d ds ihl=>
    intro vs rf ys b b' q1 q2 g g'
    cases q1 with
    | cons a1 a2=>
     cases q2 with
     | cons c1 c2=>
      cases ys with
      | nil=>cases g;cases g';rfl
      | cons y ys=>
       obtain⟨p,q,g1,g2,rfl⟩:=LZ g;obtain⟨p',q',zD,zE,rfl⟩:=LZ g';rw[ih a1 c1 g1 zD,ihl a2 c2 g2 zE]
  rcases NM r1 r2 with rfl | ⟨ds,qH,vs,rfl,rfl,q1,q2⟩ | q | q
  ·rw[h]at h';cases h';rfl
  ·by_cases c:∃ys,y=.tup ys
   ·obtain⟨ys,rfl⟩:=c
    exact lists q1 q2 h h'
   ·have:eqP (n+1) (.tup ds) y=eqP (n+1) (.tup qH) y:=by
     cases y <;> first | rfl | exact(c ⟨_,rfl⟩).elim
    rw[<-this,h]at h';cases h';rfl
  ·rw[q]at h;cases h
  ·rw[q]at h';cases h'
theorem EO(h:Lb x x=some b):b=true:=by
 cases x <;> first | (cases h;done) | (cases h;simp)
theorem RI:∀(n:Nat) {x:D} {b:Bool},eqP n x x=some b->b=true
 | 0,_,_,h=>EO h
 | n+1,x,b,h=>by
  have lists:∀{xs:List D} {b:Bool},eqL (eqP n) xs xs=some b->b=true:=by
   intro xs
   induction xs with
   | nil=>intro b g;cases g;rfl
   | cons d ds ih=>
    intro b g;obtain⟨p,q,g1,g2,rfl⟩:=LZ g;rw[RI n g1,ih g2];rfl
  cases x with
  | tup xs=>exact lists h
  | non=>exact EO (x:=.non) h
  | bl c=>exact EO (x:=.bl c) h
  | int c=>exact EO (x:=.int c) h
  | str c=>exact EO (x:=.str c) h
  | ref c=>exact EO (x:=.ref c) h
  | fro c=>exact EO (x:=.fro c) h
  | exc c=>exact EO (x:=.exc c) h
theorem L7(hy:(∃f,y=.fro f)∨(∃r,y=.ref r)∨∃c,y=.exc c)(n:Nat):eqP n x y=none:=by
 rcases hy with⟨f,rfl⟩ | ⟨r,rfl⟩ | ⟨c,rfl⟩ <;> (cases n <;> cases x <;> rfl)
theorem cf(n:Nat)(h1:Bo K ρ H x v)(h2:Bo K ρ H y v)(h:eqP n x y=some b):b=true:=by
 induction n generalizing x y v b with
 | zero=>
  rcases NM h1 h2 with rfl | ⟨ds,qH,vs,rfl,rfl,_,_⟩ | q | q
  ·exact RI 0 h
  ·cases h
  ·rw[q]at h;cases h
  ·cases h2 with
   | fro _ _=>rw[L7 (.inl ⟨_,rfl⟩)]at h;cases h
   | ref _=>rw[L7 (.inr (.inl ⟨_,rfl⟩))]at h;cases h
   | exc _ _=>rw[L7 (.inr (.inr ⟨_,rfl⟩))]at h;cases h
   | non=>cases(q 0 .non)
   | bl b=>cases(q 0 (.bl b))
   | int b=>cases(q 0 (.int b))
   | str b=>cases(q 0 (.str b))
   | tup _ _=>cases(q 0 .non)
 | succ n ih=>
  have lists:∀{xs ys:List D} {vs:List V} {b:Bool},Am K ρ H xs vs->Am K ρ H ys vs->eqL (eqP n) xs ys=some b->b=true:=by
   intro xs
   induction xs with
   | nil=>intro ys vs b q1 q2 g;cases q1;cases q2;cases g;rfl
   | cons d ds ihl=>
    intro ys vs b q1 q2 g
    cases q1 with
    | cons a1 a2=>
     cases q2 with
     | cons c1 c2=>
      obtain⟨p,q,g1,g2,rfl⟩:=LZ g;rw[ih a1 c1 g1,ihl a2 c2 g2];rfl
  rcases NM h1 h2 with rfl | ⟨ds,qH,vs,rfl,rfl,q1,q2⟩ | q | q
  ·exact RI (n+1) h
  ·exact lists q1 q2 h
  ·rw[q]at h;cases h
  ·cases h2 with
   | fro _ _=>rw[L7 (.inl ⟨_,rfl⟩)]at h;cases h
   | ref _=>rw[L7 (.inr (.inl ⟨_,rfl⟩))]at h;cases h
   | exc _ _=>rw[L7 (.inr (.inr ⟨_,rfl⟩))]at h;cases h
   | non=>cases(q 0 .non)
   | bl b=>cases(q 0 (.bl b))
   | int b=>cases(q 0 (.int b))
   | str b=>cases(q 0 (.str b))
   | tup _ _=>cases(q 0 .non)
end
section
variable{X:Cx}{ζ:List (AU×Obj)}{σ:St}{H:Hp}{s:AL}{ρ:List AU}
theorem G8(A:CC):A.in1.units=A.units+1:=rfl
theorem Bn.at_(r:Bn vs i')(h:j < i'.toArray.size):∃v,vs[j]?=some v/\RelV v i'.toArray[j]:=by
 have hj:j < i'.length:=by simpa using h
 have hv:j < vs.length:=by rw[r.length];exact hj
 obtain⟨u,h1,h2⟩:=r.get (i:=j) (x:=vs[j]) (by simp[hv]);refine⟨vs[j],by simp[hv],?_⟩
 have:i'.toArray[j]=u:=by
  have:=AE.mp h1;obtain⟨_,e⟩:=this;simpa using e
 rw[this];exact h2
theorem TW(ih:∀(x y:D) (b:Bool) (xv yv:V) (u v:AH),eqP n x y=some b->Bo X.K ρ H x xv->Bo X.K ρ H y yv->RelV xv u->RelV yv v->EqAt A s u v b)
  (h:eqL (eqP n) xs ys=some b) (r1:Am X.K ρ H xs vs) (r2:Am X.K ρ H ys ws) (q1:Bn vs us) (q2:Bn ws zs) :
  ∃e:Nat->Bool,(∀j (h1:j < us.toArray.size) (h2:j < zs.toArray.size),EqAt A s us.toArray[j] zs.toArray[j] (e j))/\b=((C9 (min us.toArray.size zs.toArray.size)).all e&&us.toArray.size==zs.toArray.size):=by
 obtain⟨i1,i2⟩:=YO h;refine⟨λj=>match xs[j]?,ys[j]? with | some x,some y=>(eqP n x y).getD false | _,_=>false,λj h1 h2=>?_,?_⟩
 ·obtain⟨v,e1,rv⟩:=Bn.at_ q1 h1
  obtain⟨w,e2,qC⟩:=Bn.at_ q2 h2;obtain⟨x,e3,rx⟩:=r1.get' e1;obtain⟨y,e4,ry⟩:=r2.get' e2;obtain⟨c,hc⟩:=i1 j x y e3 e4;have:=ih x y c v w _ _ hc rx ry rv qC;simp only[e3,e4,hc,Og];exact this
 ·rw[i2,r1.length,r2.length,q1.length,q2.length]
  simp
theorem OU(I:Inv X ζ σ H s)(hu:A.units < Fi)(h:Lb x y=some b)(r1:Bo X.K ρ H x xv)(r2:Bo X.K ρ H y yv)(q1:RelV xv u)(q2:RelV yv v) :
  EqAt A s u v b/\RcAt A s u v b/\RcNeAt A s u v (!b):=by
 cases r1 with
 | non=>
  cases q1
  cases r2 with
  | non=>cases q2;cases h;exact⟨EqAt.same _,RcAt.none_none,RcNeAt.none_none⟩
  | bl c=>cases q2;cases h;exact⟨EqAt.none_bool _,RcAt.none_bool _,RcNeAt.none_bool _⟩
  | int i=>obtain⟨t,rfl⟩:=q2;cases h;exact⟨EqAt.none_int _ _,RcAt.none_int _ _,RcNeAt.none_int _ _⟩
  | str z=>obtain⟨t,rfl⟩:=q2;cases h;exact⟨EqAt.none_str _ _,RcAt.none_str _ _,RcNeAt.none_str _ _⟩
  | tup a1 a2=>
   cases q2;cases h;obtain⟨i',_,p,_⟩:=I.tuple (.inl (.inl a1));exact⟨EqAt.none_tuple p hu,RcAt.none_tuple p hu,RcNeAt.none_tuple p hu⟩
  | _=>cases h
 | bl a=>
  cases q1
  cases r2 with
  | non=>cases q2;cases h;exact⟨EqAt.bool_none _,RcAt.bool_none _,RcNeAt.bool_none _⟩
  | bl c=>cases q2;cases h;exact⟨EqAt.bool_bool _ _,RcAt.bool_bool _ _,RcNeAt.bool_bool _ _⟩
  | _=>cases h
 | int a=>
  obtain⟨t,rfl⟩:=q1
  cases r2 with
  | non=>cases q2;cases h;exact⟨EqAt.int_none _ _,RcAt.int_none _ _,RcNeAt.int_none _ _⟩
  | int i=>obtain⟨t',rfl⟩:=q2;cases h;exact⟨EqAt.int_int _ _ _ _,RcAt.int_int _ _ _ _,RcNeAt.int_int _ _ _ _⟩
  | tup a1 a2=>
   cases q2;cases h;obtain⟨i',_,p,_⟩:=I.tuple (.inl (.inl a1));exact⟨EqAt.int_tuple _ _ p hu,RcAt.int_tuple _ _ p hu,RcNeAt.int_tuple _ _ p hu⟩
  | _=>cases h
 | str a=>
  obtain⟨t,rfl⟩:=q1
  cases r2 with
  | non=>cases q2;cases h;exact⟨EqAt.str_none _ _,RcAt.str_none _ _,RcNeAt.str_none _ _⟩
  | str i=>obtain⟨t',rfl⟩:=q2;cases h;exact⟨EqAt.str_str _ _ _ _,RcAt.str_str _ _ _ _,RcNeAt.str_str _ _ _ _⟩
  | _=>cases h
 | tup a1 a2=>
  cases q1;obtain⟨i',_,p,_⟩:=I.tuple (.inl (.inl a1))
  cases r2 with
  | non=>cases q2;cases h;exact⟨EqAt.tuple_none p hu,RcAt.tuple_none p hu,RcNeAt.tuple_none p hu⟩
  | int i=>obtain⟨t',rfl⟩:=q2;cases h;exact⟨EqAt.tuple_int _ _ p hu,RcAt.tuple_int _ _ p hu,RcNeAt.tuple_int _ _ p hu⟩
  | _=>cases h
 | _=>cases h
theorem XD(I:Inv X ζ σ H s):∀(n:Nat) (A:CC) (x y:D) (b:Bool) (xv yv:V) (u v:AH),A.units+n < Fi->eqP n x y=some b->Bo X.K ρ H x xv->Bo X.K ρ H y yv->RelV xv u->RelV yv v->EqAt A s u v b:=by
 intro n
 induction n with
 | zero=>exact λA x y b xv yv u v hu h r1 r2 q1 q2=>(OU I (by omega) h r1 r2 q1 q2).1
 | succ n ih=>
  intro A x y b xv yv u v hu h r1 r2 q1 q2
  by_cases ht:∃xs ys,x=.tup xs/\y=.tup ys
  ·obtain⟨xs,ys,rfl,rfl⟩:=ht
   cases r1 with
   | @tup _ a vs a1 a2=>
    cases r2 with
    | @tup _ c ws b1 b2=>
     cases q1;cases q2
     by_cases vU:a=c
     ·subst vU
      rw[cf (n+1) (.tup a1 a2) (.tup b1 b2) h];exact EqAt.same _
     ·obtain⟨i',rv,p,_⟩:=I.tuple (.inl (.inl a1))
      obtain⟨qj,qC,p2,_⟩:=I.tuple (.inl (.inl b1));obtain⟨e,he,rfl⟩:=TW (A:=A.in1) (λx y b xv yv u v g1 g2 g3 g4 g5=>ih A.in1 x y b xv yv u v (by rw[G8];lia) g1 g2 g3 g4 g5) h a2 b2 rv qC;exact EqAt.of_refs vU (mZ p p2 (by lia) he)
  ·have hf:Lb x y=some b:=by
    cases x <;> cases y <;> first | exact h | exact(ht ⟨_,_,rfl,rfl⟩).elim
   exact(OU I (by lia) hf r1 r2 q1 q2).1
def Qu(d:D)(S:Sto):Option (List D):=match d with
 | .fro ds=>some ds
 | .ref n=>match S[n]? with
  | some (.lst ds)=>some ds
  | _=>none
 | _=>none
def eqB(x y:D)(S:Sto):Option Bool:=match Qu x S,Qu y S with
 | some xs,some ys=>if xs.length=ys.length then eqL (eqP 8) xs ys else some false
 | none,none=>eqP 8 x y
 | some _,none=>match y with
  | .tup _=>some false
  | .non=>some false
  | _=>none
 | none,some _=>match x with
  | .tup _=>some false
  | .non=>some false
  | _=>none
def eqD(neg:Bool)(x y:D)(S:Sto):Res D:=match eqB x y S with
 | some b=>.ok (.bl (if neg then !b else b)) S
 | none=>.bad
theorem L0{K}{S}{d}{x}{ds}(hs:B2 K ρ S H)(r:Bo K ρ H d x)(h:Qu d S=some ds):∃p xs,x=.ref p/\Am K ρ H ds xs/\SqL K H p xs:=by
 cases r with
 | fro h1 h2=>cases h;exact⟨_,_,rfl,h2,h1.sq⟩
 | @ref n a hn=>
  obtain⟨o,ho,ro⟩:=hs.there hn;unfold Qu at h;simp only[ho]at h
  cases o with
  | lst es=>cases h;obtain⟨vs,e,rr⟩:=ro;exact⟨_,_,rfl,rr,.inl (.inl e)⟩
  | _=>cases h
 | _=>cases h
theorem lV{S}{x y}{b}{xv yv}{u v}(I:Inv X ζ σ H s)(hu:X.A.units+64 < Fi)(hs:B2 X.K ρ S H)(r1:Bo X.K ρ H x xv)(r2:Bo X.K ρ H y yv)(q1:RelV xv u)(q2:RelV yv v)(h:eqB x y S=some b) :
  RcAt X.A s u v b/\RcNeAt X.A s u v (!b):=by
 unfold eqB at h;split at h
 ·rename_i xs ys h1 h2
  obtain⟨p,vs,rfl,rr,sq⟩:=L0 hs r1 h1;obtain⟨p',uf,rfl,vV,zF⟩:=L0 hs r2 h2;cases q1;cases q2;obtain⟨i',rv,pl,_⟩:=I.list sq;obtain⟨qj,vW,uZ,_⟩:=I.list zF;split at h
  ·rename_i hlen
   obtain⟨e,he,rfl⟩:=TW (A:=X.A.in1) (λx y b xv yv u v g1 g2 g3 g4 g5=>XD I 8 X.A.in1 x y b xv yv u v (by rw[G8];lia) g1 g2 g3 g4 g5) h rr vV rv vW
   have hsz:i'.toArray.size=qj.toArray.size:=by
    simp only[Ab];rw[<-rv.length,<-vW.length,<-rr.length,<-vV.length];exact hlen
   have e1:((C9 (min i'.toArray.size qj.toArray.size)).all e&&i'.toArray.size==qj.toArray.size)=(C9 i'.toArray.size).all e:=by
    rw[<-hsz,Nat.min_self,beq_self_eq_true,Bool.and_true]
   rw[e1];exact⟨RcAt.lists pl.isList uZ.isList hsz (by lia) he,RcNeAt.lists pl.isList uZ.isList hsz (by lia) he⟩
  ·rename_i hlen
   cases h
   have hsz:(i'.toArray.size != qj.toArray.size)=true:=by
    simp only[Ab];rw[<-rv.length,<-vW.length,<-rr.length,<-vV.length];simpa using hlen
   exact⟨RcAt.lists_lengths pl.isList uZ.isList hsz (by lia),RcNeAt.lists_lengths pl.isList uZ.isList hsz (by lia)⟩
 ·by_cases ht:∃xs ys,x=.tup xs/\y=.tup ys
  ·obtain⟨xs,ys,rfl,rfl⟩:=ht
   cases r1 with
   | tup a1 a2=>
    cases r2 with
    | tup b1 b2=>
     cases q1;cases q2;obtain⟨i',rv,p,_⟩:=I.tuple (.inl (.inl a1));obtain⟨qj,qC,p2,_⟩:=I.tuple (.inl (.inl b1));obtain⟨e,he,rfl⟩:=TW (n:=7) (A:=X.A.in1) (λx y b xv yv u v g1 g2 g3 g4 g5=>XD I 7 X.A.in1 x y b xv yv u v (by rw[G8];lia) g1 g2 g3 g4 g5) h a2 b2 rv qC;exact⟨mZ p p2 (by lia) he,RcNeAt.tuples p p2 (by lia) he⟩
  ·have hf:Lb x y=some b:=by
    cases x <;> cases y <;> first | exact h | exact(ht ⟨_,_,rfl,rfl⟩).elim
   exact(OU I (by lia) hf r1 r2 q1 q2).2
 ·rename_i xs h1 h2
  obtain⟨p,vs,rfl,rr,sq⟩:=L0 hs r1 h1;cases q1;obtain⟨i',rv,pl,_⟩:=I.list sq;split at h
  ·cases h
   cases r2 with
   | tup b1 b2=>
    cases q2;obtain⟨qj,qC,p2,_⟩:=I.tuple (.inl (.inl b1));exact⟨RcAt.list_tuple pl.isList p2 (by lia),RcNeAt.list_tuple pl.isList p2 (by lia)⟩
  ·cases h
   cases r2;cases q2;exact⟨RcAt.list_none pl.isList (by lia),RcNeAt.list_none pl.isList (by lia)⟩
  ·cases h
 ·rename_i xs h1 h2
  obtain⟨p,vs,rfl,rr,sq⟩:=L0 hs r2 h2;cases q2;obtain⟨i',rv,pl,_⟩:=I.list sq;split at h
  ·cases h
   cases r1 with
   | tup b1 b2=>
    cases q1;obtain⟨qj,qC,p2,_⟩:=I.tuple (.inl (.inl b1));exact⟨RcAt.tuple_list p2 pl.isList (by lia),RcNeAt.tuple_list p2 pl.isList (by lia)⟩
  ·cases h
   cases r1;cases q1;exact⟨RcAt.none_list pl.isList (by lia),RcNeAt.none_list pl.isList (by lia)⟩
  ·cases h
theorem Fs(hu:X.A.units+64 < Fi):OpR X (CM .Eq) (rD X.K (eqD false)):=by
 intro ζ s σ H x y v u Q I rx ry h;obtain⟨ρ,S,a,b,d,S',hs,ra,rb,hm,k⟩:=h;unfold eqD at hm;split at hm
 ·rename_i c hc
  cases hm;exact(lV I hu hs ra rb rx ry hc).1 _ _ _ _ ⟨.bl c,H,I,rfl,k ρ H _ .refl hs (.bl _)⟩
 ·cases hm
def MQ(x:D):List D->Option Bool
 | []=>some false
 | d :: ds=>match eqP 8 d x,MQ x ds with
  | some a,some b=>some (a||b)
  | _,_=>none
def inD(neg:Bool)(x y:D)(S:Sto):Res D:=match GF y S with
 | some ds=>match MQ x ds with
  | some b=>.ok (.bl (if neg then !b else b)) S
  | none=>.bad
 | none=>.bad
theorem XO(h:MQ x (d :: ds)=some b):∃a c,eqP 8 d x=some a/\MQ x ds=some c/\b=(a||c):=by
 unfold MQ at h;split at h
 ·rename_i a c h1 h2
  cases h;exact⟨a,c,h1,h2,rfl⟩
 ·cases h
open Classical in
theorem Nm(I:Inv X ζ σ H s)(hu:A.units+8 < Fi)(rx:Bo X.K ρ H x xv)(qx:RelV xv v):∀{ds:List D} {vs:List V} {us:List AH} {b:Bool},Am X.K ρ H ds vs->Bn vs us->MQ x ds=some b ->
  ∃e:AH->Bool,(∀y∈us,EqAt A s y v (e y))/\b=us.any e:=by
 intro ds vs us b r q h
 let e:AH->Bool:=λy=>decide (∃d w,d∈ds/\Bo X.K ρ H d w/\RelV w y/\eqP 8 d x=some true)
 have all:∀{qH:List D} {uf:List V} {qR:List AH} {b':Bool},(∀d∈qH,d∈ds)->Am X.K ρ H qH uf->Bn uf qR->MQ x qH=some b'->(∀y∈qR,EqAt A s y v (e y))/\b'=qR.any e:=by
  intro qH
  induction qH with
  | nil=>intro uf qR b' _ r q h;cases r;cases q;cases h;exact⟨(λ_ z=>nomatch z),rfl⟩
  | cons d qH ih=>
   intro uf qR b' t6 r q h
   cases r with
   | cons r1 r2=>
    cases q with
    | @cons w y _ _ q1 q2=>
     obtain⟨a,c,h1,h2,rfl⟩:=XO h;obtain⟨i1,i2⟩:=ih (λz hz=>t6 z (AJ _ hz)) r2 q2 h2
     have ha:e y=a:=by
      by_cases hq:∃d w,d∈ds/\Bo X.K ρ H d w/\RelV w y/\eqP 8 d x=some true
      ·obtain⟨d',w',_,g1,g2,g3⟩:=id hq
       rw[RelV.inj g2 q1]at g1;have:=g7 8 g1 r1 g3 h1;rw[<-this];exact wX hq
      ·have:a=false:=by
        cases a with
        | false=>rfl
        | true=>exact(hq ⟨d,_,t6 d AO,r1,q1,h1⟩).elim
       rw[this];exact wY hq
     refine⟨λz hz=>?_,by rw[HY,ha,<-i2]⟩
     rcases AV.mp hz with rfl | hz
     ·rw[ha]
      exact XD I 8 A d x a _ _ _ _ hu h1 r1 rx q1 qx
     ·exact i1 z hz
 obtain⟨e1,e2⟩:=all (λ_ h=>h) r q h;exact⟨e,e1,e2⟩
theorem oH(hu:X.A.units+64 < Fi):OpR X (CM .In) (rD X.K (inD false)):=by
 intro ζ s σ H x y v u Q I rx ry h;obtain⟨ρ,S,a,b,d,S',hs,ra,rb,hm,k⟩:=h;unfold inD at hm;split at hm
 ·rename_i ds hq
  split at hm
  ·rename_i c hc
   cases hm;obtain⟨p,xs,rfl,rr,sq⟩:=Pt hs rb hq;cases ry
   rcases sq with sq | sq
   ·obtain⟨i',rv,pl,_⟩:=I.list sq
    obtain⟨e,he,rfl⟩:=Nm I (A:=X.A.in1) (by rw[G8];lia) ra rx rr rv hc;exact in_listAt e pl.isList (λz hz=>he z (by simpa using hz)) ⟨.bl (i'.toArray.any e),H,I,rfl,by rw[Kh];exact k ρ H _ .refl hs (.bl _)⟩
   ·obtain⟨i',rv,pl,_⟩:=I.tuple sq
    obtain⟨e,he,rfl⟩:=Nm I (A:=X.A.in1) (by rw[G8];lia) ra rx rr rv hc;exact in_tupleAt e pl (λz hz=>he z (by simpa using hz)) ⟨.bl (i'.toArray.any e),H,I,rfl,by rw[Kh];exact k ρ H _ .refl hs (.bl _)⟩
  ·cases hm
 ·cases hm
theorem bZ(hu:X.A.units+64 < Fi):OpR X (CM .NotIn) (rD X.K (inD true)):=by
 intro ζ s σ H x y v u Q I rx ry h;obtain⟨ρ,S,a,b,d,S',hs,ra,rb,hm,k⟩:=h;unfold inD at hm;split at hm
 ·rename_i ds hq
  split at hm
  ·rename_i c hc
   cases hm;obtain⟨p,xs,rfl,rr,sq⟩:=Pt hs rb hq;cases ry
   rcases sq with sq | sq
   ·obtain⟨i',rv,pl,_⟩:=I.list sq
    obtain⟨e,he,rfl⟩:=Nm I (A:=X.A.in1) (by rw[G8];lia) ra rx rr rv hc;exact notIn_listAt e pl.isList (λz hz=>he z (by simpa using hz)) ⟨.bl (!i'.toArray.any e),H,I,rfl,by rw[Kh];exact k ρ H _ .refl hs (.bl _)⟩
   ·obtain⟨i',rv,pl,_⟩:=I.tuple sq
    obtain⟨e,he,rfl⟩:=Nm I (A:=X.A.in1) (by rw[G8];lia) ra rx rr rv hc;exact notIn_tupleAt e pl (λz hz=>he z (by simpa using hz)) ⟨.bl (!i'.toArray.any e),H,I,rfl,by rw[Kh];exact k ρ H _ .refl hs (.bl _)⟩
  ·cases hm
 ·cases hm
end
open PySem PySem.Spec PyProof.Rows
def R4(mo ma:ME):ME:=λe S=>(mo e S).bind λd S1=>match d with
 | .ref n=>match S1[n]? with
  | some (.lst _)=>(ma e S1).bind λy S2=>match S2[n]? with
   | some (.lst xs)=>if xs.length < sizeLine then .ok .non (S2.set n (.lst (xs++[y])))else .bad
   | _=>.bad
  | _=>.bad
 | _=>.bad
section
variable{X:Cx}{E:EW}{o e:Expr}{mo ma:ME}
theorem Xt{K}{ρ}{S}{H}{n}{x}{xs}(s:B2 K ρ S H)(r:Bo K ρ H (.ref n) x)(h:S[n]?=some (.lst xs)):∃a vs,x=.ref a/\ρ[n]?=some a/\H a=some (.lst vs)/\Am K ρ H xs vs:=by
 cases r with
 | ref hn=>
  obtain⟨vs,e,rr⟩:=s.ob n _ _ h hn;exact⟨_,vs,rfl,hn,e,rr⟩
theorem L3(ho:GE X E o mo)(ha:GE X E e ma)(ql:EQ o "append" X.env (CH o X.env)=CH o X.env:=by rfl)
  (qQ:((Dp qf (AX [e] X.env)).all (λx=>!x.1)&&(Rf qf (Ku [] X.env)).all (λx=>x.1.isSome)
    &&decide ([e].length+([]:List Oi).length+(if ([]:List Oi).isEmpty then 0 else 1) < 30))=true:=by rfl)
  (qm:(apos.endLine==qf.line)=true:=by rfl) (hs:AX [e] X.env=(false,CH e X.env) :: AX [] X.env:=by rfl) (qr:(Dp qf (AX [] X.env)).any (·.1)=false:=by rfl) :
  GE X E (.Call (.Attribute o "append" apos) [e] [] qf) (R4 mo ma):=(bS Jf PySem.F.slot_list_append PySem.F.type_list_append SQ ho (FI ha IS hs) ql qQ qm hs qr).imp λσ H Q ⟨ρ,l,S,hl,hs,hm⟩=>by
 refine⟨ρ,l,S,hl,hs,hm.seq λx S1 hm ρ1 H1 v l1 s1 r1=>?_⟩
 cases x <;> first | exact hm.elim | skip
 rename_i n;dsimp only at hm;split at hm
 ·rename_i xK h0
  obtain⟨a,vs,rfl,hn,e0,_⟩:=Xt s1 r1 h0;refine⟨.inl ⟨rfl,vs,.inl (.inl e0)⟩,ρ1,l,S1,hl.mono l1,s1,(hm.later l1).seq λy S2 hm ρ2 H2 u l2 s2 r2=>?_⟩;split at hm
  ·rename_i xs h3
   split at hm
   ·rename_i hz
    have qF:=l2.pre n a hn;obtain⟨ws,e3,rr⟩:=s2.ob n _ _ h3 qF;have le:Le X.K ρ2 H2 ρ2 (upd H2 a (.lst (ws++[u]))):=Le.write qF (by rw[e3];trivial);obtain⟨s3,l3⟩:=s2.write (ho:=.lst (ws++[u])) (o:=.lst (xs++[y])) qF ⟨_,Bu,(rr.append (.cons r2 .nil)).mono le⟩ le;exact⟨a,ws,u,rfl,rfl,e3,by rw[<-rr.length];exact hz,hm ρ2 _ _ (l1.trans (l2.trans l3)) s3 .non⟩
   ·exact hm.elim
  ·exact hm.elim
 ·exact hm.elim
end
def Ag{κ β:Type}[DecidableEq κ](f':List (κ×β))(k:κ):Option β:=(f'.find? λkv=>decide (kv.1=k)).map (·.2)
def Bz{κ β:Type}[DecidableEq κ](f':List (κ×β))(k:κ)(v:β):List (κ×β):=
 if (f'.any λkv=>decide (kv.1=k))=true then f'.map (λkv=>if kv.1=k then(kv.1,v)else kv)else f'++[(k,v)]
section
variable{κ:Type}[DecidableEq κ]{K:AF}{ρ:List AU}{H:Hp}
theorem KVR.val(k:κ):∀{x:List (κ×D)} {y:List (κ×V)},KVR K ρ H x y->(Ag x k=none->J3 y k=none)/\∀d,Ag x k=some d->∃v,J3 y k=some v/\Bo K ρ H d v
 | _,_,.nil=>⟨λ_=>rfl,λd h=>by cases h⟩
 | (g,a) :: x,(g',b) :: y,.cons r t=>by
  obtain⟨r1,r2⟩:=r;dsimp only at r1 r2;subst r1;unfold Ag J3;rw[B1,B1]
  by_cases e:g=k
  ·simp only[e,decide_true]
   exact⟨(λh=>nomatch h),(λd h=>by cases h;exact⟨b,rfl,r2⟩)⟩
  ·simp only[e,decide_false]
   exact KVR.val k t
theorem KVR.any(k:κ):∀{x:List (κ×D)} {y:List (κ×V)},KVR K ρ H x y->(x.any λkv=>decide (kv.1=k))=y.any λkv=>decide (kv.1=k)
 | _,_,.nil=>rfl
 | (g,a) :: x,(g',b) :: y,.cons r t=>by
  rw[HY,HY,KVR.any k t,show g=g' from r.1]
theorem KVR.repl(k:κ)(rd:Bo K ρ H d v):∀{x:List (κ×D)} {y:List (κ×V)},KVR K ρ H x y->KVR K ρ H (x.map λkv=>if kv.1=k then(kv.1,d)else kv) (y.map λkv=>if kv.1=k then(kv.1,v)else kv)
 | _,_,.nil=>.nil
 | (g,a) :: x,(g',b) :: y,.cons r t=>by
  obtain⟨r1,r2⟩:=r;dsimp only at r1 r2;subst r1;rw[A9,A9];refine .cons ?_ (KVR.repl k rd t)
  by_cases e:g=k
  ·rw[qX e,qX e];exact⟨rfl,rd⟩
  ·rw[qY e,qY e];exact⟨rfl,r2⟩
theorem KVR.put(k:κ)(rd:Bo K ρ H d v)(h:KVR K ρ H x y):KVR K ρ H (Bz x k d) (Kn y k v):=by
 unfold Bz Kn;rw[KVR.any k h];split
 ·exact KVR.repl k rd h
 ·exact V2 h ⟨rfl,rd⟩
end
def cD:D->Option Key
 | .int i=>some (.inl i)
 | .str x=>some (.inr x)
 | _=>none
def MP:List D->Option (List Key)
 | []=>some []
 | d :: ds=>match cD d,MP ds with
  | some k,some ks=>some (k :: ks)
  | _,_=>none
theorem Pv{K}{ρ}{H}{d}{v}{k}(r:Bo K ρ H d v)(h:cD d=some k):v=kV k:=by
 cases r <;> first | (cases h;done) | (cases h;rfl)
theorem Nb{K}{ρ}{H}:∀{ds:List D} {vs:List V} {ks:List Key},Am K ρ H ds vs->MP ds=some ks->vs=ks.map kV
 | _,_,_,.nil,h=>by cases h;rfl
 | _,_,_,.cons r t,h=>by
  unfold MP at h;split at h
  ·rename_i k ks h1 h2
   cases h;rw[Pv r h1,Nb t h2];rfl
  ·cases h
def MD(x y:D)(S:Sto):Option (Option D):=match x with
 | .ref n=>match S[n]? with
  | some (.dK f')=>match cD y with
   | some k=>some (Ag f' k)
   | none=>none
  | some (.dT f')=>match y with
   | .tup ds=>match MP ds with
    | some ks=>some (Ag f' ks)
    | none=>none
   | _=>none
  | some (.fK f')=>match cD y with
   | some k=>some (Ag f' k)
   | none=>none
  | some (.fT f')=>match y with
   | .tup ds=>match MP ds with
    | some ks=>some (Ag f' ks)
    | none=>none
   | _=>none
  | _=>none
 | _=>none
theorem UD{K}{ρ}{S}{H}{x y}{xv yv}{o}(s:B2 K ρ S H)(rx:Bo K ρ H x xv)(ry:Bo K ρ H y yv)(h:MD x y S=some o) :
  ∃a o',xv=.ref a/\No H a yv o'/\(o=none->o'=none)/\∀d,o=some d->∃v,o'=some v/\Bo K ρ H d v:=by
 unfold MD at h;split at h
 ·rename_i n
  cases rx with
  | @ref _ a hn=>
   split at h
   ·rename_i f' h1
    split at h
    ·rename_i k hk
     cases h;obtain⟨p8,e,r⟩:=s.ob n _ _ h1 hn;rw[Pv ry hk];obtain⟨v1,v2⟩:=KVR.val k r;exact⟨a,J3 p8 k,rfl,No.k e,v1,v2⟩
    ·cases h
   ·rename_i f' h1
    split at h
    ·rename_i ds
     split at h
     ·rename_i ks hk
      cases h;obtain⟨p8,e,r⟩:=s.ob n _ _ h1 hn
      cases ry with
      | tup b1 b2=>
       obtain⟨v1,v2⟩:=KVR.val ks r;rw[Nb b2 hk]at b1;exact⟨a,J3 p8 ks,rfl,No.t e b1,v1,v2⟩
     ·cases h
    ·cases h
   ·rename_i f' h1
    split at h
    ·rename_i k hk
     cases h;obtain⟨ob,p8,e,r⟩:=s.ob n _ _ h1 hn;rw[Pv ry hk];obtain⟨v1,v2⟩:=KVR.val k r;exact⟨a,J3 p8 k,rfl,(.inl ⟨_,_,.inr ⟨ob,e⟩,rfl,rfl⟩),v1,v2⟩
    ·cases h
   ·rename_i f' h1
    split at h
    ·rename_i ds
     split at h
     ·rename_i ks hk
      cases h;obtain⟨ob,p8,e,r⟩:=s.ob n _ _ h1 hn
      cases ry with
      | tup b1 b2=>
       obtain⟨v1,v2⟩:=KVR.val ks r;rw[Nb b2 hk]at b1;exact⟨a,J3 p8 ks,rfl,(.inr ⟨_,_,_,.inr ⟨ob,e⟩,rfl,b1,rfl⟩),v1,v2⟩
     ·cases h
    ·cases h
   ·cases h
 ·cases h
def RM(x y:D)(S:Sto):Res D:=match MD x y S with
 | some (some d)=>.ok d S
 | _=>.bad
def Mp(neg:Bool)(y x:D)(S:Sto):Res D:=match MD x y S with
 | some o=>.ok (.bl (if neg then !o.isSome else o.isSome)) S
 | none=>.bad
section
variable{X:Cx}{E:EW}{mo mi mv:ME}
theorem gk(hu:X.A.units+1 < Fi)(ho:GE X E o mo)(hi:GE X E i mi)(hs:ls i:=by intro _ _;rfl):GE X E (.Subscript o i pos) (m2 RM mo mi):=(fY hu ho hi hs).imp λσ H Q h=>by
 refine(MZ h:tOp (rD X.K RM) (gE X.K E mo) (gE X.K E mi) σ H Q) |> λt=>?_
 obtain⟨ρ,l,S,hl,hs,k⟩:=t;refine⟨ρ,l,S,hl,hs,k.imp λx S1 k ρ1 H1 u l1 s1 r1=>?_⟩;obtain⟨ρ2,l2,S2,qW,qz,k2⟩:=k ρ1 H1 u l1 s1 r1;refine⟨ρ2,l2,S2,qW,qz,k2.imp λy S3 k2 ρ3 H3 v l3 s3 r3=>?_⟩;obtain⟨ρ4,S4,x4,y4,d,S5,s4,r4,r5,hm,k4⟩:=k2 ρ3 H3 v l3 s3 r3;unfold RM at hm;split at hm
 ·rename_i d' hd
  cases hm;obtain⟨a,o',rfl,g,_,g2⟩:=UD s4 r4 r5 hd;obtain⟨w',rfl,qC⟩:=g2 _ rfl;exact⟨a,w',rfl,g,k4 ρ4 H3 w' .refl s4 qC⟩
 ·cases hm
theorem eZ{σ}{H}{Q}(h:gE X.K E (m2 (Mp false) mi mo) σ H Q):nL (gE X.K E mi) (gE X.K E mo) σ H Q:=by
 obtain⟨ρ,l,S,hl,hs,k⟩:=(MZ h:tOp (rD X.K (Mp false)) (gE X.K E mi) (gE X.K E mo) σ H Q);refine⟨ρ,l,S,hl,hs,k.imp λx S1 k ρ1 H1 u l1 s1 r1=>?_⟩;obtain⟨ρ2,l2,S2,qW,qz,k2⟩:=k ρ1 H1 u l1 s1 r1;refine⟨ρ2,l2,S2,qW,qz,k2.imp λy S3 k2 ρ3 H3 v l3 s3 r3=>?_⟩;obtain⟨ρ4,S4,x4,y4,d,S5,s4,r4,r5,hm,k4⟩:=k2 ρ3 H3 v l3 s3 r3;unfold Mp at hm;split at hm
 ·rename_i o' hd
  cases hm;obtain⟨a,o2,rfl,g,g1,g2⟩:=UD s4 r5 r4 hd;refine⟨a,o2,rfl,g,?_⟩
  have:o2.isSome=o'.isSome:=by
   cases o' with
   | none=>rw[g1 rfl];rfl
   | some d=>obtain⟨w',rfl,_⟩:=g2 d rfl;rfl
  rw[this];exact k4 ρ4 H3 _ .refl s4 (.bl _)
 ·cases hm
theorem WX{σ}{H}{Q}(h:gE X.K E (m2 (Mp true) mi mo) σ H Q):Xq (gE X.K E mi) (gE X.K E mo) σ H Q:=by
 obtain⟨ρ,l,S,hl,hs,k⟩:=(MZ h:tOp (rD X.K (Mp true)) (gE X.K E mi) (gE X.K E mo) σ H Q);refine⟨ρ,l,S,hl,hs,k.imp λx S1 k ρ1 H1 u l1 s1 r1=>?_⟩;obtain⟨ρ2,l2,S2,qW,qz,k2⟩:=k ρ1 H1 u l1 s1 r1;refine⟨ρ2,l2,S2,qW,qz,k2.imp λy S3 k2 ρ3 H3 v l3 s3 r3=>?_⟩;obtain⟨ρ4,S4,x4,y4,d,S5,s4,r4,r5,hm,k4⟩:=k2 ρ3 H3 v l3 s3 r3;unfold Mp at hm;split at hm
 ·rename_i o' hd
  cases hm;obtain⟨a,o2,rfl,g,g1,g2⟩:=UD s4 r5 r4 hd;refine⟨a,o2,rfl,g,?_⟩
  have:o2.isSome=o'.isSome:=by
   cases o' with
   | none=>rw[g1 rfl];rfl
   | some d=>obtain⟨w',rfl,_⟩:=g2 d rfl;rfl
  rw[this];exact k4 ρ4 H3 _ .refl s4 (.bl _)
 ·cases hm
theorem bw{K}{m}{σ}{H}{Q}(h:gT K E (mB m) σ H Q):gE K E m σ H λx H1=>∃c,x=.bl c/\Q c H1:=by
 obtain⟨ρ,l,S,hl,hs,hm⟩:=h;refine⟨ρ,l,S,hl,hs,hm.seq λd S1 hm ρ1 H1 x l1 s1 r1=>?_⟩
 cases d <;> first | exact hm.elim | skip
 cases r1;exact⟨_,rfl,hm ρ1 H1 l1 s1⟩
theorem lC(hu:X.A.units+1 < Fi)(hi:GE X E i mi)(ho:GE X E o mo)(h1:DN .In o=false:=by rfl):GT X E (.Compare i [.In] [o] pos) (mB (m2 (Mp false) mi mo)):=(bE (kI hu hi ho) h1).imp λ_ _ _ h=>eZ (bw h)
theorem Za(hu:X.A.units+1 < Fi)(hi:GE X E i mi)(ho:GE X E o mo)(h1:DN .NotIn o=false:=by rfl):GT X E (.Compare i [.NotIn] [o] pos) (mB (m2 (Mp true) mi mo)):=(bE (ZF hu hi ho) h1).imp λ_ _ _ h=>WX (bw h)
def IV:ME:=λ_ S=>.ok (.ref S.length) (S++[.dK []])
def Tu:ME:=λ_ S=>.ok (.ref S.length) (S++[.dT []])
theorem LU:GE X E (.Dict [] [] pos) IV:=(bQ (X:=X) (pos:=pos)).imp λσ H Q ⟨ρ,l,S,hl,hs,k⟩ p hp=>by
 obtain⟨s2,l2,at2⟩:=hs.alloc (ho:=.dK []) (o:=.dK []) hp ⟨[],Bu,.nil⟩;exact k _ _ _ l2 s2 (.ref at2)
theorem Vi:GE X E (.Dict [] [] pos) Tu:=(bP (X:=X) (pos:=pos)).imp λσ H Q ⟨ρ,l,S,hl,hs,k⟩ p hp=>by
 obtain⟨s2,l2,at2⟩:=hs.alloc (ho:=.dT []) (o:=.dT []) hp ⟨[],Bu,.nil⟩;exact k _ _ _ l2 s2 (.ref at2)
def Pc(x y v:D)(S:Sto):Option Sto:=match x with
 | .ref n=>match S[n]? with
  | some (.dK f')=>match cD y with
   | some k=>if f'.length < sizeLine then some (S.set n (.dK (Bz f' k v)))else none
   | none=>none
  | some (.dT f')=>match y with
   | .tup ds=>match MP ds with
    | some ks=>if f'.length < sizeLine then some (S.set n (.dT (Bz f' ks v)))else none
    | none=>none
   | _=>none
  | _=>none
 | _=>none
def Cv(mo mi mv:ME):MS:=λe S=>(mv e S).lift e λv S1=>(mo e S1).lift e λx S2=>(mi e S2).lift e λy S3=>match Pc x y v S3 with
 | some S4=>.ok (.nx e) S4
 | none=>.bad
theorem Hr(hu:X.A.units+1 < Fi)(ho:GE X E o mo)(hi:GE X E i mi)(hv:GE X E value mv)(hs:Fu value (some (.Subscript o i pos')) pos.line X.env=pure false:=by rfl):GS X E (.Assign [.Subscript o i pos'] value pos) (Cv mo mi mv):=(fJ hu ho hi hv hs).imp λD σ H ⟨ρ,l,S,hl,hs,hm⟩=>by
 refine⟨ρ,l,S,hl,hs,hm.lift hl .refl λv S1 hm ρ1 H1 vv l1 s1 r1=>⟨ρ1,l,S1,hl.mono l1,s1,(hm.later l1).lift (hl.mono l1) l1 λx S2 hm ρ2 H2 xv l2 s2 r2=>⟨ρ2,l,S2,hl.mono (l1.trans l2),s2,(hm.later l2).lift (hl.mono (l1.trans l2)) (l1.trans l2) λy S3 hm ρ3 H3 yv l3 s3 r3=>?_⟩⟩⟩;have xM:=r1.mono (l2.trans l3);have zG:=r2.mono l3;have xO:=hl.mono (l1.trans (l2.trans l3));split at hm
 ·rename_i S4 hp
  unfold Pc at hp;split at hp
  ·rename_i n
   cases zG with
   | @ref _ a hn=>
    split at hp
    ·rename_i f' h4
     split at hp
     ·rename_i ky hk
      split at hp
      ·rename_i hz
       cases hp;obtain⟨p8,e,r⟩:=s3.ob n _ _ h4 hn;rw[Pv r3 hk];have le:Le X.K ρ3 H3 ρ3 (upd H3 a (.dK (Kn p8 ky vv))):=Le.write hn (by rw[e];trivial);obtain⟨s5,l5⟩:=s3.write (ho:=.dK (Kn p8 ky vv)) (o:=.dK (Bz f' ky v)) hn ⟨_,Bu,(KVR.put ky xM r).mono le⟩ le;exact⟨a,_,rfl,Vy.k e (by rw[<-KVR.length r];exact hz),hm ρ3 _ σ (l1.trans (l2.trans (l3.trans l5))) s5 (xO.mono l5)⟩
      ·cases hp
     ·cases hp
    ·rename_i f' h4
     split at hp
     ·rename_i ds
      split at hp
      ·rename_i ks hk
       split at hp
       ·rename_i hz
        cases hp;obtain⟨p8,e,r⟩:=s3.ob n _ _ h4 hn
        cases r3 with
        | tup b1 b2=>
         rw[Nb b2 hk]at b1;have le:Le X.K ρ3 H3 ρ3 (upd H3 a (.dT (Kn p8 ks vv))):=Le.write hn (by rw[e];trivial);obtain⟨s5,l5⟩:=s3.write (ho:=.dT (Kn p8 ks vv)) (o:=.dT (Bz f' ks v)) hn ⟨_,Bu,(KVR.put ks xM r).mono le⟩ le;exact⟨a,_,rfl,Vy.t e b1 (by rw[<-KVR.length r];exact hz),hm ρ3 _ σ (l1.trans (l2.trans (l3.trans l5))) s5 (xO.mono l5)⟩
       ·cases hp
      ·cases hp
     ·cases hp
    ·cases hp
  ·cases hp
 ·exact hm.elim
end
section
variable{X:Cx}{E:EW}{a b c:Expr}{pos:Pos}
theorem Ys{K}{f g}{σ}{H}{Q}(h:gE K E (m3 f g ma mb mc) σ H Q):ah (rD K f) (rD K g) (gE K E ma) (gE K E mb) (gE K E mc) σ H Q:=by
 obtain⟨ρ,l,S,hl,hs,hm⟩:=h;refine⟨ρ,l,S,hl,hs,hm.seq λx S1 hm ρ1 H1 u l1 s1 r1=>⟨ρ1,l,S1,hl.mono l1,s1,(hm.later l1).seq λy S2 hm ρ2 H2 v l2 s2 r2=>?_⟩⟩
 cases hf:f x y S2 with
 | bad=>rw[hf]at hm;exact hm.elim
 | err _ _=>rw[hf]at hm;exact hm.elim
 | ok z S3=>
  rw[hf]at hm;dsimp only[okR,Res.bind]at hm;refine⟨ρ2,S2,x,y,z,S3,s2,r1.mono l2,r2,hf,λρ3 H3 w l3 s3 r3=>?_⟩
  cases z with
  | bl k=>
   cases r3;refine⟨k,rfl,?_⟩
   cases k with
   | true=>
    rw[qX rfl];refine⟨ρ3,l,S3,hl.mono (l1.trans (l2.trans l3)),s3,CD.seq (hm.later (l2.trans l3)) λw S4 hm ρ4 H4 wv l4 s4 r4=>?_⟩;obtain⟨d,S',e,k⟩:=hm.okR;exact⟨ρ4,S4,y,w,d,S',s4,r2.mono (l3.trans l4),r4,e,λρ' H' z l' s' r'=>k ρ' H' z (l1.trans (l2.trans (l3.trans (l4.trans l')))) s' r'⟩
   | false=>rw[qY AI];exact hm ρ3 H3 _ (l1.trans (l2.trans l3)) s3 (.bl false)
  | _=>exact hm.elim
theorem Q4(ho:OpR X (CM op) (rD X.K f))(rB:OpR X (CM op') (rD X.K g))(ha:GE X E a ma)(hb:GE X E b mb)(hc:GE X E c mc)
  (hm:lastMarks [op,op'] [b,c]=false:=by with_unfolding_all rfl):GT X E (.Compare a [op,op'] [b,c] pos) (mB (m3 f g ma mb mc)):=(bF ho rB ha hb hc hm).imp λ_ _ _ h=>Ys (bw h)
def bu(m:ME):ME:=λe S=>(m e S).bind λd S1=>match d with
 | .int i=>.ok (.int (-i)) S1
 | _=>.bad
theorem cT(h:GE X E a ma):GE X E (.UnaryOp .USub a pos) (bu ma):=(ny jV h).imp λσ H Q ⟨ρ,l,S,hl,hs,hm⟩=>by
 refine⟨ρ,l,S,hl,hs,hm.seq λd S1 hm ρ1 H1 x l1 s1 r1=>?_⟩
 cases d <;> first | exact hm.elim | skip
 cases r1;exact⟨_,rfl,hm ρ1 H1 _ l1 s1 (.int _)⟩
end
abbrev MO:=Lo->Sto->Res (Option Int)
def gO(K:AF)(E:EW)(m:MO):TO:=λσ H Q=>∃ρ e S,Ff K ρ H e σ/\B2 K ρ S H/\CD K (λc=>E c σ) ρ H (m e S) λo S'=>∀ρ' H',Le K ρ H ρ' H'->B2 K ρ' S' H'->Q o H'
abbrev GO(X:Cx)(E:EW)(e:Option Expr)(m:MO):Prop:=PO X e (gO X.K E m)
def bd:MO:=λ_ S=>.ok none S
def X1(m:ME):MO:=λe S=>(m e S).bind λd S1=>match d with
 | .int i=>.ok (some i) S1
 | _=>.bad
def OZ{α:Type}(xs:List α)(lo hi:Option Int):List α:=(xs.drop (HT.sIx xs.length 0 lo)).take (HT.sIx xs.length xs.length hi - HT.sIx xs.length 0 lo)
def aE(n:Nat)(lo hi:Option Int):Bool:=decide (HT.sIx n 0 lo=0/\HT.sIx n n hi=n)
def TU(d:D)(lo hi:Option Int)(S:Sto):Res D:=match d with
 | .tup ds=>if aE ds.length lo hi=true then .bad else .ok (.tup (OZ ds lo hi)) S
 | _=>match Qu d S with
  | some ds=>.ok (.ref S.length) (S++[.lst (OZ ds lo hi)])
  | none=>.bad
def Tt(m:ME)(ml mh:MO):ME:=λe S=>(m e S).bind λd S1=>(ml e S1).bind λlo S2=>(mh e S2).bind λhi S3=>okR (TU d lo hi S3)
section
variable{X:Cx}{E:EW}{e:Expr}{lo hi:Option Expr}{pos p2:Pos}{m:ME}{ml mh:MO}
theorem PO.imp(h:PO X o t)(i:∀σ H Q,t' σ H Q->t σ H Q):PO X o t':=λζ s σ H Q I q=>h ζ s σ H Q I (i σ H Q q)
theorem gf:GO X E none bd:=PO.imp fO λσ H Q ⟨ρ,l,S,hl,hs,hm⟩=>hm ρ H .refl hs
theorem ge(h:GE X E e m):GO X E (some e) (X1 m):=PO.imp (fN h) λσ H Q ⟨ρ,l,S,hl,hs,hm⟩=>by
 refine⟨ρ,l,S,hl,hs,hm.seq λd S1 hm ρ1 H1 x l1 s1 r1=>?_⟩
 cases d <;> first | exact hm.elim | skip
 cases r1;exact⟨_,rfl,hm ρ1 H1 l1 s1⟩
theorem Vp{K}{ρ}{H}{ds}{vs}(r:Am K ρ H ds vs)(lo hi:Option Int):Am K ρ H (OZ ds lo hi) (RN vs lo hi):=by
 unfold OZ RN;rw[r.length];exact(r.drop _).take _
theorem cS(he:GE X E e m)(hl:GO X E lo ml)(hu:GO X E hi mh):GE X E (.Subscript e (.Slice lo hi none p2) pos) (Tt m ml mh):=(bN (eh.or ji) he hl hu).imp λσ H Q ⟨ρ,l,S,hl,hs,hm⟩=>by
 refine⟨ρ,l,S,hl,hs,hm.seq λd S1 hm ρ1 H1 x l1 s1 r1=>⟨ρ1,l,S1,hl.mono l1,s1,(hm.later l1).seq λlo S2 hm ρ2 H2 l2 s2=>⟨ρ2,l,S2,hl.mono (l1.trans l2),s2,(hm.later l2).seq λhi S3 hm ρ3 H3 l3 s3=>?_⟩⟩⟩;obtain⟨d',S',e,k⟩:=hm.okR;have r3:=r1.mono (l2.trans l3)
 have lst:∀ds,Qu d S3=some ds->Res.ok (.ref S3.length) (S3++[.lst (OZ ds lo hi)])=Res.ok d' S'->nY X.K x lo hi H3 Q:=λds hq e=>by
  cases e;obtain⟨p,xs,rfl,rr,sq⟩:=L0 s3 r3 hq;refine⟨p,xs,rfl,sq,λq hq=>?_⟩;have le:Le X.K ρ3 H3 (ρ3++[q]) (upd H3 q (.lst (RN xs lo hi))):=Le.alloc hq;obtain⟨s4,l4,vX⟩:=s3.alloc (ho:=.lst (RN xs lo hi)) (o:=.lst (OZ ds lo hi)) hq ⟨_,Bu,(Vp rr lo hi).mono le⟩;exact k _ _ _ (l1.trans (l2.trans (l3.trans l4))) s4 (.ref vX)
 cases d with
 | tup ds=>
  unfold TU at e;dsimp only at e;split at e
  ·cases e
  ·rename_i hw
   cases e
   cases r3 with
   | @tup _ a vs h1 h2=>
    refine .inr ⟨a,vs,rfl,.inl (.inl h1),λz=>hw ?_,λq hq=>?_⟩
    ·unfold aE
     rw[h2.length];exact wX z
    ·obtain⟨s4,l4⟩:=Ix (ho:=.tup (RN vs lo hi)) s3 hq
     exact k _ _ _ (l1.trans (l2.trans (l3.trans l4))) s4 (.tup Bu ((Vp h2 lo hi).mono l4))
 | non=>cases e
 | bl _=>cases e
 | int _=>cases e
 | str _=>cases e
 | exc _=>cases e
 | fro ds=>exact .inl (lst ds rfl e)
 | ref n=>
  unfold TU at e;dsimp only at e;split at e
  ·rename_i ds hq
   exact .inl (lst ds hq e)
  ·cases e
end
section
variable{X:Cx}{E:EW}{e:Expr}{p pos:Pos}{m:ME}
def Hh(m:ME):ME:=λe S=>(m e S).bind λd S1=>match GF d S1 with
 | some ds=>.ok (.tup ds) S1
 | none=>.bad
theorem Jp(hg:Gl X "tuple") (hm:X.mg "tuple" = none) (h:GE X E e m) (he:AX [e] X.env=(false,CH e X.env) :: AX [] X.env:=by rfl):GE X E (.Call (.Name "tuple" p) [e] [] pos) (Hh m):=
 (SM R7 hg hm pV (FI h IS he) (by decide) (by decide) he rfl).imp λσ H Q ⟨ρ,l,S,hl,hs,hm⟩=>by
 refine⟨ρ,l,S,hl,hs,hm.seq λd S1 hm ρ1 H1 x l1 s1 r1=>?_⟩
 cases hq:GF d S1 with
 | none=>rw[hq]at hm;exact hm.elim
 | some ds=>
  rw[hq]at hm
  have ug:∀a vs,x=.ref a->SqL X.K H1 a vs->Am X.K ρ1 H1 ds vs->∃p ys,[x]=[.ref p]/\((SqL X.K H1 p ys/\∀l,H1 l=none->Q (.ref l) (upd H1 l (.tup ys)))∨(SqT X.K H1 p ys/\Q (.ref p) H1)):=λa vs e sq rr=>by
   subst e;refine⟨a,vs,rfl,.inl ⟨sq,λq hq=>?_⟩⟩;obtain⟨s2,l2⟩:=Ix (ho:=.tup vs) s1 hq;exact hm _ _ _ (l1.trans l2) s2 (.tup Bu (rr.mono l2))
  cases r1 with
  | @tup _ a vs h1 h2=>cases hq;exact⟨a,vs,rfl,.inr ⟨.inl (.inl h1),hm ρ1 H1 _ l1 s1 (.tup h1 h2)⟩⟩
  | @fro _ a vs h1 h2=>cases hq;exact ug a vs rfl h1.sq h2
  | @ref n a hn=>
   obtain⟨o,ho,ro⟩:=s1.there hn;unfold GF at hq;simp only[ho]at hq
   cases o with
   | lst es=>cases hq;obtain⟨vs,e,rr⟩:=ro;exact ug a vs rfl (.inl (.inl e)) rr
   | _=>cases hq
  | _=>cases hq
variable{o:Expr}
def atL(d:D)(S:Sto):Option (Nat×List D):=match d with
 | .ref n=>match S[n]? with
  | some (.lst xs)=>some (n,xs)
  | _=>none
 | _=>none
theorem Mu{K}{ρ}{S}{H}{d}{x}{n}{xs}(s:B2 K ρ S H)(r:Bo K ρ H d x)(h:atL d S=some (n,xs)):d=.ref n/\S[n]?=some (.lst xs)/\∃a vs,x=.ref a/\ρ[n]?=some a/\H a=some (.lst vs)/\Am K ρ H xs vs:=by
 unfold atL at h;split at h
 ·split at h
  ·rename_i ds hd
   cases h;exact⟨rfl,hd,Xt s r hd⟩
  ·cases h
 ·cases h
theorem Tf{K}{ρ}{S}{H}{n}{a}{vs ws}{ys}(s:B2 K ρ S H)(hn:ρ[n]?=some a)(e:H a=some (.lst vs))(r:Am K ρ H ys ws) :
  B2 K ρ (S.set n (.lst ys)) (upd H a (.lst ws))/\Le K ρ H ρ (upd H a (.lst ws)):=by
 have le:Le K ρ H ρ (upd H a (.lst ws)):=Le.write hn (by rw[e];trivial);exact s.write (ho:=.lst ws) (o:=.lst ys) hn ⟨_,Bu,r.mono le⟩ le
end
section
variable{X:Cx}
def TN:List Int->Int:=λns=>P3 (λi=>ns.getD i 0) ns.length
theorem KD:∀(n:Nat),(∀i,i < n->f i=g i)->P3 f n=P3 g n
 | 0,_=>rfl
 | n+1,h=>by
  show P3 f n+f n=P3 g n+g n;rw[KD n λi hi=>h i (by lia),h n (by lia)]
theorem Oq(x:Int)(f:Nat->Int):∀n:Nat,P3 (λi=>match i with | 0=>x | j+1=>f j) (n+1)=x+P3 f n
 | 0=>by show(0:Int)+x=x+0;lia
 | n+1=>by
  show P3 _ (n+1)+f n=x+(P3 f n+f n);rw[Oq x f n]
  lia
theorem TM:∀ns:List Int,TN ns=ns.sum
 | []=>rfl
 | n :: ns=>by
  have:=TM ns;unfold TN at this ⊢;rw[List.sum_cons,<-this,Aj,<-Oq]
  refine KD _ λi hi=>?_
  cases i <;> simp
theorem R5{ns:List Int}{i':List AH}(r:Bn (ns.map V.int) i'):∃xs:Array (Int×Tok),i'.toArray=intItems xs/\xs.size=ns.length/\∀i,i < ns.length->numAt xs i=ns.getD i 0:=by
 induction ns generalizing i' with
 | nil=>
  cases r;exact⟨#[],by simp[intItems],rfl,λi hi=>zX hi (by simp)⟩
 | cons n ns ih=>
  cases r with
  | cons r1 r2=>
   obtain⟨xs,e1,e2,e3⟩:=ih r2;obtain⟨t,rfl⟩:=r1;refine⟨#[(n,t)]++xs,?_,by simp[e2];lia,λi hi=>?_⟩
   ·unfold intItems at e1 ⊢
    rw[Array.map_append,<-e1];simp
   ·cases i with
    | zero=>
     unfold numAt;rw[Array.getElem?_append_left (by simp)];simp
    | succ i=>
     have:=e3 i (by simpa using hi);unfold numAt at this ⊢;rw[Array.getElem?_append_right (by simp)];simpa using this
def na(K:AF)(f:List Int->Int):List V->Hp->VK->Prop:=λxs H Q=>∃p ns,xs=[.ref p]/\SqL K H p (ns.map V.int)/\Q (.int (f ns)) H
theorem Zn(hc:X.calm=true):Kj X (.builtin "sum") (na X.K TN):=by
 intro ζ s σ H xs us Q I r h;obtain⟨p,ns,rfl,hq,q⟩:=h;obtain⟨u,rfl,rx⟩:=vals1 r;cases rx;obtain⟨i',r',pl,hz⟩:=I.list hq;obtain⟨xs,e1,e2,e3⟩:=R5 r'
 refine sum_intListG (xs:=xs) (I.ok.hd hc) (by rw[<-e1];exact pl.isList) λh' tk t' kp=>⟨.int _,H,I.kept kp,⟨t',rfl⟩,?_⟩
 rw[e2,KD _ e3];exact q
def JC:List D->Option (List Int)
 | []=>some []
 | .int b :: ds=>(JC ds).map (b :: ·)
 | _ :: _=>none
theorem Nd:∀{ds:List D} {ns:List Int},JC ds=some ns->ds=ns.map D.int
 | [],_,h=>by cases h;rfl
 | .int b :: ds,ns,h=>by
  unfold JC at h
  cases hq:JC ds with
  | none=>rw[hq]at h;cases h
  | some cs=>rw[hq]at h;cases h;rw[Nd hq];rfl
 | .non :: _,_,h=>by cases h
 | .bl _ :: _,_,h=>by cases h
 | .str _ :: _,_,h=>by cases h
 | .tup _ :: _,_,h=>by cases h
 | .fro _ :: _,_,h=>by cases h
 | .ref _ :: _,_,h=>by cases h
 | .exc _ :: _,_,h=>by cases h
def gP(m:ME):ME:=λe S=>(m e S).bind λd S1=>match Qu d S1 with
 | some ds=>match JC ds with
  | some ns=>.ok (.int (TN ns)) S1
  | none=>.bad
 | none=>.bad
theorem lJ(hc:X.calm=true)(hg:Gl X "sum") (hm:X.mg "sum" = none) (h:GE X E e m) (he:AX [e] X.env=(false,CH e X.env) :: AX [] X.env:=by rfl):GE X E (.Call (.Name "sum" p) [e] [] pos) (gP m):=
 (LI (Zn hc) hg hm pW (FI h IS he) (by decide) (by decide) he rfl).imp λσ H Q ⟨ρ,l,S,hl,hs,hm⟩=>by
 refine⟨ρ,l,S,hl,hs,hm.seq λd S1 hm ρ1 H1 x l1 s1 r1=>?_⟩
 cases hq:Qu d S1 with
 | none=>rw[hq]at hm;exact hm.elim
 | some ds=>
  rw[hq]at hm;dsimp only at hm
  cases hi:JC ds with
  | none=>rw[hi]at hm;exact hm.elim
  | some ns=>
   rw[hi]at hm;obtain⟨p,xs,rfl,rr,sq⟩:=L0 s1 r1 hq;rw[Nd hi]at rr;rw[rr.ints]at sq;exact⟨p,ns,rfl,sq,hm ρ1 H1 _ l1 s1 (.int _)⟩
def tyD(d:D)(S:Sto):Option String:=match d with
 | .non=>some "NoneType"
 | .bl _=>some "bool"
 | .int _=>some "int"
 | .str _=>some "str"
 | .tup _=>some "tuple"
 | .ref n=>match S[n]? with
  | some (.lst _)=>some "list"
  | some (.dK _)=>some "dict"
  | some (.dT _)=>some "dict"
  | _=>none
 | .fro _=>none
 | .exc _=>none
theorem jW{K}{ρ}{S}{H}{d}{x}{T}(s:B2 K ρ S H)(r:Bo K ρ H d x)(h:tyD d S=some T):Nn K H x (.type T):=by
 cases r with
 | non=>cases h;exact .non
 | bl b=>cases h;exact .bl b
 | int i=>cases h;exact .int i
 | str i=>cases h;exact .str i
 | tup h1 _=>cases h;exact .tup h1
 | fro _ _=>cases h
 | exc _ _=>cases h
 | @ref n a hn=>
  obtain⟨o,ho,ro⟩:=s.there hn;unfold tyD at h;simp only[ho]at h
  cases o with
  | lst es=>cases h;obtain⟨vs,e,rr⟩:=ro;exact .lst e
  | dK es=>cases h;obtain⟨vs,e,rr⟩:=ro;exact .dK e
  | dT es=>cases h;obtain⟨vs,e,rr⟩:=ro;exact .dT e
  | ins _ _=>cases h
  | fK _=>cases h
  | fT _=>cases h
  | mem _=>cases h
def ik(c T:String):Option Bool:=if T==c then some true else if T=="bool"&&c=="int" then some true else if ["NoneType", "bool", "int", "str", "tuple", "list", "dict"].contains T&&["bool", "int", "str", "tuple", "list", "dict"].contains c then some false else none
end
def JP{α:Type}(r r':Res α):Res α:=match r with
 | .bad=>r'
 | r=>r
theorem ZH{α:Type}(r r':Res α):JP r r'=r∨JP r r'=r':=by cases r <;> simp[JP]
def op2(f g:D->D->Sto->Res D):D->D->Sto->Res D:=λx y S=>JP (f x y S) (g x y S)
theorem bz(f g:D->D->Sto->Res D)(ma mb:ME)(l:Lo)(S:Sto):m2 (op2 f g) ma mb l S=m2 f ma mb l S∨m2 (op2 f g) ma mb l S=m2 g ma mb l S:=by
 unfold m2
 cases ma l S with
 | ok x S1=>
  dsimp only[Res.bind]
  cases mb l S1 with
  | ok y S2=>
   dsimp only[Res.bind];unfold op2
   rcases ZH (f x y S2) (g x y S2)with e | e <;> rw[e] <;> simp
  | err c S2=>exact .inl rfl
  | bad=>exact .inl rfl
 | err c S1=>exact .inl rfl
 | bad=>exact .inl rfl
section
theorem lM{m m1 m2}(h1:GE X E e m1)(h2:GE X E e m2)(h:∀l S,m l S=m1 l S∨m l S=m2 l S):GE X E e m:=λζ s σ H Q I ⟨ρ,l,S,hl,hs,a⟩=>by
 rcases h l S with q | q
 ·rw[q]at a;exact h1 ζ s σ H Q I ⟨ρ,l,S,hl,hs,a⟩
 ·rw[q]at a;exact h2 ζ s σ H Q I ⟨ρ,l,S,hl,hs,a⟩
theorem cP(h1:GT X E e t1)(h2:GT X E e t2)(h:∀l S,t l S=t1 l S∨t l S=t2 l S):GT X E e t:=λζ s σ H Q I ⟨ρ,l,S,hl,hs,a⟩=>by
 rcases h l S with q | q
 ·rw[q]at a;exact h1 ζ s σ H Q I ⟨ρ,l,S,hl,hs,a⟩
 ·rw[q]at a;exact h2 ζ s σ H Q I ⟨ρ,l,S,hl,hs,a⟩
theorem lI(h1:GI X E tg e t1)(h2:GI X E tg e t2)(h:∀l S,t l S=t1 l S∨t l S=t2 l S):GI X E tg e t:=λζ s σ H R I ⟨ρ,l,S,hl,hs,a⟩=>by
 rcases h l S with q | q
 ·rw[q]at a;exact h1 ζ s σ H R I ⟨ρ,l,S,hl,hs,a⟩
 ·rw[q]at a;exact h2 ζ s σ H R I ⟨ρ,l,S,hl,hs,a⟩
theorem ig{m m1 m2}(h:∀l S,m l S=m1 l S∨m l S=m2 l S)(l:Lo)(S:Sto):mB m l S=mB m1 l S∨mB m l S=mB m2 l S:=by
 unfold mB
 rcases h l S with q | q <;> rw[q] <;> simp
abbrev inA(neg:Bool):=op2 (inD neg) (Mp neg)
theorem ou(hu:X.A.units+64 < Fi)(hi:GE X E i mi)(ho:GE X E o mo)(h1:DN .In o=false:=by with_unfolding_all rfl):GT X E (.Compare i [.In] [o] pos) (mB (m2 (inA false) mi mo)):=
 cP (DV (oH hu) hi ho h1) (lC (by lia) hi ho h1) (ig λ_ _=>bz _ _ _ _ _ _)
theorem IW(hu:X.A.units+64 < Fi)(hi:GE X E i mi)(ho:GE X E o mo)(h1:DN .NotIn o=false:=by with_unfolding_all rfl):GT X E (.Compare i [.NotIn] [o] pos) (mB (m2 (inA true) mi mo)):=
 cP (DV (bZ hu) hi ho h1) (Za (by lia) hi ho h1) (ig λ_ _=>bz _ _ _ _ _ _)
abbrev ixA:=op2 ixD RM
theorem EN(hu:X.A.units+64 < Fi)(ho:GE X E o mo)(hi:GE X E i mi)(hs:UM i:=by intro _ _;rfl):GE X E (.Subscript o i pos) (m2 ixA mo mi):=
 lM (oz oG ho hi hs) (gk (by lia) ho hi hs) λ_ _=>bz _ _ _ _ _ _
def Ex(d:D):Pd:=match d with
 | .tup ds=>Gs ds
 | d=>Oo d
def Eo(m:ME):MI:=λe S=>(m e S).bind λd S1=>match Ex d S1 with
 | some _=>.ok (Ex d) S1
 | none=>.bad
theorem ET(h:GE X E e m):GI X E tg e (Eo m):=lI (lH h) (lG h) λl S=>by
 unfold Eo om im
 cases m l S with
 | ok d S1=>
  dsimp only[Res.bind]
  cases d <;> first | exact .inl rfl | exact .inr rfl
 | err c S1=>exact .inl rfl
 | bad=>exact .inl rfl
def PY(m:ME):ME:=λe S=>(m e S).bind λd S1=>match GF d S1 with
 | some ds=>.ok (.int ds.length) S1
 | none=>.bad
theorem Q6(hg:Gl X "len") (hm:X.mg "len" = none) (h:GE X E e m) (he:AX [e] X.env=(false,CH e X.env) :: AX [] X.env:=by rfl):GE X E (.Call (.Name "len" p) [e] [] pos) (PY m):=
 (gj UI jj hg hm PySem.boot_len (oy h) (by decide) (by decide) he).imp λσ H Q ⟨ρ,l,S,hl,hs,a⟩=>⟨ρ,l,S,hl,hs,by
  have q:mQ oV (kb m) l S=PY m l S:=by
   unfold mQ kb PY
   cases m l S with
   | ok d S1=>
    dsimp only[Res.bind]
    cases GF d S1 <;> rfl
   | err c S1=>rfl
   | bad=>rfl
  rw[q];exact a⟩
theorem YG(hc:X.calm=true)(hg:Gl X "min") (hm:X.mg "min" = none) (h:GA X E [a,b] ml) (he:AX [a,b] X.env=(false,CH a X.env) :: AX [b] X.env:=by rfl) (qv:(Dp pos (AX [b] X.env)).any (·.1)=false:=by rfl):GE X E (.Call (.Name "min" p) [a,b] [] pos) (mQ Os ml):=
 YI (Zp hc) iF hg hm pY h (by decide) (by decide) he qv
theorem T9(hc:X.calm=true)(hg:Gl X "max") (hm:X.mg "max" = none) (h:GA X E [a,b] ml) (he:AX [a,b] X.env=(false,CH a X.env) :: AX [b] X.env:=by rfl) (qv:(Dp pos (AX [b] X.env)).any (·.1)=false:=by rfl):GE X E (.Call (.Name "max" p) [a,b] [] pos) (mQ NV ml):=
 YI (Zq hc) iG hg hm pZ h (by decide) (by decide) he qv
end
def NW(mo ma:ME):ME:=λe S=>(mo e S).bind λd S1=>match atL d S1 with
 | some (n,_)=>(ma e S1).bind λy S2=>match atL d S2,atL y S2 with
  | some (_,xs),some (k,ys)=>if k≠n/\xs.length+ys.length<=sizeLine then .ok .non (S2.set n (.lst (xs++ys)))else .bad
  | _,_=>.bad
 | none=>.bad
section
theorem Zb(ho:GE X E o mo)(ha:GE X E e ma)(ql:EQ o "extend" X.env (CH o X.env)=CH o X.env:=by rfl)
  (qQ:((Dp qf (AX [e] X.env)).all (λx=>!x.1)&&(Rf qf (Ku [] X.env)).all (λx=>x.1.isSome)
    &&decide ([e].length+([]:List Oi).length+(if ([]:List Oi).isEmpty then 0 else 1) < 30))=true:=by rfl)
  (qm:(apos.endLine==qf.line)=true:=by rfl) (hs:AX [e] X.env=(false,CH e X.env) :: AX [] X.env:=by rfl) (qr:(Dp qf (AX [] X.env)).any (·.1)=false:=by rfl) :
  GE X E (.Call (.Attribute o "extend" apos) [e] [] qf) (NW mo ma):=(bS Jf PySem.F.slot_list_extend PySem.F.type_list_extend ZN ho (FI ha IS hs) ql qQ qm hs qr).imp λσ H Q ⟨ρ,l,S,hl,hs,hm⟩=>by
 refine⟨ρ,l,S,hl,hs,hm.seq λd S1 hm ρ1 H1 v l1 s1 r1=>?_⟩
 cases hq:atL d S1 with
 | none=>rw[hq]at hm;exact hm.elim
 | some z=>
  obtain⟨n,xK⟩:=z;rw[hq]at hm;dsimp only at hm;obtain⟨rfl,h0,a,vY,rfl,hn,e0,_⟩:=Mu s1 r1 hq;refine⟨.inl ⟨rfl,vY,.inl (.inl e0)⟩,ρ1,l,S1,hl.mono l1,s1,(hm.later l1).seq λy S2 hm ρ2 H2 u l2 s2 r2=>?_⟩;split at hm
  ·rename_i n' xs k ys h2 h3
   split at hm
   ·rename_i hz
    obtain⟨e',h4,a',vs,ea,qF,e2,rr⟩:=Mu s2 (r1.mono l2) h2;cases e';cases ea;obtain⟨ey,h5,p,ws,rfl,hk,e3,qC⟩:=Mu s2 r2 h3;obtain⟨s3,l3⟩:=Tf s2 qF e2 (rr.append qC);exact⟨a,p,vs,ws,rfl,rfl,e2,e3,by rw[<-rr.length,<-qC.length];exact hz.2,hm ρ2 _ _ (l1.trans (l2.trans l3)) s3 .non⟩
   ·exact hm.elim
  ·exact hm.elim
end
def isB(t A:String):Option Bool:=if ["NoneType", "bool", "int", "str", "tuple", "list", "dict"].contains A then ik t A else none
def eB(sc:Rh)(x:Str):Bool:=decide (sc.names.lookup x=some .local)||decide (sc.names.lookup x=some .cell)||decide (sc.names.lookup x=some .free)
def cy(X:Cx)(scope:Rh)(own N':List Str):Bool:=
 decide (scope.kind=.function)&&scope.names.all (λy=>!decide (y.2=.local)||decide (scope.names.lookup y.1=some .local)) &&
 scope.names.all (λy=>!decide (y.2=.free)||decide (X.env.kindOf y.1=some .cell)||decide (X.env.kindOf y.1=some .free))&&decide (N'.length=own.length+X.N.length) &&
 ((N'.drop own.length).zip X.N).all (λp=>!eB (Jd scope X.env) p.1||(decide (p.1=p.2)&&eB X.env.scope p.1&&(decide ((Jd scope X.env).names.lookup p.1=some .cell)||decide ((Jd scope X.env).names.lookup p.1=some .free))&&!decide (X.env.kindOf p.1=some .local)&&!scope.names.any (λz=>decide (z=(p.1,Ck)))&&scope.names.any (λz=>decide (z=(p.1,FS))))) &&
 (Jd scope X.env).names.all (λy=>(!decide (y.2=.cell)&&!decide (y.2=.free))||scope.names.any (λz=>decide (z=(y.1,FS)))||scope.names.any (λz=>decide (z=(y.1,Ck))))
theorem Uf:eB sc x=true↔Vis sc x:=by
 unfold eB Vis;simp[or_assoc]
theorem D9(h:cy X scope own N'=true):Mx X scope own N':=by
 unfold cy at h;simp only[Ax]at h;obtain⟨⟨⟨⟨⟨h1,h3⟩,h4⟩,h5⟩,h6⟩,h7⟩:=h;rw[CO]at h3 h4 h6 h7;refine⟨of_decide_eq_true h1,λy hy e=>?_,λy hy e=>?_,of_decide_eq_true h5,λi x e v=>?_,λx hx=>?_⟩
 ·have:=h3 y hy
  simpa[e]using this
 ·have:=h4 y hy
  simpa[e]using this
 ·have hlen:=of_decide_eq_true h5
  have hi:own.length+i < N'.length:=(AE.mp e).1
  have hx:i < X.N.length:=by lia
  have hm:(x,X.N[i])∈(N'.drop own.length).zip X.N:=by
   rw[List.mem_iff_getElem?];refine⟨i,?_⟩;rw[List.getElem?_zip_eq_some];exact⟨by rw[Nq];exact e,by simp[hx]⟩
  have:=h6 _ hm;rw[Uf.mpr v]at this;simp only[jB,jC,Ax,Bk,decide_eq_true_eq,Om,decide_eq_false_iff_not]at this;obtain⟨⟨⟨⟨⟨z1,z2⟩,z3⟩,z4⟩,z5⟩,z6⟩:=this;refine⟨⟨by rw[z1];simp[hx],Uf.mp z2,z3,z4⟩,λq=>?_,?_⟩
  ·rw[aB]at z5
   exact z5 _ q (wX rfl)
  ·obtain⟨z,hz,e⟩:=B9.mp z6
   rw[of_decide_eq_true e]at hz;exact hz
 ·have key:∀k,(Jd scope X.env).names.lookup x=some k->(k=.cell∨k=.free)->(x,FS)∈scope.names∨(x,Ck)∈scope.names:=λk e hk=>by
   have:=h7 _ (DT e)
   rcases hk with rfl | rfl
   ·simpa using this
   ·simpa using this
  rcases hx with e | e
  ·exact key _ e (.inl rfl)
  ·exact key _ e (.inr rfl)
structure Dfn(K:AF)(mg:Str->Option AH)(x qual:Str)(st:DB)(ps:List Str) where
 f:AU
 fd:Jz
 F:Fun K x qual st f fd
 b:Binds K fd ps []
 m:mg x=some (.ref f)
theorem Dfn.kp{K}{mg}{x qual}{st}{ps}(d:Dfn K mg x qual st ps):Eu K (.ref d.f)=true:=d.F.kp
structure Mtd(K:AF)(x qual:Str)(st:DB)(ps:List Str) where
 f:AU
 fd:Jz
 F:Fun K x qual st f fd
 b:Binds K fd ps []
structure Own(K:AF)(mg:Str->Option AH)(x:Str)(C f:AU):Prop where
 cl:Cls K C
 mk':Mk K C f
 m:mg x=some (.ref C)
abbrev wN:Nat:=1000000
end L2
namespace Srt
open PySem PyProof.Rows
structure Ord(U:DA->Prop)(lt:DA->DA->Bool):Prop where
 asym:∀x y,U x->U y->lt x y=true->lt y x=false
 ntr:∀x y z,U x->U y->U z->lt y x=false->lt z y=false->lt z x=false
theorem Ord.irr(o:Ord U lt)(h:U x):lt x x=false:=by
 cases e:lt x x with
 | false=>rfl
 | true=>exact(o.asym x x h h e).symm.trans e |>.symm▸rfl
def ix(xs:Array DA)(i:Nat):DA:=xs.getD i (.none,.none)
theorem Jo(h:xs[i]?=ys[j]?):ix xs i=ix ys j:=by
 unfold ix;rw[IA,IA,h]
theorem Pw(h:i < xs.size):xs[i]?=some (ix xs i):=by
 unfold ix;rw[IA,getElem?_pos xs i h];rfl
theorem ZU(hs:src < xs.size)(hd:d<=src)(k:Nat) :
  ix (i5 xs src d) k=if k=src - d then ix xs src else if src - d < k/\k<=src then ix xs (k - 1)else ix xs k:=by
 have e:=getElem?_bubble hs d hd k;split
 ·rename_i h;rw[qX h]at e;exact Jo e
 ·rename_i h
  rw[qY h]at e;split
  ·rename_i h2;rw[qX h2]at e;exact Jo e
  ·rename_i h2;rw[qY h2]at e;exact Jo e
theorem EG(hj:j<=xs.size)(k:Nat) :
  ix (Jx xs i j ((j - i) / 2)) k=if i<=k/\k < j then ix xs (i+j - 1 - k)else ix xs k:=by
 have e:=getElem?_mirror_all (i:=i) hj k;split
 ·rename_i h;rw[qX h]at e;exact Jo e
 ·rename_i h;rw[qY h]at e;exact Jo e
section
def RY(prog:Ba)(w:Bx)(A:CC)(s:AL)(a₀:Array DA)(κ:Nz)(lt:DA->DA->Bool):Prop:=
 ∀x y,x∈a₀->y∈a₀->∀(Q:Bool->AL->Prop) (E:AH->AL->Prop),Q (lt x y) s->Ae (Ak prog w) A (keyLt' κ x.1 y.1) Q E s
structure Good(a₀:Array DA)(κ:Nz)(st:Es):Prop where
 perm:(An st).Perm a₀
 kind:kindOf st=κ
 failed:failedOf st=none
theorem Good.size{st:Es}(g:Good a₀ κ st):(An st).size=a₀.size:=g.perm.size_eq
theorem Good.mem{st:Es}(g:Good a₀ κ st){i:Nat}(h:i < a₀.size):ix (An st) i∈a₀:=by
 have h':i < (An st).size:=by rw[g.size];exact h
 have e:=Pw h';have:=Array.mem_of_getElem? e;exact FF.mp ((Im.mp g.perm).mem_iff.mp (FF.mpr this))
theorem Good.setArr{st:Es}(g:Good a₀ κ st){xs:Array DA}(hp:xs.Perm (An st)):Good a₀ κ (setArr st xs):=⟨hp.trans g.perm,g.kind,g.failed⟩
theorem jE{st:Es}{x y:DA}{Q:Option Bool->Es->Prop}(C:RY prog w A s a₀ κ lt)(g:Good a₀ κ st)(hx:x∈a₀)(hy:y∈a₀)(h:Q (some (lt x y)) st):wpS (Ak prog w) A E s (lt' x y) Q st:=by
 rw[lt'_eq];refine Bi (Vz ?_);rw[g.kind];refine Bi (wpS_lift (Pj ?_));refine C x y hx hy _ _ ⟨rfl,?_⟩;exact CT h
theorem N1{st:Es}{i j:Nat}{Q:Option Bool->Es->Prop}(C:RY prog w A s a₀ κ lt)(g:Good a₀ κ st)(hi:i < a₀.size)(hj:j < a₀.size)(h:Q (some (lt (ix (An st) i) (ix (An st) j))) st) :
  wpS (Ak prog w) A E s (mE i j) Q st:=by
 rw[ltAt'_eq];refine Bi (Vz ?_);show wpS _ _ _ _ (do let x <-elem' (An st) i;let y <-elem' (An st) j;lt' x y) Q st;rw[elem'_eq,elem'_eq,Pw (by rw[g.size];exact hi),Pw (by rw[g.size];exact hj)];exact Bi (CT (Bi (CT (jE C g (g.mem hi) (g.mem hj) h))))
def Up(lt:DA->DA->Bool)(xs:Array DA)(lo hi:Nat):Prop:=∀i j,lo<=i->i<=j->j < hi->lt (ix xs j) (ix xs i)=false
def Dn(lt:DA->DA->Bool)(xs:Array DA)(lo hi:Nat):Prop:=∀i j,lo<=i->i<=j->j < hi->lt (ix xs i) (ix xs j)=false
def Out(xs ys:Array DA)(lo hi:Nat):Prop:=∀i,(i < lo∨hi<=i)->ix ys i=ix xs i
theorem Out.refl{xs:Array DA}{lo hi:Nat}:Out xs xs lo hi:=λ_ _=>rfl
theorem Out.trans{xs ys zs:Array DA}{lo hi:Nat}(a:Out xs ys lo hi)(b:Out ys zs lo hi):Out xs zs lo hi:=λi h=>(b i h).trans (a i h)
theorem Up.grow{st:Es}(O:Ord (·∈a₀) lt)(g:Good a₀ κ st){lo hi:Nat}(hs:hi < a₀.size)(u:Up lt (An st) lo hi)(h0:lo < hi)(h:lt (ix (An st) hi) (ix (An st) (hi - 1))=false):Up lt (An st) lo (hi+1):=λi j h1 h2 h3=>by
 by_cases hj:j < hi
 ·exact u i j h1 h2 hj
 ·have:j=hi:=by lia
  subst this
  by_cases sE:i=j
  ·subst sE;exact O.irr (g.mem hs)
  ·exact O.ntr _ _ _ (g.mem (by lia)) (g.mem (show j - 1 < _ by omega)) (g.mem hs) (u i (j - 1) h1 (by lia) (by lia)) h
theorem wpS_binarySort{st:Es}{lo n ok:Nat}{Q:Bool->Es->Prop}(C:RY prog w A s a₀ κ lt)(O:Ord (·∈a₀) lt)(hn:lo+n<=a₀.size)(hok:ok<=n)(g:Good a₀ κ st)(u:Up lt (An st) lo (lo+ok))
  (h:∀j',Good a₀ κ j'->Up lt (An j') lo (lo+n)->Out (An st) (An j') lo (lo+n)->Bv j'=Bv st->Q true j'):wpS (Ak prog w) A E s (binarySort' lo n ok) Q st:=by
 rw[binarySort'_eq]
 refine Bi (Nt (HW (I:=λk c j'=>c=(none,())/\Good a₀ κ j'/\Up lt (An j') lo (lo+min k n)/\Out (An st) (An j') lo (lo+n)/\Bv j'=Bv st)
  (Q:=λc j'=>c=(none,())/\Good a₀ κ j'/\Up lt (An j') lo (lo+n)/\Out (An st) (An j') lo (lo+n)/\Bv j'=Bv st) ?step ?fin ?init) ?post)
 case post=>
  rintro c j' ⟨rfl,g',u',o',p'⟩;exact CT (h j' g' u' o' p')
 case init=>
  refine⟨rfl,g,λi j h1 h2 h3=>?_,.refl,rfl⟩
  by_cases h0:ok=0
  ·have:i=j:=by lia
   subst this;exact O.irr (g.mem (by omega))
  ·exact u i j h1 h2 (by lia)
 case fin=>
  rintro c j' ⟨hc,g',u',o',p'⟩;refine⟨hc,g',?_,o',p'⟩;rwa [show min (max (max ok 1) n) n=n by lia]at u'
 case step=>
  rintro k c qD hak hkn ⟨rfl,g1,u1,o1,p1⟩;rw[show min k n=k by lia]at u1
  have hk:lo+k < a₀.size:=by lia
  refine Bi (Nt (HW (I:=λx c qe=>qe=qD/\∃l r,c=(none,l,r)/\l<=r/\r<=k/\r - l<=k - x /\
    (∀i,i < l->lt (ix (An qD) (lo+k)) (ix (An qD) (lo+i))=false)/\(∀i,r<=i->i < k->lt (ix (An qD) (lo+k)) (ix (An qD) (lo+i))=true))
   (Q:=λc qe=>qe=qD/\∃l r,c=(none,l,r)/\l<=k /\
    (∀i,i < l->lt (ix (An qD) (lo+k)) (ix (An qD) (lo+i))=false)/\(∀i,l<=i->i < k->lt (ix (An qD) (lo+k)) (ix (An qD) (lo+i))=true)) ?istep ?ifin ?iinit) ?ipost)
  case iinit=>exact⟨rfl,0,k,rfl,by lia,by lia,by lia,λi hi=>by lia,λi h1 h2=>by lia⟩
  case ifin=>
   rintro c qe ⟨rfl,l,r,rfl,hlr,hrk,hm,sX,hhi⟩
   have:l=r:=by lia
   subst this;exact⟨rfl,l,l,rfl,hrk,sX,hhi⟩
  case istep=>
   rintro x c qe _ hxk ⟨rfl,l,r,rfl,hlr,hrk,hm,sX,hhi⟩;dsimp only
   by_cases hge:l ≥ r
   ·rw[qX hge]
    have:l=r:=by lia
    subst this;exact CT ⟨rfl,l,l,rfl,hrk,sX,hhi⟩
   ·rw[qY hge]
    refine Bi (N1 C g1 hk (by lia) ?_)
    cases hless:lt (ix (An qe) (lo+k)) (ix (An qe) (lo+(l+r) / 2))with
    | true=>
     refine CT ⟨rfl,l,(l+r) / 2,rfl,by lia,by lia,by omega,sX,λi h1 h2=>?_⟩
     cases e:lt (ix (An qe) (lo+k)) (ix (An qe) (lo+i))with
     | true=>rfl
     | false=>
      have:=O.ntr _ _ _ (g1.mem (show lo+(l+r) / 2 < _ by lia)) (g1.mem (show lo+i < _ by lia)) (g1.mem hk) (u1 (lo+(l+r) / 2) (lo+i) (by lia) (by lia) (by lia)) e;rw[hless]at this;cases this
    | false=>
     refine CT ⟨rfl,(l+r) / 2+1,r,rfl,by lia,by omega,by omega,λi h1=>?_,hhi⟩;exact O.ntr _ _ _ (g1.mem (show lo+i < _ by lia)) (g1.mem (show lo+(l+r) / 2 < _ by lia)) (g1.mem hk) (u1 (lo+i) (lo+(l+r) / 2) (by lia) (by lia) (by lia)) hless
  case ipost=>
   rintro c qe ⟨rfl,l,r,rfl,xP,sX,hhi⟩;show wpS _ _ _ _ (do moveDown' (lo+k) (lo+l);pure (HN (none,()))) _ _;rw[moveDown'_eq]
   have zH:lo+k < (An qe).size:=by rw[g1.size];exact hk
   have e:∀i,ix (i5 (An qe) (lo+k) (lo+k - (lo+l))) i=if i=lo+l then ix (An qe) (lo+k)else if lo+l < i/\i<=lo+k then ix (An qe) (i - 1)else ix (An qe) i:=λi=>by
    rw[ZU zH (by lia),show lo+k - (lo+k - (lo+l))=lo+l by lia]
   refine Bi (Jt (CT ⟨rfl,g1.setArr (bubble_perm _ _ _),?_,o1.trans λi hi=>?_,p1⟩))
   ·rw[show min (k+1) n=k+1 by lia]
    intro i j h1 h2 h3;show lt (ix (i5 (An qe) (lo+k) (lo+k - (lo+l))) j) (ix (i5 (An qe) (lo+k) (lo+k - (lo+l))) i)=false;rw[e,e]
    repeat' split
    all_goals first
     | (exfalso;lia)
     | exact O.irr (g1.mem hk)
     | (have q:=sX (i - lo) (by lia);rw[show lo+(i - lo)=i by lia]at q;exact q)
     | (have q:=hhi (j - 1 - lo) (by omega) (by omega);rw[show lo+(j - 1 - lo)=j - 1 by lia]at q;exact O.asym _ _ (g1.mem hk) (g1.mem (by lia)) q)
     | exact u1 _ _ (by omega) (by omega) (by lia)
   ·show ix (i5 (An qe) (lo+k) (lo+k - (lo+l))) i=ix (An qe) i
    rw[e,qY (by lia),qY (by lia)]
end
section
theorem Uc{σ:Type}{M:Model}{r:String}{Q:PUnit->σ->Prop}{st:σ}(h:Q ⟨⟩ st):wpS M A E s (liftM (rule r):StateT σ Sem PUnit) Q st:=wpS_lift (iu ⟨rfl,h⟩)
theorem Dn.flip{xs:Array DA}{lo hi:Nat}(hs:hi<=xs.size)(d:Dn lt xs lo hi):Up lt (Jx xs lo hi ((hi - lo) / 2)) lo hi:=λi j h1 h2 h3=>by
 rw[EG hs,EG hs,qX (by lia),qX (by lia)];exact d _ _ (by omega) (by omega) (by omega)
theorem Dn.part{xs:Array DA}{lo hi m:Nat}(hs:hi<=xs.size)(hm:lo<=m)(hmh:m<=hi)(d:Dn lt xs lo hi)(e:Up lt xs m hi):Dn lt (Jx xs m hi ((hi - m) / 2)) lo hi:=λi j h1 h2 h3=>by
 rw[EG hs,EG hs]
 by_cases sE:m<=i
 ·rw[qX (by lia),qX (by lia)]
  exact e _ _ (by omega) (by omega) (by omega)
 ·rw[qY (by lia)]
  split
  ·exact d _ _ (by omega) (by lia) (by omega)
  ·exact d _ _ (by omega) (by omega) (by omega)
theorem KJ{xs:Array DA}{i j lo hi:Nat}(hj:j<=xs.size)(h1:lo<=i)(h2:j<=hi):Out xs (Jx xs i j ((j - i) / 2)) lo hi:=λk hk=>by
 rw[EG hj,qY (by lia)]
theorem Dn.grow{st:Es}(O:Ord (·∈a₀) lt)(g:Good a₀ κ st){lo hi:Nat}(hs:hi < a₀.size)(u:Dn lt (An st) lo hi)(h0:lo < hi)(h:lt (ix (An st) (hi - 1)) (ix (An st) hi)=false):Dn lt (An st) lo (hi+1):=λi j h1 h2 h3=>by
 by_cases hj:j < hi
 ·exact u i j h1 h2 hj
 ·have:j=hi:=by lia
  subst this
  by_cases sE:i=j
  ·subst sE;exact O.irr (g.mem hs)
  ·exact O.ntr _ _ _ (g.mem hs) (g.mem (show j - 1 < _ by omega)) (g.mem (by lia)) h (u i (j - 1) h1 (by lia) (by lia))
theorem WQ(O:Ord (·∈a₀) lt){st:Es}(g:Good a₀ κ st){lo:Nat}(h:lo < a₀.size):Up lt (An st) lo (lo+1):=λi j h1 h2 h3=>by
 have e1:i=lo:=by lia
 have e2:j=lo:=by lia
 rw[e1,e2];exact O.irr (g.mem h)
theorem dk{st:Es}{lo q9 n:Nat}{Q:Option Nat->Es->Prop}(C:RY prog w A s a₀ κ lt)(O:Ord (·∈a₀) lt)(h1:1<=n)(h2:n<=q9)(hn:lo+q9<=a₀.size)(g:Good a₀ κ st)(u:Up lt (An st) lo (lo+n))
  (h:∀n,1<=n->n<=q9->Up lt (An st) lo (lo+n)->Q (some n) st):wpS (Ak prog w) A E s (do
   let mut n:=n
   for _ in [n:q9] do
    let some qk <-mE (lo+n) (lo+n - 1) | return none
    if qk then break
    n:=n+1
   return some n) Q st:=by
 refine Bi (Nt (HW (I:=λx c j'=>j'=st/\c=(none,x)/\Up lt (An st) lo (lo+x))
  (Q:=λc j'=>j'=st/\∃n,c=(none,n)/\1<=n/\n<=q9/\Up lt (An st) lo (lo+n)) ?step ?fin ⟨rfl,rfl,u⟩) ?post)
 case fin=>
  rintro c j' ⟨rfl,rfl,u⟩
  have e:max n q9=q9:=by lia
  rw[e]at u ⊢;exact⟨rfl,q9,rfl,by lia,AK _,u⟩
 case step=>
  rintro x c j' vb xQ ⟨rfl,rfl,u⟩;dsimp only;refine Bi (N1 C g (by lia) (by lia) ?_)
  cases hq:lt (ix (An j') (lo+x)) (ix (An j') (lo+x - 1))with
  | true=>exact CT ⟨rfl,x,rfl,by lia,by lia,u⟩
  | false=>exact CT ⟨rfl,rfl,Up.grow (hi:=lo+x) O g (by lia) u (by lia) hq⟩
 case post=>
  rintro c j' ⟨rfl,n,rfl,sG,qF,u⟩;exact CT (h n sG qF u)
theorem wpS_countRun{st}{lo q9}{Q}(C:RY prog w A s a₀ κ lt)(O:Ord (·∈a₀) lt)(h1:1<=q9)(hn:lo+q9<=a₀.size)(g:Good a₀ κ st)
  (h:∀j' n,Good a₀ κ j'->1<=n->n<=q9->Up lt (An j') lo (lo+n)->Out (An st) (An j') lo (lo+q9)->Bv j'=Bv st->Q (some n) j'):wpS (Ak prog w) A E s (countRun' lo q9) Q st:=by
 rw[countRun'_eq]
 refine Bi (Nt (HW (I:=λx c j'=>j'=st/\c=(none,x)/\Up lt (An st) lo (lo+x))
  (Q:=λc j'=>j'=st/\∃n,c=(none,n)/\1<=n/\n<=q9/\Up lt (An st) lo (lo+n)/\(n=q9∨lt (ix (An st) (lo+n)) (ix (An st) (lo+n - 1))=true)) ?step ?fin ?init) ?post)
 case init=>
  refine⟨rfl,rfl,λi j a1 a2 a3=>?_⟩
  have:i=j:=by lia
  subst this;exact O.irr (g.mem (by lia))
 case fin=>
  rintro c j' ⟨rfl,rfl,u⟩
  have e:max 1 q9=q9:=by lia
  rw[e]at u ⊢;exact⟨rfl,q9,rfl,h1,AK _,u,.inl rfl⟩
 case step=>
  rintro x c j' vb xQ ⟨rfl,rfl,u⟩;dsimp only;refine Bi (N1 C g (by lia) (by lia) ?_)
  cases hq:lt (ix (An j') (lo+x)) (ix (An j') (lo+x - 1))with
  | true=>exact CT ⟨rfl,x,rfl,vb,by lia,u,.inr hq⟩
  | false=>exact CT ⟨rfl,rfl,Up.grow (hi:=lo+x) O g (by lia) u (by lia) hq⟩
 case post=>
  rintro c j' ⟨rfl,n,rfl,sG,qF,u,hd⟩;dsimp only
  by_cases hnn:n=q9
  ·rw[qX (by simpa using hnn)]
   exact CT (h j' n g sG qF u .refl rfl)
  ·rw[qY (by simpa using hnn)]
   have rC:=hd.resolve_left hnn
   have desc:∀(qD:Es),Good a₀ κ qD->Dn lt (An qD) lo (lo+(n+1))->Out (An j') (An qD) lo (lo+q9)->Bv qD=Bv j' ->
     wpS (Ak prog w) A E s (do
      liftM (rule "list.sort.descending-run")
      let mut n:=n+1
      let mut neq:=0
      for _ in [n:q9] do
       let some qk <-mE (lo+n) (lo+n - 1) | return none
       if qk then
        if neq > 0 then Pk (lo+n - (neq+1)) (lo+n)
        neq:=0
       else
        let some t7 <-mE (lo+n - 1) (lo+n) | return none
        if t7 then break
        neq:=neq+1
       n:=n+1
      if neq > 0 then Pk (lo+n - (neq+1)) (lo+n)
      Pk lo (lo+n)
      for _ in [n:q9] do
       let some qk <-mE (lo+n) (lo+n - 1) | return none
       if qk then break
       n:=n+1
      return some n) Q qD:=by
    intro qD g1 d1 o1 p1;refine Bi (Uc ?_)
    refine Bi (Nt (HW (I:=λx c qe=>Good a₀ κ qe/\∃q,c=(none,x,q)/\q+1<=x/\Dn lt (An qe) lo (lo+x)/\Up lt (An qe) (lo+x - (q+1)) (lo+x)/\Out (An j') (An qe) lo (lo+q9)/\Bv qe=Bv j')
     (Q:=λc qe=>Good a₀ κ qe/\∃n q,c=(none,n,q)/\n<=q9/\q+1<=n/\Dn lt (An qe) lo (lo+n)/\Up lt (An qe) (lo+n - (q+1)) (lo+n)/\Out (An j') (An qe) lo (lo+q9)/\Bv qe=Bv j') ?dstep ?dfin ?dinit) ?dpost)
    case dinit=>
     refine⟨g1,0,rfl,by lia,d1,?_,o1,p1⟩;have:=WQ O g1 (lo:=lo+n) (by lia);rwa [show lo+(n+1) - (0+1)=lo+n by lia,show lo+(n+1)=lo+n+1 by lia]
    case dfin=>
     rintro c qe ⟨g2,q,rfl,hq,d2,u2,o2,p2⟩
     have e:max (n+1) q9=q9:=by lia
     rw[e]at d2 u2 hq ⊢;exact⟨g2,q9,q,rfl,AK _,hq,d2,u2,o2,p2⟩
    case dstep=>
     rintro x c qe vb xQ ⟨g2,q,rfl,hq,d2,u2,o2,p2⟩;dsimp only;refine Bi (N1 C g2 (by lia) (by lia) ?_)
     cases hs:lt (ix (An qe) (lo+x)) (ix (An qe) (lo+x - 1))with
     | true=>
      dsimp only;rw[qX rfl];have qt:=O.asym _ _ (g2.mem (show lo+x < _ by lia)) (g2.mem (show lo+x - 1 < _ by lia)) hs
      by_cases t8:q > 0
      ·rw[qX t8,L8]
       have hsz:lo+x<=(An qe).size:=by rw[g2.size];lia
       have g3:Good a₀ κ (setArr qe (Jx (An qe) (lo+x - (q+1)) (lo+x) ((lo+x - (lo+x - (q+1))) / 2))):=g2.setArr (UQ _ _ _ _);have d3:=Dn.part (lt:=lt) (lo:=lo) hsz (show lo<=lo+x - (q+1) by lia) (by omega) d2 u2;refine Bi (Jt (CT ⟨g3,0,rfl,by lia,?_,?_,o2.trans (KJ hsz (by lia) (by lia)),p2⟩))
       ·refine Dn.grow (hi:=lo+x) O g3 (by lia) d3 (by lia) ?_
        show lt (ix (Jx (An qe) (lo+x - (q+1)) (lo+x) ((lo+x - (lo+x - (q+1))) / 2)) (lo+x - 1)) (ix (Jx (An qe) (lo+x - (q+1)) (lo+x) ((lo+x - (lo+x - (q+1))) / 2)) (lo+x))=false;rw[EG hsz,EG hsz,qX (by omega),qY (by lia)];exact O.ntr _ _ _ (g2.mem (by lia)) (g2.mem (show lo+x - 1 < _ by lia)) (g2.mem (by omega)) qt (d2 _ _ (by lia) (by omega) (by lia))
       ·have:=WQ O g3 (lo:=lo+x) (by lia)
        rwa [show lo+(x+1) - (0+1)=lo+x by lia,show lo+(x+1)=lo+x+1 by lia]
      ·rw[qY t8]
       refine CT ⟨g2,0,rfl,by lia,Dn.grow (hi:=lo+x) O g2 (by lia) d2 (by lia) qt,?_,o2,p2⟩;have:=WQ O g2 (lo:=lo+x) (by lia);rwa [show lo+(x+1) - (0+1)=lo+x by lia,show lo+(x+1)=lo+x+1 by lia]
     | false=>
      dsimp only;rw[qY AI];refine Bi (N1 C g2 (by lia) (by lia) ?_)
      cases hl:lt (ix (An qe) (lo+x - 1)) (ix (An qe) (lo+x))with
      | true=>exact CT ⟨g2,x,q,rfl,by lia,hq,d2,u2,o2,p2⟩
      | false=>
       refine CT ⟨g2,q+1,rfl,by lia,Dn.grow (hi:=lo+x) O g2 (by lia) d2 (by lia) hl,?_,o2,p2⟩;rw[show lo+(x+1) - (q+1+1)=lo+x - (q+1) by lia];exact Up.grow (hi:=lo+x) O g2 (by lia) u2 (by omega) hs
    case dpost=>
     rintro c qe ⟨g2,m,q,rfl,hm,hq,d2,u2,o2,p2⟩;dsimp only
     have hsz:lo+m<=(An qe).size:=by rw[g2.size];lia
     have last:∀qP,Good a₀ κ qP->Dn lt (An qP) lo (lo+m)->Out (An j') (An qP) lo (lo+q9)->Bv qP=Bv j'->∀(R:StateT Es Sem (Option Nat)),R=(do
        let mut n:=m
        for _ in [n:q9] do
         let some qk <-mE (lo+n) (lo+n - 1) | return none
         if qk then break
         n:=n+1
        return some n)->wpS (Ak prog w) A E s (do Pk lo (lo+m);R) Q qP:=by
      rintro qP g3 d3 o3 p3 R rfl
      have uh:lo+m<=(An qP).size:=by rw[g3.size];lia
      rw[L8];refine Bi (Jt ?_);have g4:Good a₀ κ (setArr qP (Jx (An qP) lo (lo+m) ((lo+m - lo) / 2))):=g3.setArr (UQ _ _ _ _)
      exact dk C O (by lia) hm hn g4 (Dn.flip uh d3) λk k1 k2 k3=>h _ k g4 k1 k2 k3 (o3.trans (KJ uh (by lia) (by lia))) p3
     by_cases t8:q > 0
     ·rw[qX t8,L8]
      refine Bi (Jt ?_);exact last _ (g2.setArr (UQ _ _ _ _)) (Dn.part hsz (by lia) (by omega) d2 u2) (o2.trans (KJ hsz (by lia) (by lia))) p2 _ rfl
     ·rw[qY t8]
      exact last _ g2 d2 o2 p2 _ rfl
   have qt:=O.asym _ _ (g.mem (show lo+n < _ by lia)) (g.mem (show lo+n - 1 < _ by omega)) rC
   by_cases u9:n > 1
   ·rw[qX u9]
    refine Bi (N1 C g (by lia) (by omega) ?_)
    cases hr:lt (ix (An j') lo) (ix (An j') (lo+n - 1))with
    | true=>exact CT (h j' n g sG qF u .refl rfl)
    | false=>
     dsimp only;rw[qY AI,L8]
     have hsz:lo+n<=(An j').size:=by rw[g.size];lia
     have g1:Good a₀ κ (setArr j' (Jx (An j') lo (lo+n) ((lo+n - lo) / 2))):=g.setArr (UQ _ _ _ _)
     have al:∀i j,lo<=i->i < lo+n->lo<=j->j < lo+n->lt (ix (An j') i) (ix (An j') j)=false:=λi j i1 i2 j1 j2=>by
      have q1:=u j (lo+n - 1) (by omega) (by lia) (by omega);have q2:=u lo i (by lia) (by omega) (by omega);exact O.ntr _ _ _ (g.mem (by lia)) (g.mem (show lo < _ by lia)) (g.mem (by lia)) (O.ntr _ _ _ (g.mem (by lia)) (g.mem (show lo+n - 1 < _ by lia)) (g.mem (by lia)) q1 hr) q2
     refine Bi (Jt ?_);refine desc _ g1 ?_ (KJ hsz (by lia) (by lia)) rfl;refine Dn.grow (hi:=lo+n) O g1 (by lia) (λi j a1 a2 a3=>?_) (by lia) ?_
     ·show lt (ix (Jx (An j') lo (lo+n) ((lo+n - lo) / 2)) i) (ix (Jx (An j') lo (lo+n) ((lo+n - lo) / 2)) j)=false
      rw[EG hsz,EG hsz,qX (by lia),qX (by lia)];exact al _ _ (by omega) (by omega) (by omega) (by omega)
     ·show lt (ix (Jx (An j') lo (lo+n) ((lo+n - lo) / 2)) (lo+n - 1)) (ix (Jx (An j') lo (lo+n) ((lo+n - lo) / 2)) (lo+n))=false
      rw[EG hsz,EG hsz,qX (by omega),qY (by lia),show lo+(lo+n) - 1 - (lo+n - 1)=lo by omega];exact O.ntr _ _ _ (g.mem (by lia)) (g.mem (show lo+n - 1 < _ by lia)) (g.mem (by lia)) qt hr
   ·rw[qY u9]
    have e:n=1:=by lia
    subst e;refine desc _ g (Dn.grow (hi:=lo+1) O g (by lia) (λi j a1 a2 a3=>?_) (by lia) qt) .refl rfl
    have e1:i=lo:=by lia
    have e2:j=lo:=by lia
    rw[e1,e2];exact O.irr (g.mem (by lia))
end
theorem gy(a:Array DA)(i:Nat):(a.extract i a.size).toList=a.toList.drop i:=by
 simp[List.extract];exact EY (by simp)
section
variable{lt:DA->DA->Bool}
abbrev Rl(lt:DA->DA->Bool)(x y:DA):Prop:=lt y x=false
end
theorem kt{a:Array DA}{lo hi i:Nat}(h:hi<=a.size)(sE:i < hi - lo):ix (a.extract lo hi) i=ix a (lo+i):=by
 apply Jo
 rw[Array.getElem?_extract];simp
 lia
section
variable{lt:DA->DA->Bool}
theorem nD{a:Array DA}{lo hi:Nat}(h:hi<=a.size)(u:Up lt a lo hi):(a.extract lo hi).toList.Pairwise (Rl lt):=by
 rw[Sx];intro i j sE hj hij;simp at sE hj
 have e:∀k (hk:k < (a.extract lo hi).toList.length),(a.extract lo hi).toList[k]=ix a (lo+k):=λk hk=>by
  have qE:k < (a.extract lo hi).size:=by rw[Bq]at hk;exact hk
  have:=Pw qE;rw[getElem?_pos (a.extract lo hi) k qE]at this
  have hs:(a.extract lo hi).size=hi - lo:=by simp;lia
  rw[<-kt h (by lia)];simpa using this
 rw[e,e];exact u _ _ (by lia) (by lia) (by omega)
end
section
variable{prog:Ba}{w:Bx}{A:CC}{E:AH->AL->Prop}{s:AL}{a₀:Array DA}{κ:Nz}{lt:DA->DA->Bool}
theorem Rp{st:Es}{Q:Unit->Es->Prop}(vZ:a₀.size < 64)(h1:1<=a₀.size)(C:RY prog w A s a₀ κ lt)(O:Ord (·∈a₀) lt)(g:Good a₀ κ st)(hp:Bv st = #[])
  (h:∀j',Good a₀ κ j'->Up lt (An j') 0 a₀.size->Q () j'):wpS (Ak prog w) A E s sortRuns' Q st:=by
 rw[sortRuns'_eq];refine Bi (Vz ?_);dsimp only;rw[g.size]
 have zI:minRun' a₀.size a₀.size 0=a₀.size:=by
  obtain⟨f,hf⟩:∃f,a₀.size=f+1:=⟨a₀.size - 1,by omega⟩
  have:minRun' (f+1) a₀.size 0=a₀.size:=by rw[minRun'_succ,qX vZ];rfl
  rwa [<-hf]at this
 rw[zI]
 refine Bi (Nt (HW (I:=λx c j'=>(x=0/\c=(none,0)/\Good a₀ κ j'/\Bv j' = #[])∨(1<=x/\c=(none,a₀.size)/\Good a₀ κ j'/\Up lt (An j') 0 a₀.size/\(Bv j').size<=1))
  (Q:=λc j'=>c=(none,a₀.size)/\Good a₀ κ j'/\Up lt (An j') 0 a₀.size/\(Bv j').size<=1) ?step ?fin ?init) ?post)
 case init=>exact .inl ⟨rfl,rfl,g,hp⟩
 case fin=>
  rintro c j' (⟨h0,_⟩ | ⟨_,rfl,g',u',p'⟩)
  ·lia
  ·exact⟨rfl,g',u',p'⟩
 case step=>
  rintro x c qD _ hx (⟨rfl,rfl,g1,p1⟩ | ⟨vb,rfl,g1,u1,p1⟩)
  ·dsimp only
   rw[qY (by lia)];refine Bi (wpS_countRun C O (by lia) (by lia) g1 λqe n g2 n1 n2 u2 o2 p2=>?_);dsimp only;rw[O3]at u2
   by_cases hm:n < a₀.size
   ·rw[qX hm]
    refine Bi (Uc ?_);refine Bi (wpS_binarySort C O (by lia) (by lia) g2 (by simpa using u2) λqP g3 u3 o3 p3=>?_);rw[qY (by simp)];refine Bi (Vz ?_)
    have e3:Bv qP = #[]:=by rw[p3,p2,p1]
    rw[e3];dsimp only[mS]
    have em:min (a₀.size - 0) a₀.size=a₀.size:=by lia
    rw[em]at u3 ⊢;refine Bi (Jt (CT (.inr ⟨by lia,by rw[O3],⟨g3.perm,g3.kind,g3.failed⟩,by simpa using u3,?_⟩)));show((Bv qP).push (0,a₀.size,0)).size<=1;rw[e3];simp
   ·have e:n=a₀.size:=by lia
    subst e;rw[qY hm];refine Bi (Vz ?_)
    have e3:Bv qe = #[]:=by rw[p2,p1]
    rw[e3];dsimp only[mS];refine Bi (Jt (CT (.inr ⟨by lia,by rw[O3],⟨g2.perm,g2.kind,g2.failed⟩,u2,?_⟩)));show((Bv qe).push (0,a₀.size,0)).size<=1;rw[e3];simp
  ·dsimp only
   rw[qX (AK _)];exact CT ⟨rfl,g1,u1,p1⟩
 case post=>
  rintro c qD ⟨rfl,g1,u1,p1⟩;dsimp only;refine Bi (Nt (HW (I:=λx c rS=>c=(none,())/\Good a₀ κ rS/\Up lt (An rS) 0 a₀.size/\(Bv rS).size<=1) (Q:=λc rS=>c=(none,())/\Good a₀ κ rS/\Up lt (An rS) 0 a₀.size) ?_ ?_ ⟨rfl,g1,u1,p1⟩) ?_)
  ·rintro x c rS _ _ ⟨rfl,g4,u4,p4⟩
   refine Bi (Vz ?_);rw[qX p4];exact CT ⟨rfl,g4,u4⟩
  ·rintro c rS ⟨rfl,g4,u4,_⟩
   exact⟨rfl,g4,u4⟩
  ·rintro c rS ⟨rfl,g4,u4⟩
   exact CT (h rS g4 u4)
end
def ltL:List Int->List Int->Bool
 | [],[]=>false
 | [],_ :: _=>true
 | _ :: _,[]=>false
 | x :: xs,y :: ys=>if x=y then ltL xs ys else decide (x < y)
theorem Qt:∀x y,ltL x y=true->ltL y x=false
 | [],[],h=>by cases h
 | [],_ :: _,_=>rfl
 | _ :: _,[],h=>by cases h
 | x :: xs,y :: ys,h=>by
  unfold ltL at h ⊢
  by_cases e:x=y
  ·rw[qX e]at h;rw[qX e.symm];exact Qt xs ys h
  ·rw[qY e]at h;rw[qY (CF e)];simp at h ⊢;lia
theorem Tv:∀x y z,ltL y x=false->ltL z y=false->ltL z x=false
 | [],y,[],_,_=>rfl
 | [],[],_ :: _,_,_=>rfl
 | [],_ :: _,_ :: _,_,_=>rfl
 | x :: xs,[],z,h,_=>by cases h
 | _,y :: ys,[],_,h=>by cases h
 | x :: xs,y :: ys,z :: zs,h1,h2=>by
  unfold ltL at h1 h2 ⊢
  by_cases e1:y=x
  ·rw[qX e1]at h1
   subst e1
   by_cases e2:z=y
   ·rw[qX e2]at h2 ⊢
    exact Tv xs ys zs h1 h2
   ·rw[qY e2]at h2 ⊢;exact h2
  ·rw[qY e1]at h1
   by_cases e2:z=y
   ·subst e2;rw[qY e1];exact h1
   ·rw[qY e2]at h2
    by_cases e3:z=x
    ·subst e3;simp at h1 h2;lia
    ·rw[qY e3];simp at h1 h2 ⊢;lia
theorem X7:∀x y,ltL x y=false->ltL y x=false->x=y
 | [],[],_,_=>rfl
 | [],_ :: _,h,_=>by cases h
 | _ :: _,[],_,h=>by cases h
 | x :: xs,y :: ys,h1,h2=>by
  unfold ltL at h1 h2
  by_cases e:x=y
  ·rw[qX e]at h1;rw[qX e.symm]at h2;rw[e,X7 xs ys h1 h2]
  ·rw[qY e]at h1;rw[qY (CF e)]at h2;simp at h1 h2;lia
def ltK(f:AH->List Int)(x y:DA):Bool:=ltL (f x.1) (f y.1)
theorem fg(f:AH->List Int)(U:DA->Prop):Ord U (ltK f):=⟨λx y _ _ h=>Qt _ _ h,λx y z _ _ _ h1 h2=>Tv _ _ _ h1 h2⟩
section
theorem Wp(o:Bool)(h:Q (decide (a < b)) s):Ae (Ak prog w) A (oneLt' o (.int a t) (.int b u)) Q E s:=by
 cases o with
 | true=>exact oneLt_int h
 | false=>
  rw[oneLt'_eq];simp only[Dm,if_false];exact AB (wpAny_lt_int (DY h))
def XS(s:AL)(v:AH)(ns:List Int):Prop:=∃a i',v=.ref a/\s.heap.IsTuple a i'/\F9 i'.toList ns
def pI(o:Bool):(AH×AH)×Nat->Option Bool×Unit->Sem (ForInStep (Option Bool×Unit)):=λe _=>match e with
 | ((p,q),i)=>eqBool p q >>= λc=>if (!c)=true then oneLt' (o&&i==0) p q >>= λb=>pure (.done (some b,()))else pure (.yield (none,()))
theorem cC(o:Bool)(x y:AH):keyLt' (ly o) x y=(Iu x >>= λr=>Iu y >>= λq=>forIn (r.toList.zip q.toList).zipIdx ((none,()):Option Bool×Unit) (pI o) >>= λz=>match z.1 with
  | some b=>pure b
  | none=>pure (decide (r.size < q.size))):=by kernel_rfl
theorem c6(o:Bool):∀{is js:List AH} {ns ms:List Int} (k:Nat) {Q:Bool->AL->Prop},F9 is ns->F9 js ms->Q (ltL ns ms) s ->
  Ae (Ak prog w) A (forIn ((is.zip js).zipIdx k) ((none,()):Option Bool×Unit) (pI o) >>= λz=>match z.1 with
   | some b=>pure b
   | none=>pure (decide (n0+is.length < n0+js.length))) Q E s:=by
 intro is
 induction is with
 | nil=>
  intro js ns ms k Q h1 h2 hq;cases h1;rw[List.zip_nil_left,de,SA];refine AB (AM (AM ?_))
  cases h2 with
  | nil=>simpa[ltL]using hq
  | cons m t h=>simpa[ltL]using hq
 | cons v is ih=>
  intro js ns ms k Q h1 h2 hq
  cases h1 with
  | cons n t h1=>
   cases h2 with
   | nil=>
    rw[List.zip_nil_right,de,SA];refine AB (AM (AM ?_));rw[wY (by rw[Aj,Hw];lia)];exact hq
   | cons m u h2=>
    rw[GB,List.zipIdx_cons,dh];rw[bind_assoc];unfold ltL at hq;refine AB ?_;refine AB (mW ?_)
    by_cases e:n=m
    ·rw[qX e]at hq
     rw[qY (by simp[e])];refine AM ?_;have:=ih (k+1) h1 h2 hq;simpa[Nat.add_lt_add_iff_left]using this
    ·rw[qY e]at hq
     rw[qX (by simp[e])];refine AB (Wp _ (AM ?_));exact AB (AM (AM hq))
end
section
theorem N7(h:XS s v ns):∃i':Array AH,F9 i'.toList ns/\s.TypeIs v "tuple"/\∀(E:AH->AL->Prop) (Q:Array AH->AL->Prop),Q i' s->Ae (Ak prog w) A (Iu v) Q E s:=by
 obtain⟨a,i',rfl,⟨o,ho,hc,n,hd⟩,hi⟩:=h;exact⟨i',hi,⟨o,ho,hc⟩,λE Q q=>listItems_at ho hd q⟩
theorem hV(o:Bool)(hx:XS s x ns)(hy:XS s y ms)(h:Q (ltL ns ms) s):Ae (Ak prog w) A (keyLt' (ly o) x y) Q E s:=by
 obtain⟨r,hr,_,wr⟩:=N7 (prog:=prog) (w:=w) (A:=A) hx;obtain⟨q,hq,_,wq⟩:=N7 (prog:=prog) (w:=w) (A:=A) hy;rw[cC];refine AB (wr E _ (AB (wq E _ ?_)));have:=c6 (prog:=prog) (w:=w) (A:=A) (E:=E) (n0:=0) o 0 hr hq h;simp only[O3,Bq]at this;exact this
theorem Zf(h:XS s v (n :: ns))(hq:∀t,Q (some (.int n t)) s):Ae (Ak prog w) A (Yb v) Q E s:=by
 obtain⟨r,hr,ty,wr⟩:=N7 (prog:=prog) (w:=w) (A:=A) h;refine(AB (wpAny_typeOf ty ?_):Ae _ _ (Yb v) Q E s);refine(show Ae (Ak prog w) A (if (Fy "tuple" != Fy "tuple")=true then _ else _) Q E s from ?_);rw[qY (by simp)];refine AB (wr E _ (AM ?_));generalize hl:r.toList=l at hr
 cases hr with
 | cons _ t h2=>
  have:r[0]?=some (.int n t):=by
   rw[<-V6,hl];rfl
  rw[this];exact hq t
theorem RD:∀{vs:List AH},(∀v∈vs,∃n ns,XS s v (n :: ns))->∀{Q:List (Option AH)->AL->Prop},(∀is ns,F9 is ns->is.length=vs.length->Q (is.map some) s)->Ae (Ak prog w) A (vs.mapM Yb) Q E s
 | [],_,Q,h=>by
  rw[List.mapM_nil];exact AM (h [] [] .nil rfl)
 | v :: vs,hv,Q,h=>by
  obtain⟨n,ns,hn⟩:=hv v AO;rw[List.mapM_cons];refine AB (Zf hn λt=>AB (RD (λv tV=>hv v (AJ _ tV)) λis ms h1 h2=>AM ?_));exact h (.int n t :: is) (n :: ms) (.cons n t h1) (by rw[Aj,h2,Aj])
theorem Tl(h:F9 is ns)(h0:is≠[]):oneTypeOnly' is.toArray=pure (some (.type "int")):=by
 rw[oneTypeOnly'_eq,Z7,mapM_typeOf_ints h];simp only[map_pure,pure_bind]
 cases is with
 | nil=>exact zX rfl h0
 | cons v is=>
  have e0:(Xd (λ_=>Fy "int") (v :: is)).toArray[0]?=some (Fy "int"):=by simp
  have e1:((Xd (λ_=>Fy "int") (v :: is)).toArray.all λx=>x==Fy "int")=true:=by
   simp only[List.all_toArray,mN,CO]
   exact λ_ _=>rfl
  rw[e0];simp only[e1,if_true]
theorem cB(hv:∀v∈vs,∃n ns,XS s v (n :: ns))(h0:vs≠[])(h:Q (ly true) s):Ae (Ak prog w) A (keyKind' vs.toArray) Q E s:=by
 rw[keyKind'_eq,Z7];refine AB ?_;rw[map_eq_pure_bind];refine AB (RD hv λis ns h1 h2=>AM ?_)
 have sV:((is.map some).toArray.all λx=>x.isSome)=true:=by simp
 rw[qX sV];refine AB (iu ?_)
 have hf:(is.map some).toArray.filterMap id=is.toArray:=by simp
 rw[hf,Tl h1 (by intro e;subst e;cases vs with | nil=>exact h0 rfl | cons=>simp at h2)];refine AB (AM (AM ?_));exact h
end
section
theorem G6(h:x∈Kt vs):x.1∈vs/\x.1=x.2:=by
 have:x∈(Kt vs).toList:=FF.mpr h;rw[pairsOf_toList]at this;exact⟨(mem_zip_self this).2,(mem_zip_self this).1⟩
theorem ZG(vs:List AH):(Kt vs).map (·.2)=vs.toArray:=by
 apply m6
 rw[J1,pairsOf_toList];simp[List.map_snd_zip]
def UL(prog:Ba)(w:Bx)(A:CC)(s:AL)(vs:List AH)(f:AH->List Int):Prop:=
 ∃κ:Nz,(∀(Q:Nz->AL->Prop) (E:AH->AL->Prop),Q κ s->Ae (Ak prog w) A (keyKind' vs.toArray) Q E s)/\RY prog w A s (Kt vs) κ (ltK f)
theorem PZ{a:AU}{vs:List AH}{n:Nat}{P:Fin->AL->Prop}{f:AH->List Int}(ho:s.heap.get? a=some (JH "list" vs.toArray n)) (hz:vs.length<=sizeLine) (w5:vs.length < 64)
  (hk:2<=vs.length->∀s':AL,(∀b o,b≠a->s.heap.get? b=some o->s'.heap.get? b=some o)->UL prog w A s' vs f)
  (h:∀out:Array AH,out.toList.Perm vs->out.toList.Pairwise (λx y=>ltL (f y) (f x)=false)->P (.done (.ret .none)) { s with heap:=iy s.heap a vs out }) :
  Ae (Ak prog w) A (mR.«list.sort» ⟨[.ref a],[]⟩) P E s:=by
 have ha:a < s.heap.objs.size:=Ad ho
 have hsz:vs.toArray.size=vs.length:=by simp
 obtain⟨e1,ho1⟩:∃e1,(s.heap.update a (FL λ_=>#[])).get? a=some (JH "list" #[] e1):=⟨_,get?_update_seq ho (λ_=>#[])⟩
 have vc:(((s.heap.update a (FL λ_=>#[])).push (JH "tuple" vs.toArray 0)).push (JH "list" #[] 0)).get? a=some (JH "list" #[] e1):=
  AR _ (AR _ ho1)
 have old:∀b o,b≠a->s.heap.get? b=some o->(((s.heap.update a (FL λ_=>#[])).push (JH "tuple" vs.toArray 0)).push (JH "list" #[] 0)).get? b=some o:=λb o hb hg=>
  AR _ (AR _ (by rw[Yg _ _ _ _ hb];exact hg))
 have fin:∀j':Es,(An j').Perm (Kt vs)->(An j').toList.Pairwise (Rl (ltK f))->P (.done (.ret .none)) { s with heap:=iy s.heap a vs ((An j').map (·.2)) }:=by
  intro j' hp hs
  have rk:∀x∈(An j').toList,x.1=x.2:=λx hx=>by
   have:x∈(Kt vs).toList:=(Im.mp hp).mem_iff.mp hx;exact(G6 (FF.mp this)).2
  refine h _ ?_ ?_
  ·have:=(Im.mp hp).map (·.2)
   rw[<-J1,<-J1,ZG]at this;simpa using this
  ·rw[J1,Bc]
   refine hs.imp_of_mem λ{x y} hx hy r=>?_
   rw[<-rk x hx,<-rk y hy];exact r
 have last:∀j':Es,(An j').Perm (Kt vs)->failedOf j'=none->(An j').toList.Pairwise (Rl (ltK f))->(((An j').map (·.2)).size<=sizeLine+1):=λj' hp _ _=>by
  rw[Array.size_map,hp.size_eq,Rb]
  lia
 rw[list_sort_plain];refine AB (listItems_at ho rfl (AB (Ya ho rfl (AB (dW ho1 rfl (AB (wpAny_newTuple (AB (wpAny_newList (Pi ?_)))))) ) (by rw[hsz];exact hz) (Dc _))));show Ae (Ak prog w) A _ P E { s with heap:=((s.heap.update a (FL λ_=>#[])).push (JH "tuple" vs.toArray 0)).push (JH "list" #[] 0) };dsimp only
 by_cases h2:vs.toArray.size < 2
 ·rw[qX h2,qX h2]
  refine AB (AM ?_);rw[StateT.run_pure]
  have xR:(An (Kf V8 (vs.toArray.zip vs.toArray) #[] 7 none)).toList.Pairwise (Rl (ltK f)):=by
   have:(An (Kf V8 (vs.toArray.zip vs.toArray) #[] 7 none)).toList.length < 2:=by
    rw[Bq];show(Kt vs).size < 2;rw[Rb];omega
   generalize (An (Kf V8 (vs.toArray.zip vs.toArray) #[] 7 none)).toList=l at this
   match l,this with
   | [],_=>exact .nil
   | [x],_=>exact UW _ _
   | _ :: _ :: _,h=>simp at h;lia
  refine AB (AM (AB (dW vc rfl (AB (Ya vc rfl ?_ (Dc _) (last (Kf V8 (vs.toArray.zip vs.toArray) #[] 7 none) (Nr _) rfl xR))))));simp only[bne_self_eq_false,Dm,if_false];exact AM (fin (Kf V8 (vs.toArray.zip vs.toArray) #[] 7 none) (Nr _) xR)
 ·rw[qY h2,qY h2]
  obtain⟨κ,kk,C⟩:=hk (by lia) { s with heap:=((s.heap.update a (FL λ_=>#[])).push (JH "tuple" vs.toArray 0)).push (JH "list" #[] 0) } old;refine AB (kk _ _ ?_)
  refine AB (Gy (Srt.Rp (a₀:=Kt vs) (st:=Kf κ (vs.toArray.zip vs.toArray) #[] 7 none)
   (Q:=λ_ j'=>(An j').Perm (Kt vs)/\failedOf j'=none/\(An j').toList.Pairwise (Rl (ltK f))) (by rw[Rb];exact w5) (by rw[Rb];lia) C (fg f _) ⟨Nr _,rfl,rfl⟩ rfl λj' g u=>⟨g.perm,g.failed,?_⟩) ?_ λ_ _ e=>e)
  ·have:=nD (a:=An j') (lo:=0) (hi:=(An j').size) (AK _) (by rw[g.size];exact u)
   rwa [gy,List.drop_zero]at this
  rintro⟨⟨⟩,j'⟩ s' ⟨rfl,hp,hf,hs⟩;refine AB (dW vc rfl (AB (Ya vc rfl ?_ (Dc _) (last j' hp hf hs))));rw[hf];simp only[bne_self_eq_false,Dm,if_false];exact AM (fin j' hp hs)
theorem Yw(h:∀v∈vs,XS s v (f v)/\f v≠[])(h0:vs≠[]):UL prog w A s vs f:=
 ⟨ly true,λQ E q=>cB (λv hv=>by
  obtain⟨h1,h2⟩:=h v hv
  cases e:f v with
  | nil=>exact zX e h2
  | cons n ns=>exact⟨n,ns,by rw[<-e];exact h1⟩) h0 q,λx y hx hy Q E q=>hV true (h _ (G6 hx).1).1 (h _ (G6 hy).1).1 q⟩
def bY(v:AH):List Int:=[numOf v]
theorem Yx(h:F9 vs ns)(h2:2<=vs.length):UL prog w A s vs bY:=by
 refine⟨oneType',λQ E q=>?_,λx y hx hy Q E q=>?_⟩
 ·match vs,h2,h with
  | v :: u :: r,_,h=>rw[keyKind_ints h];exact AM q
 ·obtain⟨n,t,e1⟩:=h.all _ (G6 hx).1
  obtain⟨m,u,e2⟩:=h.all _ (G6 hy).1;rw[keyLt'_oneType,e1,e2];refine oneLt_int ?_
  have:ltK bY x y=decide (n < m):=by
   unfold ltK bY;rw[e1,e2];show(if n=m then false else decide (n < m))=_;split
   ·rename_i e;simp[e]
   ·rfl
  rw[<-this];exact q
end
def R8(h:Cu)(d:AU)(es:Array Oj)(ep:Nat):Prop:=∃o,h.get? d=some o/\o.ExactDict/\o.data=.dict es ep
theorem R8.at'(x:R8 h d es ep)(e:∀o,h.get? d=some o->h'.get? d=some o):R8 h' d es ep:=let ⟨o,ho,r⟩:=x;⟨o,e _ ho,r⟩
theorem R8.ty{s:AL}{d:AU}{es:Array Oj}{ep:Nat}(x:R8 s.heap d es ep):s.TypeIs (.ref d) "dict":=let ⟨o,ho,hc,_⟩:=x;⟨o,ho,hc.1⟩
section
theorem VD{Q:AH->AL->Prop}(hd:(d==Db)=false)(hm:R8 s.heap d es ep)
  (kq:Q (.ref s.heap.objs.size) { s with heap:=s.heap.push { cls:=.type "dict_keyiterator",data:=.fields #[.ref d,.int 0 0,.int es.size 0,.int ep 0] } }):Ae (Ak prog w) A (iz (.ref d)) Q E s:=by
 have hT:=hm.ty;obtain⟨o,ho,hc,ui⟩:=hm;refine wpAny_pyIter_slot hT Su (Dv Su hT PySem.F.entry_dict_iter ?_ (PySem.F.args_dict_iter_1 _));unfold mR.«dict.__iter__»;refine AB ?_;unfold p7;refine AB (wpAny_notOrdered_dict hT (show Ae _ _ (pure (BA d)) _ _ s from AM ?_));refine(show Ae _ _ (QA d >>= _) _ _ s from ?_);unfold QA;rw[qY (by simp[hd])];refine AB (AM (AB (RZ ho ui (AB (UT ho ui (AB (Ce (AM ⟨_,rfl, "dict_keyiterator",_,⟨_,Af _ rfl,rfl⟩,CZ.lookup,?_⟩))))))));simpa[Nx]using kq
theorem VC(ki:s.heap.IsKeyIter it d i es.size ep)(hm:R8 s.heap d es ep)(hi:i < es.size)
  (kq:∀h',h'.IsKeyIter it d (i+1) es.size ep->EZ it s.heap h'->Q (some es[i].key) { s with heap:=h' }):Ae (Ak prog w) A (Sn (.ref it)) Q E s:=by
 obtain⟨o,ho,hc,hd⟩:=id ki;obtain⟨od,uj,rj,uk⟩:=hm;unfold Sn;refine AB (Pj (DZ (name:=Il "__next__") ki.typeIs CZ (Dv CZ ki.typeIs MH (AB (AM (AB (AB ?_)))) (MA _))))
 first | refine AB (Ep ki.typeIs (AM (AB (Nv ho hd ?_)))) | refine AB (Gi ki.typeIs (AM (AB (Nv ho hd ?_))))
 simp only[show Kv "dict_keyiterator" = false by decide,Dm,if_false];refine(show Ae _ _ (if (BA d==DO)=true then _ else _) _ _ s from ?_);rw[qY (λz:(BA d==DO)=true=>AI z)];refine AB (AM (AB (RZ uj uk ?_)));rw[qY (by simp)];refine AB (AM (AB (UT uj uk ?_)));rw[qY (by simp)];refine AM ?_;simp only[show ¬((i:Int) < 0) by lia,if_false,Aq,SD hi];refine AB ?_
 first | refine AB (Ep ki.typeIs (AM (AB (M5 ki.typeIs ?_)))) | refine AB (Gi ki.typeIs (AM (AB (M5 ki.typeIs ?_))))
 refine(show Ae _ _ (setField (.ref it) 1 (Nx ((i:Int)+1)) >>= _) _ _ s from ?_);have vd:(s.heap.update it (mK (·.setIfInBounds 1 (Nx ((i:Int)+1))))).IsKeyIter it d (i+1) es.size ep:=⟨_,Lp _ ho (Xc (JJ hd _)),(dM ..).trans hc,by rw[JJ hd];simp[Nx]⟩;refine AB (Nu ho hd (by simp) (AB (Pi (AB (M5 (s:={ s with heap:=s.heap.update it (mK (·.setIfInBounds 1 (Nx ((i:Int)+1)))) }) vd.typeIs ?_)))));exact(show Ae _ _ (pure es[i].key) _ _ _ from AM (AM ⟨_,rfl,AM (kq _ vd (G1 ..))⟩))
theorem Xv(h0:A.handled=none)(ki:s.heap.IsKeyIter it d i es.size ep)(hm:R8 s.heap d es ep)(hi:es.size<=i)
  (kq:∀h',Xe it s.heap h'->Q none { s with heap:=h' }):Ae (Ak prog w) A (Sn (.ref it)) Q E s:=by
 obtain⟨o,ho,hc,hd⟩:=id ki;obtain⟨od,uj,rj,uk⟩:=hm;unfold Sn;refine AB (Pj (DZ (name:=Il "__next__") ki.typeIs CZ (Dv CZ ki.typeIs MH (AB (AM (AB (AB ?_)))) (MA _))))
 first | refine AB (Ep ki.typeIs (AM (AB (Nv ho hd ?_)))) | refine AB (Gi ki.typeIs (AM (AB (Nv ho hd ?_))))
 simp only[show Kv "dict_keyiterator" = false by decide,Dm,if_false];refine(show Ae _ _ (if (BA d==DO)=true then _ else _) _ _ s from ?_);rw[qY (λz:(BA d==DO)=true=>AI z)];refine AB (AM (AB (RZ uj uk ?_)));rw[qY (by simp)];refine AB (AM (AB (UT uj uk ?_)));rw[qY (by simp)];refine AM ?_;simp only[show ¬((i:Int) < 0) by lia,if_false,Aq,Array.getElem?_eq_none hi];refine AB ?_
 first | refine AB (Ep ki.typeIs (AM (show Ae _ _ (setField (.ref it) 0 .none >>= _) _ _ s from ?_))) | refine AB (Gi ki.typeIs (AM (show Ae _ _ (setField (.ref it) 0 .none >>= _) _ _ s from ?_)))
 refine AB (Nu ho hd (by simp) (show Ae _ _ (newExc (.type "StopIteration") [] >>= _) _ _ _ from AB ?_));simp only[newExc,newTuple];refine AB (Ce (AB (m:=Ny _ _) (wpAny_of_eq (a:=DO) (by first | rfl | (simp only[Ny];rfl)) (Ce ?_ (by size_fits)))) (by size_fits));simp only[raiseNew];refine AB (wpAny_handled ?_);rw[show A.in1.handled=none from h0];refine AB (AM (wpAny_throw ?_));refine AB (mU (T:="StopIteration") (b:=true) ⟨_,Af _ rfl,rfl⟩ isSubtype_stop (AM ?_));exact kq _ (((G1 ..).extBut.push _).push _)
theorem ZB(h0:A.handled=none)(I:AU)(qp:d≠I):Walks prog w A I [I,d] [I] es.size (λi v=>∃h:i < es.size,v=es[i].key) (λi h=>h.IsKeyIter I d i es.size ep/\R8 h d es ep) where
 sub:=λx hx=>by simp at hx;simp[hx]
 frame:=λ_ _ _ st keep=>⟨st.1.at λo e=>keep I (by simp) o e,st.2.at' λo e=>keep d (by simp) o e⟩
 item:=λi s Q E hi st kq=>VC st.1 st.2 hi λh' vd t9=>kq _ h' s.toks ⟨hi,rfl⟩ ⟨vd,st.2.at' λo e=>t9.extBut d o qp e⟩ λb o hb e=>t9.extBut b o (λh=>hb (by simp[h])) e
 done:=λs Q E st kq=>Xv h0 st.1 st.2 (AK _) λh' w6=>kq h' s.toks λb o hb e=>w6 b o (λh=>hb (by simp[h])) e
 self:=λ_ _ _ _ st kq=>dQ st.1 kq
theorem Xu(lo:(d==Db)=false):PySem.W.KdlSrc prog w "dict" d d es.size (λi v=>∃h:i < es.size,v=es[i].key) (λh=>R8 h d es ep) where
 type:=λ_ hm=>hm.ty
 there:=λ_ hm=>⟨let ⟨_,ho,_⟩:=hm;Ad ho,let ⟨_,ho,_⟩:=hm;Ad ho⟩
 keep:=λ_ _ hm hk=>hm.at' λo e=>hk d (.inl rfl) o e
 notList:=by decide
 notTuple:=by decide
 hint:=λ_ _ _ _ hm hq=>PySem.W.kdl_hint_dict hm.ty hq
 iter:=λ_ _ h0 hm=>⟨_,_,(λ_ _ hq=>VD lo hm hq),ZB h0 _ (BB (let ⟨_,ho,_⟩:=hm;Ad ho)),⟨⟨_,Af _ rfl,rfl,rfl⟩,hm.at' λo e=>AR _ e⟩⟩
end
end Srt
namespace L2
open PySem PySem.Spec PyProof.Rows
open Srt (ltL)
theorem VJ{α β:Type}{R:α->β->Prop}{l2 xS:List β}(p:l2.Perm xS):∀{l1:List α},Fj R l1 l2->∃ue,Fj R ue xS/\ue.Perm l1:=by
 induction p with
 | nil=>intro l1 h;cases h;exact⟨[],.nil,.refl _⟩
 | cons x _ ih=>
  intro l1 h
  cases h with
  | cons r t=>
   obtain⟨l',h1,h2⟩:=ih t;exact⟨_ :: l',.cons r h1,h2.cons _⟩
 | swap x y l=>
  intro l1 h
  cases h with
  | cons r t=>
   cases t with
   | cons r2 t=>exact⟨_ :: _ :: _,.cons r2 (.cons r t),List.Perm.swap _ _ _⟩
 | trans _ _ ih1 ih2=>
  intro l1 h;obtain⟨a,h1,h2⟩:=ih1 h;obtain⟨b,h3,h4⟩:=ih2 h1;exact⟨b,h3,h4.trans h2⟩
theorem NQ{α β γ:Type}{R:α->β->Prop}{f:α->γ}{g:β->γ}:∀{l1:List α} {l2:List β},Fj R l1 l2->(∀a∈l1,∀b,R a b->g b=f a)->l2.map g=l1.map f
 | _,_,.nil,_=>rfl
 | _,_,.cons r t,h=>by rw[A9,A9,h _ AO _ r,NQ t λa ha=>h a (AJ _ ha)]
theorem Qi{α β:Type}{R:α->β->Prop}:∀{l1:List α} {l2:List β} {b:β},Fj R l1 l2->b∈l2->∃a∈l1,R a b
 | _,_,_,.nil,h=>nomatch h
 | _,_,b,.cons r t,h=>by
  rcases AV.mp h with h | h
  ·subst h;exact⟨_,AO,r⟩
  ·obtain⟨a,ha,e⟩:=Qi t h
   exact⟨a,AJ _ ha,e⟩
def Rz:V->Int
 | .int n=>n
 | _=>0
def Y6(H:Hp):AH->List Int
 | .int n _=>[n]
 | .ref b=>match H b with
  | some (.tup xs)=>xs.map Rz
  | _=>[]
 | _=>[]
theorem ON(r:List Int):(r.map V.int).map Rz=r:=by
 rw[BC];exact(DW λa _=>rfl).trans (mM r)
def pN(K:AF)(H:Hp)(p:AU)(G:List V->Prop):Prop:=
 (∃vs,(SqL K H p vs∨SqT K H p vs)/\G vs)∨(∃f',H p=some (.dK f')/\G (f'.map λx=>kV x.1)) ∨
  ∃f',H p=some (.dT f')/\∀bs:List AU,Fj (λ(k:List Key×V) b=>H b=some (.tup (k.1.map kV))) f' bs->G (bs.map V.ref)
def Sk(H:Hp)(f:V->List Int)(vs:List V):Prop:=(∀v∈vs,∃n,v=.int n/\f v=[n])∨∀v∈vs,∃b,v=.ref b/\H b=some (.tup ((f v).map V.int))/\f v≠[]
def nX(K:AF):List V->Hp->VK->Prop:=λxs H Q=>∃p,xs=[.ref p]/\pN K H p λvs=>∃f:V->List Int,vs.length < 64/\Sk H f vs /\
 ∀out,out.Perm vs->out.Pairwise (λx y=>ltL (f y) (f x)=false)->∀l,H l=none->Q (.ref l) (upd H l (.lst out))
theorem Sk.rel(h:Sk H f vs):∀v∈vs,∀u,RelV v u->Y6 H u=f v:=λv hv u r=>by
 rcases h with h | h
 ·obtain⟨n,rfl,e⟩:=h v hv
  obtain⟨t,rfl⟩:=r;exact e.symm
 ·obtain⟨b,rfl,e,_⟩:=h v hv
  cases r;show(match H b with | some (.tup xs)=>xs.map Rz | _=>[])=_;rw[e];exact ON _
theorem Ur(hc:X.calm=true)(I:Inv X ζ σ H s)(h:pN X.K H p G) :
  ∃vs i',G vs/\Bn vs i'/\i'.length<=sizeLine/\∀(R:List AH->AL->Prop) (E:AH->AL->Prop),(∀(g:Cu) (tk:Nat),(∀b o,s.heap.get? b=some o->g.get? b=some o)->R i' { s with heap:=g,toks:=tk })->Ae (Ak X.prog X.w) X.A.in1 (collect (.ref p)) R E s:=by
 have hh:X.A.handled=none:=I.ok.hd hc
 rcases h with⟨vs,sq,g⟩ | ⟨f',e,g⟩ | ⟨f',e,g⟩
 ·rcases sq with sq | sq
  ·obtain⟨i',rv,pl,hz⟩:=I.list sq
   refine⟨vs,i',g,rv,by rw[<-rv.length];exact hz,λR E k=>collect_list pl.isList (k _ s.toks λb o e=>?_) (by rw[<-rv.length];exact hz)⟩;rw[Yg _ _ _ _ (BB (Ad e))];exact AR _ e
  ·obtain⟨i',rv,⟨o,ho,sC,n,hd⟩,hz⟩:=I.tuple sq
   have xT:i'.length<=sizeLine:=by rw[<-rv.length];exact hz
   exact⟨vs,i',g,rv,xT,λR E k=>wpAny_collect_seq p (.inr rfl) ho sC hd (λh' kp=>by simpa using k h' s.toks kp) (by simpa using xT)⟩
 ·obtain⟨hz,sm,us,kv,o,es,ep,g1,g2,g3,g5,g6,_⟩:=(show Cj X.prog X.w H s.heap p (.dK f')from I.hok p _ e)
  have hlen:es.size=f'.length:=by
   have a1:=g6.length;have a2:f'.length=us.length:=Eb kv;rw[Bq]at a1
   lia
  have hv:Bn (f'.map λx=>kV x.1) (es.toList.map (·.key)):=by
   have key:∀{l:List Oj} {us:List (Key×AH)} {f':List (Key×V)},Pairs (D8 X.prog X.w) l us->KV f' us->Bn (f'.map λx=>kV x.1) (l.map (·.key)):=by
    intro l us f' hp
    induction hp generalizing f' with
    | nil=>intro h;cases h;exact .nil
    | cons q1 q2 _ ih=>
     intro h
     cases h with
     | cons r t=>
      refine .cons ?_ (ih t);dsimp only;rw[r.1]
      rcases DF q1 with⟨i,t,e1,e2⟩ | ⟨x,t,e1,e2⟩
      ·rw[e1,e2];exact⟨t,rfl⟩
      ·rw[e1,e2];exact⟨t,rfl⟩
   exact key g6 kv
  refine⟨_,es.toList.map (·.key),g,hv,by rw[AC,Bq,hlen];exact hz,λR E k=>?_⟩
  refine V1 (Srt.Xu (es:=es) (ep:=ep) sm) hh ⟨o,g1,g2,g3⟩ (by rw[hlen];exact hz) λg' tk acc kp ac=>?_
  have:acc.toList=es.toList.map (·.key):=by
   apply Ji
   intro j
   by_cases hj:j < es.size
   ·have rH:j < acc.size:=by rw[ac.1];exact hj
    obtain⟨_,e2⟩:=ac.2 j acc[j] (by simp[rH]);simp[hj,rH,e2]
   ·have rH:¬j < acc.size:=by rw[ac.1];exact hj
    simp[hj,rH]
  rw[this];exact k g' tk kp
 ·obtain⟨hz,sm,xs,rr,o,es,ep,g1,g2,g3,g4,_⟩:=(show Cj X.prog X.w H s.heap p (.dT f')from I.hok p _ e)
  have hlen:es.size=f'.length:=by
   have a1:=congrArg MJ g4;have a2:f'.length=xs.length:=Eb rr;rw[Bq,AC]at a1
   lia
  have hb:Fj (λ(k:List Key×V) b=>H b=some (.tup (k.1.map kV))) f' (xs.map (·.2.1)):=by
   have key:∀{f':List (List Key×V)} {xs:List (List Key×AU×AH)},Fj (λ(p:List Key×V) (q:List Key×AU×AH)=>p.1=q.1/\H q.2.1=some (.tup (p.1.map kV))/\RelV p.2 q.2.2) f' xs->Fj (λ(k:List Key×V) b=>H b=some (.tup (k.1.map kV))) f' (xs.map (·.2.1)):=by
    intro f' xs h
    induction h with
    | nil=>exact .nil
    | cons r _ ih=>exact .cons r.2.1 ih
   exact key rr
  have hk:es.toList.map (·.key)=(xs.map (·.2.1)).map BA:=by
   rw[g4,BC,BC];rfl
  have hv:∀l:List AU,Bn (l.map V.ref) (l.map BA):=λl=>by
   induction l with
   | nil=>exact .nil
   | cons a l ih=>exact .cons rfl ih
  refine⟨_,(xs.map (·.2.1)).map BA,g _ hb,hv _,by rw[AC,AC,<-Eb rr];exact hz,λR E k=>?_⟩
  refine V1 (Srt.Xu (es:=es) (ep:=ep) sm) hh ⟨o,g1,g2,g3⟩ (by rw[hlen];exact hz) λg' tk acc kp ac=>?_
  have:acc.toList=(xs.map (·.2.1)).map BA:=by
   rw[<-hk]
   apply Ji
   intro j
   by_cases hj:j < es.size
   ·have rH:j < acc.size:=by rw[ac.1];exact hj
    obtain⟨_,e2⟩:=ac.2 j acc[j] (by simp[rH]);simp[hj,rH,e2]
   ·have rH:¬j < acc.size:=by rw[ac.1];exact hj
    simp[hj,rH]
  rw[this];exact k g' tk kp
theorem U2{X:Cx}{s:AL}{H:Hp}{f:V->List Int}{vs:List V}{i':List AH}(I:∀b xs,H b=some (.tup xs)->∃is:List AH,Bn xs is/\mO s.heap b is.toArray)(h:Sk H f vs)(rv:Bn vs i')(h2:2<=i'.length){A:CC}:Srt.UL X.prog X.w A s i' (Y6 H):=by
 rcases id h with hi | ht
 ·have:∃ns,F9 i' ns:=by
   have key:∀{vs:List V} {i':List AH},Bn vs i'->(∀v∈vs,∃n,v=.int n/\f v=[n])->∃ns,F9 i' ns:=by
    intro vs i' r
    induction r with
    | nil=>exact λ_=>⟨[],.nil⟩
    | cons r _ ih=>
     intro hv
     obtain⟨ns,sy⟩:=ih λv tV=>hv v (AJ _ tV)
     obtain⟨n,rfl,_⟩:=hv _ AO;obtain⟨t,rfl⟩:=r;exact⟨n :: ns,.cons n t sy⟩
   exact key rv hi
  obtain⟨ns,sy⟩:=this;obtain⟨κ,k1,k2⟩:=Srt.Yx (prog:=X.prog) (w:=X.w) (A:=A) (s:=s) sy h2;refine⟨κ,k1,λx y hx hy Q E q=>k2 x y hx hy Q E ?_⟩;obtain⟨n,t,e1⟩:=sy.all _ (Srt.G6 hx).1;obtain⟨m,u,e2⟩:=sy.all _ (Srt.G6 hy).1
  have e:Srt.ltK Srt.bY x y=Srt.ltK (Y6 H) x y:=by
   unfold Srt.ltK Srt.bY;rw[e1,e2];rfl
  rw[e];exact q
 ·refine Srt.Yw (λu hu=>?_) (by intro e;subst e;simp at h2)
  obtain⟨v,hv,r⟩:=Qi rv hu;rw[h.rel v hv u r];obtain⟨b,rfl,e,ne⟩:=ht v hv;cases r;refine⟨⟨b,?_⟩,ne⟩;obtain⟨is,r,o,ho,sC,n,hd⟩:=I b _ e;exact⟨is.toArray,rfl,⟨o,ho,sC,n,hd⟩,by simpa using intsAre_of r⟩
theorem Zo{X}(hc:X.calm=true):Kj X (.builtin "sorted") (nX X.K):=by
 intro ζ s σ H xs us Q I r h;obtain⟨p,rfl,src⟩:=h;obtain⟨u,rfl,rx⟩:=vals1 r;cases rx;obtain⟨vs,i',⟨f,w5,rows,q⟩,rv,hz,col⟩:=Ur hc I src;refine Calls.call_function_entry kind_sorted plain_sorted entry_sorted (args_sorted1 _) ?_;unfold mR.«sorted»;refine AB (m:=checkCount "sorted" 1 1 _) (AM (AB (col _ _ λg tk kp=>?_)));refine AB (wpAny_newList ?_ hz);have I1:Inv X ζ σ H { s with heap:=g,toks:=tk }:=I.kept kp;have hl:(g.push (JH "list" i'.toArray 0)).get? g.objs.size=some (JH "list" i'.toArray 0):=Af _ rfl;refine AB (Pi (Dv slot_list_sort ⟨_,hl,rfl⟩ entry_list_sort (Srt.PZ (f:=Y6 H) hl hz (by rw[<-rv.length];exact w5) (λh2 s' keep=>?_) λout po so=>⟨_,rfl,AM ⟨_,rfl,?_⟩⟩) (args_list_sort _)))
 ·refine U2 (λb xs e=>?_) rows rv h2
  obtain⟨_,is,r,o,ho,sC,n,hd⟩:=(show Cj X.prog X.w H g b (.tup xs)from I1.hok b _ e);exact⟨is,r,o,keep b o (BB (Ad ho)) (AR _ ho),sC,n,hd⟩
 ·obtain⟨vo,ro,pv⟩:=VJ po.symm rv
  have zJ:vo.Pairwise (λx y=>ltL (f y) (f x)=false):=by
   have e:out.toList.map (Y6 H)=vo.map f:=NQ ro λa ha b rb=>rows.rel a (pv.mem_iff.mp ha) b rb
   have:=(Bc (f:=Y6 H) (R:=λx y=>ltL y x=false)).mpr so;rw[e]at this;exact Bc.mp this
  obtain⟨k,hk⟩:=sortedHeap_at (out:=out) hl
  have hlen:vo.length<=sizeLine:=by rw[pv.length_eq,rv.length];exact hz
  have I2:=I1.laid (a:=g.objs.size) (o:=.lst vo) (t':=tk) (h':=iy (g.push (JH "list" i'.toArray 0)) g.objs.size i' out)
   (λb u z=>by
    have lt:b < g.objs.size:=Ad z;rw[sortedHeap_old (BB lt) (by rw[size_push'];exact O4 lt)]
    exact AR _ z) (AK _) ⟨hlen,out.toList,k,ro,hk⟩
  exact⟨.ref g.objs.size,_,I2,rfl,q vo pv zJ _ (I1.hok.fresh (AK _))⟩
def Bt(ns:List Int):List Int:=ns.mergeSort (λa b=>decide (a<=b))
@[simp] def mT:Bt []=[]:=by unfold Bt;simp
theorem Cb(ns:List Int):(Bt ns).Perm ns:=Yf ns _
theorem K6(ns:List Int):(Bt ns).Pairwise (·<=·):=by
 have:=UX (le:=λa b:Int=>decide (a<=b)) (by intro a b c h1 h2;simp at h1 h2 ⊢;lia) (by intro a b;simp;lia) ns
 exact this.imp λh=>by simpa using h
def NG(rs:List (List Int)):List (List Int):=rs.mergeSort (λa b=>!ltL b a)
theorem IF(rs:List (List Int)):(NG rs).Perm rs:=Yf rs _
theorem QU(rs:List (List Int)):(NG rs).Pairwise (λa b=>ltL b a=false):=by
 have:=UX (le:=λa b:List Int=>!ltL b a) (by intro a b c h1 h2;simp at h1 h2 ⊢;exact Srt.Tv _ _ _ h1 h2) (by
  intro a b
  cases e:ltL b a with
  | false=>simp
  | true=>simp[Srt.Qt _ _ e]) rs
 exact this.imp λh=>by simpa using h
theorem SI{l l':List (List Int)}(p:l.Perm l')(h:l.Pairwise (λa b=>ltL b a=false))(h':l'.Pairwise (λa b=>ltL b a=false)):l=l':=
 p.eq_of_pairwise (λa b _ _ h1 h2=>Srt.X7 a b h2 h1) h h'
def W1:Key->D
 | .inl i=>.int i
 | .inr x=>.str x
def KO(d:D)(S:Sto):Option (List D):=match d with
 | .fro ds=>some ds
 | .tup ds=>some ds
 | .ref n=>match S[n]? with
  | some (.lst ds)=>some ds
  | some (.dK f')=>some (f'.map λx=>W1 x.1)
  | some (.dT f')=>some (f'.map λx=>.tup (x.1.map W1))
  | _=>none
 | _=>none
def PM(r:List Int):D:=.tup (r.map D.int)
def SK:List D->Option (List (List Int))
 | []=>some []
 | .tup ds :: r=>match JC ds,SK r with
  | some (n :: ns),some rs=>some ((n :: ns) :: rs)
  | _,_=>none
 | _ :: _=>none
def Ki(ds:List D):Option (List D):=if ds.length < 64 then(match JC ds with
 | some ns=>some ((Bt ns).map D.int)
 | none=>match SK ds with
  | some rs=>some ((NG rs).map PM)
  | none=>none)else none
theorem SJ{ds es:List D}(h:Ki ds=some es):ds.length < 64:=by
 unfold Ki at h;split at h
 ·assumption
 ·cases h
def HI(m:ME):ME:=λe S=>(m e S).bind λd S1=>match KO d S1 with
 | some ds=>match Ki ds with
  | some es=>.ok (.ref S1.length) (S1++[.lst es])
  | none=>.bad
 | none=>.bad
section
theorem gU(x y:Int):ltL [y] [x]=decide (y < x):=by
 show(if y=x then false else decide (y < x))=_;split
 ·rename_i e;simp[e]
 ·rfl
def Rw(H:Hp):V->List Int
 | .int n=>[n]
 | .ref b=>match H b with
  | some (.tup xs)=>xs.map Rz
  | _=>[]
 | _=>[]
theorem U6{K}{ρ}{H}:∀{ds:List D} {rs:List (List Int)} {vs:List V},SK ds=some rs->Am K ρ H ds vs->vs.map (Rw H)=rs/\∀v∈vs,∃b,v=.ref b/\H b=some (.tup ((Rw H v).map V.int))/\Rw H v≠[]
 | [],_,_,h,.nil=>by cases h;exact⟨rfl,λv hv=>nomatch hv⟩
 | .tup ts :: ds,rs,_,h,.cons r t=>by
  unfold SK at h;split at h
  ·rename_i n ns rs' h1 h2
   cases h;obtain⟨i1,i2⟩:=U6 h2 t
   cases r with
   | @tup _ b ws hb rr=>
    have:=Nd h1;subst this;have:=rr.ints;subst this
    have e:Rw H (.ref b)=n :: ns:=by
     show(match H b with | some (.tup xs)=>xs.map Rz | _=>[])=_;rw[hb];exact ON _
    refine⟨by rw[A9,e,i1],λv hv=>?_⟩
    rcases AV.mp hv with hv | hv
    ·subst hv
     refine⟨b,rfl,?_,?_⟩
     ·rw[e];exact hb
     ·rw[e];exact List.cons_ne_nil _ _
    ·exact i2 v hv
  ·cases h
 | .non :: _,_,_,h,_=>by cases h
 | .bl _ :: _,_,_,h,_=>by cases h
 | .int _ :: _,_,_,h,_=>by cases h
 | .str _ :: _,_,_,h,_=>by cases h
 | .fro _ :: _,_,_,h,_=>by cases h
 | .ref _ :: _,_,_,h,_=>by cases h
 | .exc _ :: _,_,_,h,_=>by cases h
theorem U9{K}{ρ}{H}:∀{vs:List V},(∀v∈vs,∃b,v=.ref b/\H b=some (.tup ((Rw H v).map V.int))/\Rw H v≠[])->Am K ρ H ((vs.map (Rw H)).map PM) vs
 | [],_=>.nil
 | v :: vs,h=>by
  obtain⟨b,e,hb,_⟩:=h v AO;refine .cons ?_ (U9 λu hu=>h u (AJ _ hu));subst e;exact .tup hb (Am.of_ints _)
theorem ao{K:AF}{ρ:List AU}{H:Hp}{ds es:List D}{vs:List V}(h:Ki ds=some es)(r:Am K ρ H ds vs) :
  ∃f:V->List Int,Sk H f vs/\∀out,out.Perm vs->out.Pairwise (λx y=>ltL (f y) (f x)=false)->Am K ρ H es out:=by
 have hl:=SJ h;unfold Ki at h;rw[qX hl]at h;split at h
 ·rename_i ns hz
  cases h;have:=Nd hz;subst this;have:=r.ints;subst this;refine⟨λv=>[Rz v],.inl λv hv=>?_,λout po so=>?_⟩
  ·obtain⟨n,_,rfl⟩:=Al.mp hv
   exact⟨n,rfl,rfl⟩
  ·have e1:out=(out.map Rz).map V.int:=by
    rw[BC]
    conv=>lhs;rw[<-P8 out]
    refine DW λv hv=>?_
    obtain⟨n,_,rfl⟩:=Al.mp (po.mem_iff.mp hv);rfl
   have e2:out.map Rz=Bt ns:=by
    have p1:(out.map Rz).Perm (Bt ns):=by
     have:=po.map Rz;rw[ON]at this;exact this.trans (Cb ns).symm
    refine p1.eq_of_pairwise (λa b _ _ h1 h2=>iS h1 h2) ?_ (K6 ns);rw[Bc]
    refine so.imp λ{x y} hxy=>?_
    rw[gU]at hxy;simp at hxy;exact hxy
   rw[e1,e2];exact Am.of_ints _
 ·split at h
  ·rename_i rs hr
   cases h;obtain⟨i1,i2⟩:=U6 hr r;refine⟨Rw H,.inr i2,λout po so=>?_⟩
   have e2:out.map (Rw H)=NG rs:=by
    refine SI ?_ (Bc.mpr so) (QU rs);have:=po.map (Rw H);rw[i1]at this;exact this.trans (IF rs).symm
   rw[<-e2]
   exact U9 λv hv=>i2 v (po.mem_iff.mp hv)
  ·cases h
theorem Qw{K}{ρ}{H}:∀ks:List Key,Am K ρ H (ks.map W1) (ks.map kV)
 | []=>.nil
 | .inl i :: ks=>.cons (.int i) (Qw ks)
 | .inr x :: ks=>.cons (.str x) (Qw ks)
theorem NZ{K}{ρ}{H}:∀{f':List (Key×D)} {p8:List (Key×V)},KVR K ρ H f' p8->Am K ρ H (f'.map λx=>W1 x.1) (p8.map λx=>kV x.1)
 | _,_,.nil=>.nil
 | (k,_) :: _,(k',_) :: _,.cons r t=>by
  have e:k=k':=r.1;subst e
  cases k with
  | inl i=>exact .cons (.int i) (NZ t)
  | inr x=>exact .cons (.str x) (NZ t)
theorem Qv{K}{ρ}{H}:∀{f':List (List Key×D)} {p8:List (List Key×V)} {bs:List AU},KVR K ρ H f' p8->Fj (λ(k:List Key×V) b=>H b=some (.tup (k.1.map kV))) p8 bs->Am K ρ H (f'.map λx=>.tup (x.1.map W1)) (bs.map V.ref)
 | _,_,_,.nil,.nil=>.nil
 | (k,_) :: _,(k',_) :: _,_,.cons r t,.cons r2 t2=>by
  have e:k=k':=r.1;subst e;exact .cons (.tup r2 (Qw k)) (Qv t t2)
theorem L1(hc:X.calm=true)(hg:Gl X "sorted") (hm:X.mg "sorted" = none) (h:GE X E e m) (he:AX [e] X.env=(false,CH e X.env) :: AX [] X.env:=by rfl):GE X E (.Call (.Name "sorted" p) [e] [] pos) (HI m):=
 (LI (Zo hc) hg hm pX (FI h IS he) (by decide) (by decide) he rfl).imp λσ H Q ⟨ρ,l,S,hl,hs,hm⟩=>by
 refine⟨ρ,l,S,hl,hs,hm.seq λd S1 hm ρ1 H1 x l1 s1 r1=>?_⟩
 cases hq:KO d S1 with
 | none=>rw[hq]at hm;exact hm.elim
 | some ds=>
  rw[hq]at hm;dsimp only at hm
  cases hi:Ki ds with
  | none=>rw[hi]at hm;exact hm.elim
  | some es=>
   rw[hi]at hm
   have fin:∀vs:List V,Am X.K ρ1 H1 es vs->∀q,H1 q=none->Q (.ref q) (upd H1 q (.lst vs)):=λvs rr q hq=>by
    have le:Le X.K ρ1 H1 (ρ1++[q]) (upd H1 q (.lst vs)):=Le.alloc hq;obtain⟨s4,l4,vX⟩:=s1.alloc (ho:=.lst vs) (o:=.lst es) hq ⟨_,Bu,rr.mono le⟩;exact hm _ _ _ (l1.trans l4) s4 (.ref vX)
   have out:∀vs,Am X.K ρ1 H1 ds vs->∃f:V->List Int,vs.length < 64/\Sk H1 f vs/\∀out,out.Perm vs->out.Pairwise (λx y=>ltL (f y) (f x)=false)->∀l,H1 l=none->Q (.ref l) (upd H1 l (.lst out)):=λvs rr=>by
    obtain⟨f,k1,k2⟩:=ao hi rr;exact⟨f,by rw[<-rr.length];exact SJ hi,k1,λout po so=>fin out (k2 out po so)⟩
   cases r1 with
   | fro h1 h2=>cases hq;exact⟨_,rfl,.inl ⟨_,.inl h1.sq,out _ h2⟩⟩
   | tup h1 h2=>cases hq;exact⟨_,rfl,.inl ⟨_,.inr (.inl (.inl h1)),out _ h2⟩⟩
   | @ref n a hn=>
    obtain⟨o,ho,ro⟩:=s1.there hn;unfold KO at hq;simp only[ho]at hq
    cases o with
    | lst ys=>cases hq;obtain⟨vs,e,rr⟩:=ro;exact⟨_,rfl,.inl ⟨vs,.inl (.inl (.inl e)),out _ rr⟩⟩
    | dK f'=>cases hq;obtain⟨vs,e,rr⟩:=ro;exact⟨_,rfl,.inr (.inl ⟨vs,e,out _ (NZ rr)⟩)⟩
    | dT f'=>cases hq;obtain⟨vs,e,rr⟩:=ro;exact⟨_,rfl,.inr (.inr ⟨vs,e,λbs hb=>out _ (Qv rr hb)⟩)⟩
    | ins C fs=>cases hq
    | fK _=>cases hq
    | fT _=>cases hq
    | mem _=>cases hq
   | _=>cases hq
end
open PySem PySem.Spec PyProof.Rows
theorem cG{K}{t}(h:∀A∈["NoneType", "bool", "int", "str", "tuple", "list", "dict"],Et K (.type A) (.type t)=ik t A):∀A b,isB t A=some b->Et K (.type A) (.type t)=some b:=λA b e=>by
 unfold isB at e;split at e
 ·rename_i hA
  rw[h A (by simpa using hA)];exact e
 ·cases e
theorem gb{K}:∀A b,isB "int" A=some b->Et K (.type A) (.type "int")=some b:=cG λA h=>by
 simp only[AV,EJ,or_false]at h
 rcases h with rfl | rfl | rfl | rfl | rfl | rfl | rfl <;> kernel_rfl
theorem cH{K}:∀A b,isB "bool" A=some b->Et K (.type A) (.type "bool")=some b:=cG λA h=>by
 simp only[AV,EJ,or_false]at h
 rcases h with rfl | rfl | rfl | rfl | rfl | rfl | rfl <;> kernel_rfl
def am(K:AF):Sp:=λvs H Q _=>∃(a:AU) (ns:List Int),vs=[.ref a]/\R9 K H a (ns.map V.int)/\ns.length<=63/\∀H',Q (.bl true) H'
theorem b8{P}{w}{K}{mg}{base}{k}{fa}{fd}{f}(F:Cq P w K mg base (CXG P w) k fa fd ["script"] (spM K 1 f))
  (h:∀ns:List Int,ns.length<=63->∃S',f [.fro (ns.map D.int)] []=.ok (.bl true) S'):Cq P w K mg base (CXG P w) k fa fd ["script"] (am K):=F.imp λvs H Q E ⟨a,ns,e,hS,hl,q⟩=>by
 subst e;obtain⟨S',e⟩:=h ns hl;refine⟨[],[.fro (ns.map D.int)],[],rfl,.cons (.fro hS (Am.of_ints ns)) .nil,⟨rfl,λi j a hi=>by simp at hi,λn o a hn=>by simp at hn⟩,?_⟩;rw[e]
 exact λρ' H' x _ _ r=>by cases r;exact q H'
theorem lO{K:AF}{H:Hp}{a:AU}{ns:List Int}(hO:iI H)(hS:SqL K H a (ns.map V.int)):R9 K H a (ns.map V.int):=by
 rcases hS with(h | h) | h
 ·rcases hO a with z | ⟨o,xs,z⟩ <;> rw[z]at h <;> cases h
 ·exact .inl h
 ·exact .inr h
theorem lb(h:CXG P w [] H s (λ_ _ _=>False) e s'):False:=by
 obtain⟨_,_,_,_,_,_,_,_,_,z⟩:=h;exact z
open PySem
def iq(I:Lo->Sto->Prop)(R:Fl->Sto->Prop)(f:Fl)(S:Sto):Prop:=match f with
 | .nx e=>I e S
 | .ct e=>I e S
 | .bk e=>R (.nx e) S
 | .rt d=>R (.rt d) S
 | .ex c e=>R (.ex c e) S
theorem gp(I:Nat->Lo->Sto->Prop)(R:Fl->Sto->Prop)(hv:∀i e S,I i e S->v S=some xs)
  (step:∀i d e S,xs[i]?=some d->I i e S->∃e1 S1,g d e S=.ok e1 S1/\∃f S2,b e1 S1=.ok f S2/\iq (I (i+1)) R f S2)
  (fin:∀e S,I xs.length e S->R (.nx e) S):∀(k i:Nat) (e:Lo) (S:Sto),I i e S->i<=xs.length->xs.length<=i+k->∃f S',Kq v g b k i e S=.ok f S'/\R f S':=by
 intro k
 induction k with
 | zero=>
  intro i e S h h1 h2
  have:i=xs.length:=by lia
  subst this;refine⟨.nx e,S,?_,fin e S h⟩;unfold Kq;rw[hv _ e S h];simp
 | succ k ih=>
  intro i e S h h1 h2;unfold Kq;rw[hv _ e S h];dsimp only
  by_cases hi:i < xs.length
  ·have hd:xs[i]?=some xs[i]:=by simp[hi]
   rw[hd];dsimp only;obtain⟨e1,S1,q1,f,S2,q2,t⟩:=step i _ e S hd h;rw[q1];dsimp only[Res.bind];rw[q2];dsimp only[Res.bind]
   cases f with
   | nx e2=>exact ih (i+1) e2 S2 t (by lia) (by lia)
   | ct e2=>exact ih (i+1) e2 S2 t (by lia) (by lia)
   | bk e2=>exact⟨_,_,rfl,t⟩
   | rt d=>exact⟨_,_,rfl,t⟩
   | ex c e2=>exact⟨_,_,rfl,t⟩
  ·have:i=xs.length:=by lia
   subst this;rw[show xs[xs.length]?=none by simp];exact⟨.nx e,S,rfl,fin e S h⟩
theorem LV(I:Nat->Lo->Sto->Prop)(R:Fl->Sto->Prop)(h0:I 0 e S)(hv:∀i e S,I i e S->v S=some xs)
  (step:∀i d e S,xs[i]?=some d->I i e S->∃e1 S1,g d e S=.ok e1 S1/\∃f S2,b e1 S1=.ok f S2/\iq (I (i+1)) R f S2)
  (fin:∀e S,I xs.length e S->R (.nx e) S):∃f S',Kq v g b (Df v S) 0 e S=.ok f S'/\R f S':=by
 have hl:Df v S=xs.length:=by unfold Df;rw[hv 0 e S h0]
 rw[hl];exact gp I R hv step fin _ _ _ _ h0 (Dc _) (by lia)
theorem cw(I:Nat->Lo->Sto->List D->Prop)(hv:∀i e S acc,I i e S acc->v S=some xs)
  (step:∀i d e S acc,xs[i]?=some d->I i e S acc->acc.length < sizeLine/\∃e1 S1,g d e S=.ok e1 S1/\∃b S2,c e1 S1=.ok b S2/\((b=true/\∃y S3,m e1 S2=.ok y S3/\I (i+1) e1 S3 (acc++[y]))∨(b=false/\I (i+1) e1 S2 acc))) :
  ∀(k i:Nat) (e:Lo) (S:Sto) (acc:List D),I i e S acc->i<=xs.length->xs.length<=i+k->∃r S',Ft v g c m k i e S acc=.ok r S'/\∃e',I xs.length e' S' r:=by
 intro k
 induction k with
 | zero=>
  intro i e S acc h h1 h2
  have:i=xs.length:=by lia
  subst this;refine⟨acc,S,?_,e,h⟩;unfold Ft;rw[hv _ e S acc h];simp
 | succ k ih=>
  intro i e S acc h h1 h2;unfold Ft;rw[hv _ e S acc h];dsimp only
  by_cases hi:i < xs.length
  ·have hd:xs[i]?=some xs[i]:=by simp[hi]
   rw[hd];dsimp only;obtain⟨hz,e1,S1,q1,b,S2,q2,t⟩:=step i _ e S acc hd h;rw[qX hz,q1];dsimp only[okR,Res.bind];rw[q2];dsimp only[okR,Res.bind]
   rcases t with⟨rfl,y,S3,q3,t⟩ | ⟨rfl,t⟩
   ·rw[qX rfl,q3]
    exact ih (i+1) e1 S3 _ t (by lia) (by lia)
   ·rw[qY AI]
    exact ih (i+1) e1 S2 acc t (by lia) (by lia)
  ·have:i=xs.length:=by lia
   subst this;rw[show xs[xs.length]?=none by simp];exact⟨acc,S,rfl,e,h⟩
theorem YR(I:Nat->Lo->Sto->List D->Prop)(h0:I 0 e S [])(hv:∀i e S acc,I i e S acc->v S=some xs)
  (step:∀i d e S acc,xs[i]?=some d->I i e S acc->acc.length < sizeLine/\∃e1 S1,g d e S=.ok e1 S1/\∃b S2,c e1 S1=.ok b S2/\((b=true/\∃y S3,m e1 S2=.ok y S3/\I (i+1) e1 S3 (acc++[y]))∨(b=false/\I (i+1) e1 S2 acc))) :
  ∃r S',Ft v g c m (Df v S) 0 e S []=.ok r S'/\∃e',I xs.length e' S' r:=by
 have hl:Df v S=xs.length:=by unfold Df;rw[hv 0 e S [] h0]
 rw[hl];exact cw I hv step _ _ _ _ _ h0 (Dc _) (by lia)
theorem kg(h:-1000000<=j):-(2 ^ 62)<=j:=Int.le_trans (by decide) h
theorem lA{j:Int}(h:j<=1000000):j < 2 ^ 62:=Int.lt_of_le_of_lt h (by decide)
theorem cK{ml:ML}{e:Lo}{S S1:Sto}{j:Int}(h:ml e S=.ok [.int j] S1)(h0:-1000000<=j)(h1:j<=1000000):iR1 ml e S=.ok (Gs (IQ 0 j.toNat)) S1:=by
 unfold iR1;rw[h];dsimp only[Res.bind];rw[qX ⟨kg h0,lA h1⟩]
theorem k9{ml:ML}{e:Lo}{S S1:Sto}{i j:Int}(h:ml e S=.ok [.int i,.int j] S1)(h0:-1000000<=i)(h1:i<=1000000)(h2:-1000000<=j)(h3:j<=1000000):iR2 ml e S=.ok (Gs (IQ i (j - i).toNat)) S1:=by
 unfold iR2;rw[h];dsimp only[Res.bind];rw[qX ⟨kg h0,lA h1,kg h2,lA h3⟩]
theorem Y7(lo:Int)(n:Nat):(IQ lo n).length=n:=by simp[IQ]
theorem bA{lo:Int}{n i:Nat}{d:D}(h:(IQ lo n)[i]?=some d):i < n/\d=.int (lo+i):=by
 rw[SL]at h;split at h
 ·rename_i hi
  cases h;exact⟨hi,rfl⟩
 ·cases h
theorem cb(h:0 < j)(h1:j<=1000000):Nk (.int i) (.int j) S=.ok (.int (i / j)) S:=by
 show(if dJ i j then _ else _)=_;rw[qX ⟨h,by lia⟩]
theorem X2(h:0 < j):R3 (.int i) (.int j) S=.ok (.int (i % j)) S:=by
 show(if 0 < j then _ else _)=_;rw[qX h]
theorem En(ha:ma e S=.ok x S1)(hb:mb e S1=.ok y S2)(hf:f x y S2=.ok d S3):m2 f ma mb e S=.ok d S3:=by
 unfold m2;rw[ha];dsimp only[Res.bind];rw[hb];dsimp only[Res.bind];rw[hf];rfl
theorem K9(h:m e S=.ok d S1):DH i m e S=.ok (.nx (e.set i (some d))) S1:=by
 unfold DH nW;rw[h];rfl
theorem LF(h:m e S=.ok d S1):DM m e S=.ok (.rt d) S1:=by
 unfold DM;rw[h];rfl
theorem L6(h:m e S=.ok d S1):HR m e S=.ok (.nx e) S1:=by
 unfold HR;rw[h];rfl
theorem Gw(h:t e S=.ok c S1):sIf t a b e S=if c=true then a e S1 else b e S1:=by
 unfold sIf;rw[h];rfl
theorem cF(h:t e S=.ok c S1):VZ t a b e S=if c=true then a e S1 else b e S1:=by
 unfold VZ;rw[h];rfl
theorem JT(h:m e S=.ok v S1):Gk m g b e S=Kq v g b (Df v S1) 0 e S1:=by
 unfold Gk;rw[h];rfl
theorem KY(h:m e S=.ok ds S1)(hn:ds.length=n):CW n f m e S=f ds S1:=by
 unfold CW;rw[h];dsimp only[Res.bind];rw[qX hn]
theorem Bw(h:a e S=.ok (.nx e1) S1):BO a b e S=b e1 S1:=by unfold BO;rw[h];rfl
theorem TV(h:a e S=.ok (.rt d) S1):BO a b e S=.ok (.rt d) S1:=by unfold BO;rw[h];rfl
def Keeps(S S':Sto):Prop:=S.length<=S'.length/\∀j,j < S.length->S'[j]?=S[j]?
theorem Keeps.refl(S:Sto):Keeps S S:=⟨AK _,λ_ _=>rfl⟩
theorem Keeps.trans(a:Keeps S S1)(b:Keeps S1 S2):Keeps S S2:=⟨Aw a.1 b.1,λj h=>(b.2 j (AS h a.1)).trans (a.2 j h)⟩
theorem Keeps.app(S:Sto)(G:Sto):Keeps S (S++G):=⟨by simp,λj h=>Ao h⟩
theorem Keeps.set(a:Keeps S S1)(h:S.length<=m)(o:Ob):Keeps S (S1.set m o):=⟨by simpa using a.1,λj hj=>by rw[AY (by lia)];exact a.2 j hj⟩
theorem Keeps.at{S S1:Sto}(a:Keeps S S1){j:Nat}{o:Ob}(h:S[j]?=some o):S1[j]?=some o:=by
 rw[a.2 j (AE.mp h).1];exact h
theorem XN(h1:mo e S=.ok (.ref n) S1)(h2:S1[n]?=some (.lst xs))(h3:ma e S1=.ok y S2)(h4:S2[n]?=some (.lst xs2))(h5:xs2.length < sizeLine) :
  R4 mo ma e S=.ok .non (S2.set n (.lst (xs2++[y]))):=by
 unfold R4;rw[h1];dsimp only[Res.bind];rw[h2];dsimp only;rw[h3];dsimp only[Res.bind];rw[h4];dsimp only;rw[qX h5]
theorem Zg(h1:mo e S=.ok (.ref n) S1)(h2:S1[n]?=some (.lst xs))(h3:ma e S1=.ok (.ref k) S2)(h4:S2[n]?=some (.lst xs2))(h5:S2[k]?=some (.lst ys))(hk:k≠n)(h6:xs2.length+ys.length<=sizeLine) :
  NW mo ma e S=.ok .non (S2.set n (.lst (xs2++ys))):=by
 unfold NW;rw[h1];dsimp only[Res.bind]
 have a1:atL (.ref n) S1=some (n,xs):=by unfold atL;dsimp only;rw[h2]
 have a2:atL (.ref n) S2=some (n,xs2):=by unfold atL;dsimp only;rw[h4]
 have a3:atL (.ref k) S2=some (k,ys):=by unfold atL;dsimp only;rw[h5]
 rw[a1];dsimp only;rw[h3];dsimp only[Res.bind];rw[a2,a3];dsimp only;rw[qX ⟨hk,h6⟩]
theorem eS(h:xs.length+ys.length<=sizeLine):Jr (.tup xs) (.tup ys) S=.ok (.tup (xs++ys)) S:=by
 unfold Jr;dsimp only;rw[qX h]
theorem Dt(h:S[n]?=some (.lst xs)):Ex (.ref n) S=some xs:=by
 unfold Ex Oo;dsimp only;rw[h]
theorem LR(h:m e S=.ok (.ref n) S1)(hx:S1[n]?=some (.lst xs)):Eo m e S=.ok (Ex (.ref n)) S1:=by
 unfold Eo;rw[h];dsimp only[Res.bind];rw[Dt hx]
theorem Q0(h:m e S=.ok (.tup xs) S1):Eo m e S=.ok (Gs xs) S1:=by
 unfold Eo;rw[h];rfl
theorem Wv(h:ml e S=.ok ds S1):FP ml e S=.ok (.ref S1.length) (S1++[.lst ds]):=by
 unfold FP;rw[h];rfl
theorem FQ(S:Sto)(o:Ob):(S++[o])[S.length]?=some o:=by simp
theorem IG(h:S[n]?=some (.lst ds)):GF (.ref n) S=some ds:=by
 unfold GF;dsimp only;rw[h]
theorem W3(h:S[n]?=some (.lst ds)):KO (.ref n) S=some ds:=by
 unfold KO;dsimp only;rw[h]
theorem OA(h:m e S=.ok d S1)(hi:KO d S1=some ds)(hs:Ki ds=some es):HI m e S=.ok (.ref S1.length) (S1++[.lst es]):=by
 unfold HI;rw[h];dsimp only[Res.bind];rw[hi];dsimp only;rw[hs]
theorem NF(h:m e S=.ok d S1)(hq:GF d S1=some ds):Hh m e S=.ok (.tup ds) S1:=by
 unfold Hh;rw[h];dsimp only[Res.bind];rw[hq]
theorem b6(h:m e S=.ok d S1)(hq:GF d S1=some ds):PY m e S=.ok (.int ds.length) S1:=by
 unfold PY;rw[h];dsimp only[Res.bind];rw[hq]
theorem Ps(hv:mv e S=.ok v S1)(ho:mo e S1=.ok (.ref n) S2)(hs:S2[n]?=some (.ins C fs))(hl:fs.length < 1000) :
  Iz C f mo mv e S=.ok (.nx e) (S2.set n (.ins C (Io f v fs))):=by
 unfold Iz;rw[hv];dsimp only[Res.lift];rw[ho];dsimp only[Res.lift];rw[hs];dsimp only;rw[qX ⟨rfl,hl⟩]
theorem JU(h:m e S=.ok (.ref n) S1)(hs:S1[n]?=some (.ins C fs))(hl:fs.lookup f=some v):DJ C f m e S=.ok v S1:=by
 unfold DJ;rw[h];dsimp only[Res.bind];rw[hs];dsimp only;rw[qX rfl,hl]
theorem X4(h:ml e S=.ok ds S1)(hn:ds.length+1=n)(hf:f (.ref S1.length :: ds) (S1++[.ins C []])=.ok .non S2):Ou C n f ml e S=.ok (.ref S1.length) S2:=by
 unfold Ou;rw[h];dsimp only[Res.bind];rw[qX hn,hf]
theorem CV(h:m e S=.ok d S1)(hr:r e S1=.ok ds S2):AT m r e S=.ok (d :: ds) S2:=by
 unfold AT;rw[h];dsimp only[Res.bind];rw[hr]
theorem UE(h:mi e S=.ok v S1):EM n mi g c m e S=Ft v g c m (Df v S1) 0 (Bf n none++e) S1 []:=by
 unfold EM;rw[h];rfl
theorem UO(h:m e S=.ok (.bl b) S1):mB m e S=.ok b S1:=by
 unfold mB;rw[h];rfl
theorem ii(ha:ma e S=.ok x S1)(hb:mb e S1=.ok y S2)(hf:f x y S2=.ok (.bl true) S3)(hc:mc e S3=.ok w S4)(hg:g y w S4=.ok d S5):m3 f g ma mb mc e S=.ok d S5:=by
 unfold m3;rw[ha];dsimp only[Res.bind];rw[hb];dsimp only[Res.bind];rw[hf];dsimp only[Res.bind,okR];rw[hc];dsimp only[Res.bind];rw[hg]
theorem oR(ha:ma e S=.ok x S1)(hb:mb e S1=.ok y S2)(hf:f x y S2=.ok (.bl false) S3):m3 f g ma mb mc e S=.ok (.bl false) S3:=by
 unfold m3;rw[ha];dsimp only[Res.bind];rw[hb];dsimp only[Res.bind];rw[hf];rfl
theorem b7(h:decide (i<=j)=b):leD (.int i) (.int j) S=.ok (.bl b) S:=by subst h;rfl
theorem ke(h:decide (i < j)=b):ltD (.int i) (.int j) S=.ok (.bl b) S:=by subst h;rfl
theorem lN(h:decide (j<=i)=b):geD (.int i) (.int j) S=.ok (.bl b) S:=by subst h;rfl
theorem lT(h:decide (i=j)=b):eqD false (.int i) (.int j) S=.ok (.bl b) S:=by
 subst h;show Res.ok (D.bl (i==j)) S=_;rfl
theorem Ml(h:m e S=.ok b S1):PX m e S=.ok (!b) S1:=by
 unfold PX;rw[h];rfl
theorem aX(h:ml e S=.ok ds S1)(hl:ds.length<=1000):Kp ml e S=.ok (.tup ds) S1:=by
 unfold Kp;rw[h];dsimp only[Res.bind];rw[qX (Aw hl (by decide))]
theorem kJ(h:ta e S=.ok true S1):mOr ta tb e S=.ok true S1:=by
 unfold mOr;rw[h];rfl
theorem bX(h:ta e S=.ok false S1):mOr ta tb e S=tb e S1:=by
 unfold mOr;rw[h];rfl
theorem UJ(h:ta e S=.ok true S1):NX ta tb e S=tb e S1:=by
 unfold NX;rw[h];rfl
theorem YW(h:ta e S=.ok false S1):NX ta tb e S=.ok false S1:=by
 unfold NX;rw[h];rfl
theorem fD(h:ml e S=.ok ds S1)(hf:f ds S1=.ok d S2):mQ f ml e S=.ok d S2:=by
 unfold mQ;rw[h];dsimp only[Res.bind];rw[hf];rfl
theorem Vb(h:S[n]?=some (.lst ds)):Qu (.ref n) S=some ds:=by
 unfold Qu;dsimp only;rw[h]
open PySem PySem.Spec PyProof.Rows
section
variable{X:Cx}{E:EW}{e:Expr}{p pos:Pos}{m:ME}
def ZO(m:ME):ME:=λe S=>(m e S).bind λd S1=>match d with
 | .int i=>.ok (.int i) S1
 | .bl k=>.ok (.int (if k then 1 else 0)) S1
 | _=>.bad
theorem UA(hg:Gl X "int") (hm:X.mg "int" = none) (h:GE X E e m) (he:AX [e] X.env=(false,CH e X.env) :: AX [] X.env:=by rfl):GE X E (.Call (.Name "int" p) [e] [] pos) (ZO m):=
 (SM Zr hg hm P6 (FI h IS he) (by decide) (by decide) he rfl).imp λσ H Q ⟨ρ,l,S,hl,hs,hm⟩=>by
 refine⟨ρ,l,S,hl,hs,hm.seq λd S1 hm ρ1 H1 x l1 s1 r1=>?_⟩
 cases d <;> first | exact hm.elim | skip
 ·cases r1
  exact .inr ⟨_,rfl,hm ρ1 H1 _ l1 s1 (.int _)⟩
 ·cases r1
  exact .inl ⟨_,rfl,hm ρ1 H1 _ l1 s1 (.int _)⟩
end
end L2
namespace PySem
open Sem (wp)
open AutoSeq1 (wpAny_loadPart')
theorem LO(l:AU)(items:Array AH)(n:Nat)(w8:Option AU)(sl:Array (Option AH)) :
  Meets (mR.«enumerate.__new__» ⟨[.type "enumerate",.ref l],[]⟩) (λ_ R s=>s.heap.get? l=some { cls:=.type "tuple",dict:=w8,data:=.seq items n,slots:=sl } /\
   R (.ok (.ret (.ref (s.heap.push { cls:=.type "tuple_iterator",data:=.fields #[.ref l,.int 0 0] }).objs.size)))
    { s with heap:=(s.heap.push { cls:=.type "tuple_iterator",data:=.fields #[.ref l,.int 0 0] }).push { cls:=.type "enumerate",data:=.fields #[.none,.bool false,.ref s.heap.objs.size,Nx 0,.none,.none] } }):=
 .of_wp λprog w A R s h=>by
  obtain⟨hp,g,d,tk,os⟩:=s;obtain⟨hl,h⟩:=h;have t6:=sub_enumerate;have hL:Cu.IsTuple (AL.heap ⟨hp,g,d,tk,os⟩) l items:=⟨_,hl,rfl,n,rfl⟩
  wp_walk using Mz hl
  refine wpAny_stack_any λst=>AM ?_
  split
  ·rename_i c _ _ _ _ _
   cases(c==Fy "enumerate")
   ·wp_walk using Mz hl,Ju hL
    exact⟨_,rfl,h⟩
   ·wp_walk using Mz hl,Ju hL
    exact⟨_,rfl,h⟩
  ·wp_walk using Mz hl,Ju hL
   exact⟨_,rfl,h⟩
section
variable{w:Bx}{A:CC}{E:AH->AL->Prop}{s:AL}
theorem Lc(hL:s.heap.IsTuple l items)
  (h:∀h',S6 h' (s.heap.objs.size+1) s.heap.objs.size 0 .none->h'.IsTupleIter s.heap.objs.size l 0->h'.objs.size=s.heap.objs.size+2 ->
   (∀b o,s.heap.get? b=some o->h'.get? b=some o)->Q (.ref (s.heap.objs.size+1)) { s with heap:=h' }) :
  Ae (Ak prog w) A (call (.type "enumerate") [.ref l]) Q E s:=by
 obtain⟨⟨c,w8,dt,sl⟩,hl,hc,n,hd⟩:=hL
 replace hc:c=.type "tuple":=hc
 replace hd:dt=.seq items n:=hd
 subst hc hd
 refine callType_new F.called_enumerate (by decide) (F.typeCall_enumerate_1 _) (F.newCall_enumerate_1 _) (λobj=>F.args_object_init_2 obj _) F.entry_enumerate_new
  (LO l items n w8 sl) ⟨hl,?_⟩
 have hz:(s.heap.push { cls:=.type "tuple_iterator",data:=.fields #[.ref l,.int 0 0] }).objs.size=s.heap.objs.size+1:=EL ..;show _/\_;rw[hz]
 have he:S6 ((s.heap.push { cls:=.type "tuple_iterator",data:=.fields #[.ref l,.int 0 0] }).push
   { cls:=.type "enumerate",data:=.fields #[.none,.bool false,.ref s.heap.objs.size,Nx 0,.none,.none] }) (s.heap.objs.size+1) s.heap.objs.size 0 .none:=by
  have:=Af (s.heap.push { cls:=.type "tuple_iterator",data:=.fields #[.ref l,.int 0 0] })
   (o:={ cls:=.type "enumerate",data:=.fields #[.none,.bool false,.ref s.heap.objs.size,Nx 0,.none,.none] }) rfl
  rw[hz]at this;exact this
 refine⟨⟨_,he,rfl⟩,h _ he ⟨_,AR _ (Af _ rfl),rfl,rfl⟩ (by rw[EL,hz]) λb o x=>AR _ (AR _ x)⟩
theorem NU{it t}{i}{items}{x}{Q}(hit:s.heap.IsTupleIter it t i)
  (ht:s.heap.IsTuple t items) (hx:items[i]?=some x)
  (hQ:∀h',h'.IsTupleIter it t (i+1)->EZ it s.heap h'->Q x { s with heap:=h' }) :
  Ae (Ak prog w) A (ES (.ref it)) Q E s:=by
 obtain⟨o,ho,hc,hd⟩:=id hit;obtain⟨ol,w9,_,nl,wa⟩:=ht;unfold ES
 refine AB (DZ (name:=Il "__next__") hit.typeIs FY
  (Dv FY hit.typeIs UR ?_ (S8 _)))
 show Ae _ _ (field (.ref it) 0 >>= _) _ _ s;refine AB (HC ho hd (x:=.ref t) rfl ?_);show Ae _ _ (if (BA t==DO)=true then _ else _) _ _ s;rw[qY (show ¬((BA t==DO)=true)from AI)];show Ae _ _ (field (.ref it) 1 >>= _) _ _ s;refine AB (HC ho hd (x:=.int i 0) rfl ?_);show Ae _ _ (seqItems? (.ref t) >>= _) _ _ s;refine AB (wpAny_seqItems w9 wa ?_);simp only[Aq,hx];refine AB (Nu ho hd (by simp) (AM ⟨x,rfl,AM (hQ _ ?_ (G1 ..))⟩))
 exact⟨_,Lp _ ho (Xc (JJ hd _)),(dM ..).trans hc,by
  rw[JJ hd];simp[Nx]⟩
theorem Jn{it t}{i}{items}{Q}(hh:A.handled=none)
  (hit:s.heap.IsTupleIter it t i) (ht:s.heap.IsTuple t items) (hx:items[i]?=none)
  (hE:∀h' e,Xe it s.heap h'->(∃o,h'.get? e=some o/\o.cls=.type "StopIteration")->E (.ref e) { s with heap:=h' }) :
  Ae (Ak prog w) A (ES (.ref it)) Q E s:=by
 obtain⟨o,ho,hc,hd⟩:=id hit;obtain⟨ol,w9,_,nl,wa⟩:=ht;unfold ES
 refine AB (DZ (name:=Il "__next__") hit.typeIs FY
  (Dv FY hit.typeIs UR ?_ (S8 _)))
 show Ae _ _ (field (.ref it) 0 >>= _) _ _ s;refine AB (HC ho hd (x:=.ref t) rfl ?_);show Ae _ _ (if (BA t==DO)=true then _ else _) _ _ s;rw[qY (show ¬((BA t==DO)=true)from AI)];show Ae _ _ (field (.ref it) 1 >>= _) _ _ s;refine AB (HC ho hd (x:=.int i 0) rfl ?_);show Ae _ _ (seqItems? (.ref t) >>= _) _ _ s;refine AB (wpAny_seqItems w9 wa ?_);simp only[Aq,hx];refine AB (iu (AB (Nu ho hd (by simp) ?_)));show Ae _ _ (newExc (.type "StopIteration") [] >>= _) _ _ _;refine AB ?_;simp only[newExc,newTuple];refine AB (Ce ?_ (by size_fits));refine AB (m:=Ny _ _) (wpAny_of_eq (a:=DO) (by first | rfl | (simp only[Ny];rfl)) ?_);refine Ce ?_ (by size_fits);simp only[raiseNew];refine AB (wpAny_handled ?_)
 first | rw[show A.in1.handled=none from hh] | rw[hh]
 refine AB (AM (wpAny_throw ?_));exact hE _ _ (((G1 ..).extBut.push _).push _) ⟨_,Af _ rfl,rfl⟩
theorem Vx(hh:A.handled=none)(it l:AU)(qp:l≠it)(items:Array AH) :
  Draws prog w A it [it,l] items.size (λi v=>items[i]?=some v) (λi h=>h.IsTupleIter it l i/\h.IsTuple l items) where
 live:=λ_ _ st=>let ⟨o,ho,_⟩:=st.1;⟨o,ho⟩
 frame:=λ_ _ _ st hk=>⟨st.1.at λo e=>hk it (by simp) o e,let ⟨o,ho,r⟩:=st.2;⟨o,hk l (by simp) o ho,r⟩⟩
 item:=λi s Q E hi st hQ=>by
  refine NU st.1 st.2 (x:=items[i]) (by simp[hi]) λh' tf t9=>?_
  exact hQ _ h' s.toks (by simp[hi]) ⟨tf,st.2.extBut t9.extBut qp⟩ t9
 done:=λs Q E st hE=>Jn hh st.1 st.2 (by simp) hE
theorem MB{e it l:AU}{i:Nat}{items:Array AH}{old:AH}{Q:Option AH->AL->Prop}(hh:A.handled=none)
  (he:S6 s.heap e it i old) (hit:s.heap.IsTupleIter it l i) (hl:s.heap.IsTuple l items) (hx:items[i]?=none)
  (hQ:∀h',Xe it s.heap h'->Q none { s with heap:=h' }):Ae (Ak prog w) A (Sn (.ref e)) Q E s:=by
 have hT:s.TypeIs (.ref e) "enumerate":=⟨_,he,rfl⟩;unfold Sn
 refine AB (Pj (DZ (name:=Il "__next__") hT Z3
  (Dv Z3 hT F.entry_enumerate_next ?_ (F.args_enumerate_next_1 _))))
 show Ae _ _ (field (.ref e) 2 >>= _) _ _ _;refine AB (HC he rfl (x:=.ref it) rfl ?_);refine AB (Jn hh hit hl hx λh' x w6 tj=>?_);obtain⟨o,ho,hc⟩:=tj;refine AB (mU (T:="StopIteration") (b:=true) ⟨o,ho,hc⟩ isSubtype_stop ?_);exact AM (hQ _ w6)
end
end PySem
namespace L2
open PySem PySem.Spec PyProof.Rows
theorem Inv.turned2(I:Inv X ζ σ H s)(k:∀b u,b≠e->b≠it->s.heap.get? b=some u->h'.get? b=some u)
  (fe:Mw X ζ H e) (fi:Mw X ζ H it) (ha:s.heap.objs.size<=a) (new:Cj X.prog X.w (upd H a o) h' a o):Inv X ζ σ (upd H a o) { s with heap:=h',toks:=t' }:=by
 have hn:=I.hok.fresh ha
 have tU:∀b u,H b=some u->b≠e/\b≠it:=λb u q=>⟨λz=>(by rw[z,fe.1]at q;cases q),λz=>(by rw[z,fi.1]at q;cases q)⟩
 have out:∀b:AU,b∉[e,it]->b≠e/\b≠it:=λb hb=>⟨λz=>hb (by simp[z]),λz=>hb (by simp[z])⟩
 refine I.step (g':=s.gens) (d':=s.drawn) (ch:=[e,it]) (λb hb=>?_) (λb o _ _ hc q _=>k b o (out b hc).1 (out b hc).2 q) (λb o _ _ hc q _=>⟨o.slots,k b o (out b hc).1 (out b hc).2 q⟩) (λb o _ q n=>?_)
  (λb o hc q=>⟨o,k b o (out b hc).1 (out b hc).2 q⟩) (λb xs q=>by rw[BX (CP q hn)];exact q) (λb o u q=>by rw[BX (CP q hn)];exact q) (λb ps q=>⟨#[],by rw[BX (CP q hn),q];simp⟩) (λm hm=>?_) (λb u q=>?_) I.bare
 ·have qg:b=e∨b=it:=by simpa using hb
  rcases qg with z | z
  ·subst z;exact⟨fe.2.2.2.1,fe.2.1,fe.2.2.2.2.1,fe.2.2.2.2.2⟩
  ·subst z;exact⟨fi.2.2.2.1,fi.2.1,fi.2.2.2.2.1,fi.2.2.2.2.2⟩
 ·rw[BX (BB (AS (Ad q) ha))];exact n
 ·obtain⟨o,es,ep,ho,r⟩:=hm
  exact⟨o,es,ep,k _ o (CF fe.2.1) (CF fi.2.1) ho,r⟩
 ·by_cases hb:b=a
  ·subst hb;rw[Bu]at q;cases q;exact new
  ·rw[BX hb]at q
   refine(I.hok b u q).stay (λc v hc r=>?_) (λc r=>by rw[BX (CP r hn)];exact r) λc xs r=>by rw[BX (CP r hn)];exact r
   have:c≠e/\c≠it:=by
    rcases hc with z | z
    ·rw[z];exact tU b u q
    ·exact tU c _ z
   exact k c v this.1 this.2 r
def Ite(sq:Hp->List V->Prop):It:=
 ⟨λi H=>∃xs x,sq H xs/\xs[i]?=some x,λi H y H'=>∃p x,H p=none/\y=.ref p/\H'=upd H p (.tup [.int i,x])/\∀xs,sq H xs->xs[i]?=some x,λi H=>∃xs,sq H xs/\xs.length<=i⟩
section
variable{P:Ba}{w:Bx}{K:AF}{elts:List Expr}{x1:Nat}{pos:Pos}
theorem Sb{X:Cx}{ζ:List (AU×Obj)}{σ:St}{H:Hp}{s:AL}{E:AH->AL->Prop}{sq:Hp->List V->Prop}{e it:AU}{i:Nat}{x:V}{u:AH}{tk:Nat}{h':Cu}{tn:Nat->Cu->Prop}
  (I:Inv X ζ σ H s) (qp:e≠it) (hf:∀b∈[e,it],Mw X ζ H b) (le:e < s.heap.objs.size) (li:it < s.heap.objs.size) (ru:RelV x u) (hx:∀xs,sq H xs->xs[i]?=some x)
  (ho:IsEnumOut h' e it ((i:Int)+1) u s.heap.objs.size) (hT:h'.get? s.heap.objs.size=some { cls:=.type "tuple",data:=.seq #[.int i tk,u] }) (hk:∀b o,b≠e->b≠it->s.heap.get? b=some o->h'.get? b=some o)
  (ht:∀h2,EZ e h' h2->(∃old,S6 h2 e it ((i+1:Nat):Int) old)->tn (i+1) h2) :
  Ae (Ak X.prog X.w) X.A (M1 (.Tuple elts x1 pos) (.ref e) (.ref s.heap.objs.size)) (λ_ s2=>∃y H',Inv X ζ σ H' s2/\RelV y (.ref s.heap.objs.size)/\(Ite sq).yld i H y H'/\tn (i+1) s2.heap/\∀b∈[e,it],H' b=none) E { s with heap:=h',toks:=tk+1 }:=by
 have fe:=hf e (by simp);have fi:=hf it (by simp);have ne:e≠s.heap.objs.size:=BB le;have ni:it≠s.heap.objs.size:=BB li
 have new:Cj X.prog X.w (upd H s.heap.objs.size (.tup [.int i,x])) h' s.heap.objs.size (.tup [.int i,x]):=
  ⟨⟨Aw (show 2<=1000 by decide) (by decide),_,hT,rfl⟩,[.int i tk,u],.cons ⟨tk,rfl⟩ (.cons ru .nil),_,hT,rfl,_,rfl⟩
 have I1:=I.turned2 (t':=tk+1) hk fe fi (AK _) new
 refine wpAny_letOwnedTupleGo_enum (s:={ s with heap:=h',toks:=tk+1 }) ho λh2 tp qz=>?_
 have um:EZ e h' h2:=qz;have I2:=I1.turned (t':=tk+1) (h':=h2) (it:=e) (λb o hb q=>(um.2 b hb).trans q) (by rw[BX ne];exact fe.1) fe.2.1 fe.2.2.2.1 fe.2.2.2.2.1 fe.2.2.2.2.2;refine⟨.ref s.heap.objs.size,_,I2,rfl,⟨s.heap.objs.size,x,I.hok.fresh (AK _),rfl,rfl,hx⟩,ht h2 um ⟨u,by rw[Int.natCast_add,Int.natCast_one];exact tp⟩,λb hb=>?_⟩
 have qg:b=e∨b=it:=by simpa using hb
 rcases qg with z | z
 ·rw[z,BX ne];exact fe.1
 ·rw[z,BX ni];exact fi.1
theorem WV(a e it:AU)(qp:e≠it):UK P w K (.Tuple elts x1 pos) (Ite λH xs=>SqL K H a xs) [e,it] e (λi h=>(∃old,S6 h e it i old)/\h.IsListIter it a i) where
 mem:=by simp
 obj:=λi h st b hb=>by
  have qg:b=e∨b=it:=by simpa using hb
  rcases qg with z | z
  ·subst z
   obtain⟨⟨old,he⟩,_⟩:=st
   exact⟨_,he,λv z=>by
    have z':Xf _=dO v:=z
    cases z'⟩
  ·subst z
   obtain⟨_,o,e,c,d⟩:=st;exact⟨o,e,λv z=>by rw[d]at z;cases z⟩
 keep:=λi h h' st k=>⟨st.1.imp λold he=>k e (by simp) _ he,st.2.at λo q=>k it (by simp) o q⟩
 item:=by
  intro X hP hw hK hc i ζ s σ H E I hf st hg;subst hP hw hK;obtain⟨xs,x,hq,hx⟩:=hg;obtain⟨i',rv,p,hz⟩:=I.list hq;obtain⟨u,hu,ru⟩:=rv.get hx;obtain⟨⟨old,he⟩,hit⟩:=st
  have li:it < s.heap.objs.size:=by obtain⟨o,q,_⟩:=hit;exact Ad q
  refine wpAny_pyNext_enum_item he hit p.isList (x:=u) (by simpa using hu) qp λh' ho tf hT hsz hk=>?_
  exact⟨_,rfl,Sb (sq:=λH xs=>SqL X.K H a xs) (tn:=λi h=>(∃old,S6 h e it i old)/\h.IsListIter it a i) I qp hf (Ad he) li ru (λys hy=>by rw[I.list_inj hy hq];exact hx) ho hT hk λh2 qz tp=>⟨tp,tf.at λo q=>(qz.2 it (CF qp)).trans q⟩⟩
 done:=by
  intro X hP hw hK hc i ζ s σ H E I hf st hg;subst hP hw hK;obtain⟨xs,hq,hx⟩:=hg;obtain⟨i',rv,p,hz⟩:=I.list hq;obtain⟨⟨old,he⟩,hit⟩:=st;obtain⟨f0,f1,f2,f3,f4,f5⟩:=hf it (by simp);have hl:=rv.length
  exact wpAny_pyNext_enum_end (I.ok.hd hc) he hit p.isList (by simp;lia) λh' eb=>⟨rfl,I.turned (t':=s.toks) (λb o hb e=>eb b o hb e) f0 f1 f3 f4 f5⟩
 self:=λ_ _ _ _ _ st h=>by
  obtain⟨⟨old,he⟩,_⟩:=st;exact Ks he h
theorem WU(a e it:AU)(qp:e≠it)(zK:a≠it)(zL:e≠a):UK P w K (.Tuple elts x1 pos) (Ite λH xs=>SqT K H a xs) [e,it] e (λi h=>(∃old,S6 h e it i old)/\h.IsTupleIter it a i) where
 mem:=by simp
 obj:=λi h st b hb=>by
  have qg:b=e∨b=it:=by simpa using hb
  rcases qg with z | z
  ·subst z
   obtain⟨⟨old,he⟩,_⟩:=st
   exact⟨_,he,λv z=>by
    have z':Xf _=dO v:=z
    cases z'⟩
  ·subst z
   obtain⟨_,o,e,c,d⟩:=st;exact⟨o,e,λv z=>by rw[d]at z;cases z⟩
 keep:=λi h h' st k=>⟨st.1.imp λold he=>k e (by simp) _ he,st.2.at λo q=>k it (by simp) o q⟩
 item:=by
  intro X hP hw hK hc i ζ s σ H E I hf st hg;subst hP hw hK;obtain⟨xs,x,hq,hx⟩:=hg;obtain⟨i',rv,p,hz⟩:=I.tuple hq;have p':s.heap.IsTuple a i'.toArray:=p;obtain⟨u,hu,ru⟩:=rv.get hx
  have qt:i < i'.toArray.size:=by
   have:=(AE.mp hu).1;simpa using this
  obtain⟨⟨old,he⟩,hit⟩:=st
  have li:it < s.heap.objs.size:=by obtain⟨o,q,_⟩:=hit;exact Ad q
  refine wpAny_pyNext_enum_itemD (Vx (A:=X.A.in1) (I.ok.hd hc) it a zK i'.toArray) he ⟨hit,p'⟩ qt qp (by simp[qp,zL]) λu' h' tk zM ho wb hT hsz hk=>?_
  have:u'=u:=by
   have xU:i'[i]?=some u':=by simpa using zM
   rw[hu]at xU;cases xU;rfl
  subst this;exact⟨_,rfl,Sb (sq:=λH xs=>SqT X.K H a xs) (tn:=λi h=>(∃old,S6 h e it i old)/\h.IsTupleIter it a i) I qp hf (Ad he) li ru (λys hy=>by rw[I.tuple_inj hy hq];exact hx) ho hT hk λh2 qz tp=>⟨tp,wb.1.at λo q=>(qz.2 it (CF qp)).trans q⟩⟩
 done:=by
  intro X hP hw hK hc i ζ s σ H E I hf st hg;subst hP hw hK;obtain⟨xs,hq,hx⟩:=hg;obtain⟨i',rv,p,hz⟩:=I.tuple hq;obtain⟨⟨old,he⟩,hit⟩:=st;obtain⟨f0,f1,f2,f3,f4,f5⟩:=hf it (by simp);have hl:=rv.length
  exact MB (I.ok.hd hc) he hit (show s.heap.IsTuple a i'.toArray from p) (by simp;lia) λh' eb=>⟨rfl,I.turned (t':=s.toks) (λb o hb e=>eb b o hb e) f0 f1 f3 f4 f5⟩
 self:=λ_ _ _ _ _ st h=>by
  obtain⟨⟨old,he⟩,_⟩:=st;exact Ks he h
end
section
variable{X:Cx}{E:EW}{e:Expr}{elts:List Expr}{x1:Nat}{p pos xV:Pos}{ta:TA}
def oq(K:AF)(ta:TA):TI:=λσ H R=>ta σ H λvs H1=>∃a,vs=[.ref a]/\(((∃xs,SqL K H1 a xs)/\R (Ite λH xs=>SqL K H a xs) H1)∨((∃xs,SqT K H1 a xs)/\R (Ite λH xs=>SqT K H a xs) H1))
theorem fQ(hg:Gl X "enumerate") (hm:X.mg "enumerate" = none) (ha:PA X [e] ta) (hs:AX [e] X.env=[(false,CH e X.env)]:=by rfl):PI X (.Tuple elts x1 xV) (.Call (.Name "enumerate" p) [e] [] pos) (oq X.K ta):=by
 intro ζ s σ H R I h;refine Call_ (OQ I hg hm boot_enumerate (ER (thn (ha pos ζ s σ H _ I h) λus s1 ⟨vs,H1,I1,r1,q1⟩=>?_) hs rfl));obtain⟨a,rfl,q1⟩:=q1;obtain⟨u,rfl,ru⟩:=vals1 r1;cases ru
 have fp:∀{h':Cu} (b:AU),b∈[s1.heap.objs.size+1,s1.heap.objs.size]->Mw X ζ H1 b:=λb hb=>by
  have qg:b=s1.heap.objs.size+1∨b=s1.heap.objs.size:=by simpa using hb
  rcases qg with z | z
  ·rw[z];exact I1.fpOk (MY _) (I1.hok.fresh (MY _))
  ·rw[z];exact I1.fpOk (AK _) (I1.hok.fresh (AK _))
 rcases q1 with⟨⟨xs,sq⟩,q⟩ | ⟨⟨xs,sq⟩,q⟩
 ·obtain⟨i',rv,pl,hz⟩:=I1.list sq
  refine call_enumerate_list pl.isList λh' he hit hsz hk=>Ks he ?_
  exact⟨_,[s1.heap.objs.size+1,s1.heap.objs.size],_,_,H1,rfl,I1.kept (t':=s1.toks) hk,WV a _ _ (da _),⟨⟨_,he⟩,hit⟩,fp (h':=h'),q⟩
 ·obtain⟨i',rv,pl,hz⟩:=I1.tuple sq
  have xW:s1.heap.IsTuple a i'.toArray:=pl
  have la:a < s1.heap.objs.size:=by obtain⟨o,q,_⟩:=xW;exact Ad q
  refine Lc xW λh' he hit hsz hk=>Ks he ?_
  exact⟨_,[s1.heap.objs.size+1,s1.heap.objs.size],_,_,H1,rfl,I1.kept (t':=s1.toks) hk,WU a _ _ (da _) (BB la) (Ec (O4 la)),⟨⟨_,he⟩,hit⟩,fp (h':=h'),q⟩
def RK(ds:List D):List D:=ds.zipIdx.map λx=>.tup [.int x.2,x.1]
def Op(v:Pd):Pd:=λS=>(v S).map RK
def LS(m:ME):MI:=λe S=>(m e S).bind λd S1=>match Ex d S1 with
 | some _=>.ok (Op (Ex d)) S1
 | none=>.bad
theorem RJ(ds:List D)(i:Nat):(RK ds)[i]?=(ds[i]?).map λd=>.tup [.int i,d]:=by
 unfold RK;rw[Aa,Hl]
 cases ds[i]? <;> simp
theorem On{K}{ρ}{H}{J}{v}{sq}(hJ:Mv K ρ H J v)(h1:∀i H,J.go i H->∃xs x,sq H xs/\xs[i]?=some x)(h2:∀i H,J.stop i H->∃xs,sq H xs/\xs.length<=i)
  (h3:∀i H x,(∀xs,sq H xs->xs[i]?=some x)->J.yld i H x H):Mv K ρ H (Ite sq) (Op v):=by
 intro ρ2 H2 S ds i l s hv;unfold Op at hv
 cases hd:v S with
 | none=>rw[hd]at hv;cases hv
 | some ds0=>
  rw[hd]at hv;cases hv;obtain⟨a1,a2⟩:=hJ ρ2 H2 S ds0 i l s hd;refine⟨λhn=>?_,λd rC=>?_⟩
  ·rw[RJ]at hn
   refine h2 i H2 (a1 ?_)
   cases hq:ds0[i]? with
   | none=>rfl
   | some d=>rw[hq]at hn;cases hn
  ·rw[RJ]at rC
   cases hq:ds0[i]? with
   | none=>rw[hq]at rC;cases rC
   | some d0=>
    rw[hq]at rC;cases rC;obtain⟨b1,b2⟩:=a2 d0 hq;refine⟨h1 i H2 b1,λy H' hy=>?_⟩;obtain⟨p,x,hp,rfl,rfl,hx⟩:=hy;obtain⟨ρ3,l3,s3,r3⟩:=b2 x H2 (h3 i H2 x hx);obtain⟨s4,l4⟩:=Ix (ho:=.tup [.int i,x]) s3 hp;exact⟨ρ3,l3.trans l4,s4,.tup Bu (.cons (.int _) (.cons (r3.mono l4) .nil))⟩
theorem YF(hg:Gl X "enumerate") (hm:X.mg "enumerate" = none) (h:GE X E e m) (he:AX [e] X.env=[(false,CH e X.env)]:=by rfl):GI X E (.Tuple elts x1 xV) (.Call (.Name "enumerate" p) [e] [] pos) (LS m):=
 (fQ hg hm (FI h IS he) he).imp λσ H R ⟨ρ,l,S,hl,hs,hm⟩=>by
 refine⟨ρ,l,S,hl,hs,hm.seq λd S1 hm ρ1 H1 x l1 s1 r1=>?_⟩
 cases d with
 | tup ds=>
  have si:=hm
  cases r1 with
  | @tup _ a vs q1 q2=>
   exact⟨a,rfl,.inr ⟨⟨vs,.inl (.inl q1)⟩,si ρ1 H1 _ l1 s1 (On (QC q1 q2) (λi H z=>z) (λi H z=>z) λi H x z=>⟨rfl,z⟩)⟩⟩
 | _=>
  cases hv:Ex _ S1 with
  | none=>rw[hv]at hm;exact hm.elim
  | some ds=>
   rw[hv]at hm
   have:∃a,x=.ref a:=by
    cases r1 <;> first | exact⟨_,rfl⟩ | (cases hv;done)
   obtain⟨a,rfl⟩:=this;obtain⟨xs,sq,_⟩:=QG s1 r1 hv;exact⟨a,rfl,.inl ⟨⟨xs,sq⟩,hm ρ1 H1 _ l1 s1 (On (QE r1) (λi H z=>z) (λi H z=>z) λi H x z=>⟨rfl,z⟩)⟩⟩
end
open PySem
theorem Ka{α:Type}{xs:List α}{j:Int}{x:α}(h0:0<=j)(h:xs[j.toNat]?=some x):atI xs j=some x:=by
 have qt:=(AE.mp h).1;unfold atI ixN;rw[qX (by omega),qX (by lia)];simpa using h
theorem kh{α:Type}:∀{l:List α},l.length=1->∃x1,l=[x1]
 | [a],_=>⟨a,rfl⟩
theorem oY{α:Type}:∀{l:List α},l.length=2->∃x1 x2,l=[x1,x2]
 | y :: _,q=>by
  obtain⟨x2,rfl⟩:=kh (M3 q);exact⟨y,x2,rfl⟩
theorem oX{α:Type}:∀{l:List α},l.length=3->∃x1 x2 x3,l=[x1,x2,x3]
 | y :: _,q=>by
  obtain⟨x2,x3,rfl⟩:=oY (M3 q);exact⟨y,x2,x3,rfl⟩
theorem oW{α:Type}:∀{l:List α},l.length=4->∃x1 x2 x3 x4,l=[x1,x2,x3,x4]
 | y :: _,q=>by
  obtain⟨x2,x3,x4,rfl⟩:=oX (M3 q);exact⟨y,x2,x3,x4,rfl⟩
theorem len5{α:Type}:∀{l:List α},l.length=5->∃x1 x2 x3 x4 x5,l=[x1,x2,x3,x4,x5]
 | y :: _,q=>by
  obtain⟨x2,x3,x4,x5,rfl⟩:=oW (M3 q);exact⟨y,x2,x3,x4,x5,rfl⟩
open PySem PySem.Spec PyProof.Rows
section
def Qb(i:Nat)(g:Int->Int->Int)(m:ME):MS:=λe S=>match e[i]? with
 | some (some (.int x))=>(m e S).lift e λd S1=>match d with
  | .int y=>.ok (.nx (e.set i (some (.int (g x y))))) S1
  | _=>.bad
 | _=>.bad
theorem lE(hN:X.N.Nodup)(hi:X.N[i]?=some x)(hx:Loc X.env.scope x)(hp:PIp X op (ipI g))(he:GE X E e m)
  (hf:X.fn x=true∨X.env.scope.names.lookup x=some .local:=by first | exact .inl rfl | exact .inr rfl | assumption):GS X E (.AugAssign (.Name x pos') op e pos) (Qb i g m):=(jy hN hi hx he hp hf).imp λD σ H ⟨ρ,l,S,hl,hs,hm⟩=>by
 unfold Qb at hm;split at hm
 ·rename_i n hn
  obtain⟨v,h1,h2⟩:=hl.at' i _ hn;cases h2;refine⟨_,h1,ρ,l,S,hl,hs,hm.lift hl .refl λd S1 hm ρ1 H1 y l1 s1 r1=>?_⟩
  cases d with
  | int y=>cases r1;exact⟨n,y,rfl,rfl,hm ρ1 H1 _ l1 s1 ((hl.mono l1).set (.int _) i)⟩
  | _=>exact hm.elim
 ·exact hm.elim
end
open PySem PySem.Spec PyProof.Rows
theorem lP{P}{w}{K}{mg}{base}{CX}{k n}{f}{fd}{ps}:Cq P w K mg base CX k f fd ps (spM K n λ_ _=>.bad):=
 ⟨λ_ _ _ _ ⟨_,_,_,_,_,_,h⟩=>h.elim,λ_ _ _ _ _ _ _ _ _ _ _ _ _ ⟨_,_,_,_,_,_,h⟩=>h.elim⟩
open PySem PySem.Spec PyProof.Rows
def rIns:V->List V->Hp->VK->Prop:=λx vs H Q=>∃l xs i y,x=.ref l/\vs=[.int i,y]/\H l=some (.lst xs)/\0<=i/\i < 2 ^ 63/\xs.length+1<=sizeLine/\Q .non (upd H l (.lst (xs.take i.toNat++[y]++xs.drop i.toNat)))
section
theorem ZM:MtM X "list.insert" rIns:=by
 intro ζ s σ H x vs v us Q I rx rv h;obtain⟨l,xs,i,y,rfl,rfl,hH,h0,h1,hz,q⟩:=h;cases rx;obtain⟨u,w,rfl,ru,ry⟩:=vals2 rv;obtain⟨t,rfl⟩:=ru;obtain⟨z,i',n,r,hl,e⟩:=I.lstM hH
 have wc:¬(!Builtin.List.listFitsIndex i)=true:=by
  rw[fitsIndex_both (by lia) h1];exact AI
 refine i4 F.slot_list_insert ⟨_,e,rfl⟩ F.entry_list_insert (F.args_list_insert_3 _ _ _)
  (AutoListH.list_insert_list_int_val_1 l i'.toArray n i t w wc (by rw[Ab];lia)) ⟨e,?_⟩
 refine⟨.non,_,I.lset (its':=i'.take i.toNat++[w]++i'.drop i.toNat) hH e ?_ (((r.take _).append (.cons ry .nil)).append (r.drop _)) ?_,rfl,q⟩
 ·show(i'.toArray.extract 0 (if i < 0 then(i+((i'.toArray.size:Nat):Int)).toNat else min i.toNat i'.toArray.size)).push w++i'.toArray.extract (if i < 0 then(i+((i'.toArray.size:Nat):Int)).toNat else min i.toNat i'.toArray.size)=_
  rw[qY (by lia)]
  apply m6
  rw[Ab]
  by_cases c:i.toNat<=i'.length
  ·rw[Nat.min_eq_left c]
   simp;rw[EY (by rw[FT];lia)]
  ·rw[Nat.min_eq_right (by lia),EY (by lia),Gp (by lia)]
   simp
 ·simp only[As,EK,FT,BW]
  omega
end
def bv(mo mi my:ME):ME:=λe S=>(mo e S).bind λd S1=>match atL d S1 with
 | some (n,_)=>(mi e S1).bind λx S2=>(my e S2).bind λy S3=>match atL d S3,x with
  | some (_,xs),.int i=>if 0<=i/\i < 1000000/\xs.length+1<=sizeLine then .ok .non (S3.set n (.lst (xs.take i.toNat++[y]++xs.drop i.toNat)))else .bad
  | _,_=>.bad
 | none=>.bad
theorem Am.drop'{K}{ρ}{H}:∀{ds:List D} {vs:List V},Am K ρ H ds vs->∀k,Am K ρ H (ds.drop k) (vs.drop k)
 | _,_,.nil,k=>by rw[i9,i9];exact .nil
 | _,_,.cons r t,k=>by
  cases k with
  | zero=>exact .cons r t
  | succ k=>exact Am.drop' t k
section
theorem lL(ho:GE X E o mo)(he:GE X E e mi)(hf:GE X E f my)(ql:EQ o "insert" X.env (CH o X.env)=CH o X.env:=by rfl)
  (qQ:((Dp qf (AX [e,f] X.env)).all (λx=>!x.1)&&(Rf qf (Ku [] X.env)).all (λx=>x.1.isSome)
    &&decide ([e,f].length+([]:List Oi).length+(if ([]:List Oi).isEmpty then 0 else 1) < 30))=true:=by rfl)
  (qm:(apos.endLine==qf.line)=true:=by rfl) (hs:AX [e,f] X.env=(false,CH e X.env) :: AX [f] X.env:=by rfl) (qz:AX [f] X.env=(false,CH f X.env) :: AX [] X.env:=by rfl) (qr:(Dp qf (AX [f] X.env)).any (·.1)=false:=by rfl) :
  GE X E (.Call (.Attribute o "insert" apos) [e,f] [] qf) (bv mo mi my):=(bS Jf PySem.F.slot_list_insert PySem.F.type_list_insert ZM ho (FI he (FI hf IS qz) hs) ql qQ qm hs qr).imp λσ H Q ⟨ρ,l,S,hl,hs,hm⟩=>by
 refine⟨ρ,l,S,hl,hs,hm.seq λd S1 hm ρ1 H1 v l1 s1 r1=>?_⟩
 cases hq:atL d S1 with
 | none=>rw[hq]at hm;exact hm.elim
 | some z=>
  obtain⟨n,xK⟩:=z;rw[hq]at hm;dsimp only at hm;obtain⟨rfl,h0,a,vY,rfl,hn,e0,_⟩:=Mu s1 r1 hq;refine⟨.inl ⟨rfl,vY,.inl (.inl e0)⟩,ρ1,l,S1,hl.mono l1,s1,(hm.later l1).seq λx S2 hm ρ2 H2 u l2 s2 r2=>⟨ρ2,l,S2,hl.mono (l1.trans l2),s2,(hm.later l2).seq λy S3 si ρ3 H3 w l3 s3 r3=>?_⟩⟩;split at si
  ·rename_i n' xs i h2
   split at si
   ·rename_i hz
    obtain⟨e',h4,a',vs,ea,qF,e2,rr⟩:=Mu s3 (r1.mono (l2.trans l3)) h2;cases e';cases ea;cases r2;obtain⟨s4,l4⟩:=Tf s3 qF e2 (((rr.take i.toNat).append (.cons r3 .nil)).append (rr.drop' i.toNat));exact⟨a,vs,i,w,rfl,rfl,e2,hz.1,Int.lt_trans hz.2.1 (by decide),by rw[<-rr.length];exact hz.2.2,si ρ3 _ _ (l1.trans (l2.trans (l3.trans l4))) s4 .non⟩
   ·exact si.elim
  ·exact si.elim
end
open PySem PySem.Spec PyProof.Rows
section
instance(i j:Int):Decidable ((λ_ j:Int=>0<=j) i j):=inferInstanceAs (Decidable (0<=j))
abbrev O8:=intOp dI λi j=>.int (i * 2 ^ j.toNat)
abbrev Us:=intOp (λ_ j=>0<=j) λi j=>.int (i / 2 ^ j.toNat)
abbrev RX:=intOp (λ_ _=>True) λi j=>.int (BU i j)
theorem Mj:OpR X (Cr .LShift) (rD X.K O8):=OL (λ_ _ _ _=>.int _) kM
theorem Wt:OpR X (Cr .RShift) (rD X.K Us):=OL (λ_ _ _ _=>.int _) kL
theorem OM:OpR X (Cr .BitAnd) (rD X.K RX):=Lz (λ_ _ _ _=>.int _) kU
theorem YC:PIp X .BitOr (ipI λi j=>CJ i j):=by
 intro ζ s σ H x y v u Q I r1 r2 h;obtain⟨i,j,e1,e2,q⟩:=h;subst e1;subst e2;obtain⟨a,rfl⟩:=r1;obtain⟨b,rfl⟩:=r2;exact ior_int ⟨.int _,H,I.tok _,⟨_,rfl⟩,q⟩
theorem kx:PIp X .BitAnd (ipI λi j=>BU i j):=by
 intro ζ s σ H x y v u Q I r1 r2 h;obtain⟨i,j,e1,e2,q⟩:=h;subst e1;subst e2;obtain⟨a,rfl⟩:=r1;obtain⟨b,rfl⟩:=r2;exact iand_int ⟨.int _,H,I.tok _,⟨_,rfl⟩,q⟩
theorem ku:PIp X .BitXor (ipI λi j=>EA i j):=by
 intro ζ s σ H x y v u Q I r1 r2 h;obtain⟨i,j,e1,e2,q⟩:=h;subst e1;subst e2;obtain⟨a,rfl⟩:=r1;obtain⟨b,rfl⟩:=r2;exact ixor_int ⟨.int _,H,I.tok _,⟨_,rfl⟩,q⟩
end
def LP(C:AU)(m:Str)(n:Nat)(f:List D->Sto->Res D)(mo:ME)(ml:ML):ME:=λe S=>(mo e S).bind λd S1=>match d with
 | .ref k=>match S1[k]? with
  | some (.ins C' fs)=>if C'=C/\fs.lookup m=none then(ml e S1).bind λds S2=>if ds.length+1=n then f (.ref k :: ds) S2 else .bad else .bad
  | _=>.bad
 | _=>.bad
theorem KVR.none{K}{ρ}{H}(f:Str):∀{x:List (Str×D)} {y:List (Str×V)},KVR K ρ H x y->x.lookup f=none->y.lookup f=none
 | _,_,.nil,_=>rfl
 | (g,a) :: x,(g',b) :: y,.cons r t,h=>by
  obtain⟨r1,r2⟩:=r;dsimp only at r1 r2;subst r1;rw[BQ]at h ⊢
  cases hq:(f==g)with
  | true=>rw[hq]at h;cases h
  | false=>rw[hq]at h;exact KVR.none f t h
section
variable{X:Cx}{E:EW}{k n:Nat}{f C:AU}{m:Str}{mo:ME}{ml:ML}{g:List D->Sto->Res D}
theorem ae{t:TA}{σ:St}{H:Hp}{Q:VK}(h:gE X.K E (LP C m n g mo ml) σ H Q):iY C m (spM X.K n g) [] (S9 E) (gE X.K E mo) (gA X.K E ml) σ H Q:=by
 obtain⟨ρ,l,S,hl,hs,hm⟩:=h;refine⟨ρ,l,S,hl,hs,hm.seq λd S1 hm ρ1 H1 x l1 s1 r1=>?_⟩
 cases d <;> first | exact hm.elim | skip
 rename_i q;dsimp only at hm
 cases ho:S1[q]? with
 | none=>rw[ho]at hm;exact hm.elim
 | some ob=>
  rw[ho]at hm
  cases ob <;> first | exact hm.elim | skip
  rename_i C' fs;dsimp only at hm;split at hm
  ·rename_i hC
   obtain⟨hC,vH⟩:=hC;rw[hC]at ho
   cases r1 with
   | ref qG=>
    obtain⟨dx,rP,e1,e2⟩:=s1.ob q _ _ ho qG;refine⟨_,dx,rP,rfl,e1,KVR.none m e2 vH,ρ1,l,S1,hl.mono l1,s1,(hm.later l1).seq λds S2 hm ρ2 H2 xs l2 s2 r2=>?_⟩;split at hm
    ·rename_i hlen
     rw[CL];exact⟨ρ2,.ref q :: ds,S2,by simpa using hlen,.cons (.ref (l2.pre _ _ qG)) r2,s2,hm.xk l2 λ_ _ k ρ' H' z l' s' r'=>k ρ' H' z (l1.trans (l2.trans l')) s' r'⟩
    ·exact hm.elim
  ·exact hm.elim
theorem Nj{pl:Sem Bool}(ho:GE X E o mo)(c:Cls X.K C)(hm:UN X.K C m f)(F:Cq X.prog X.w X.K X.mg X.base CX k f fd ps (spM X.K n g))(hx:Ke CX X (S9 E))(hr:Gn k X.A)(hb:Binds X.K fd ps [])(ha:GA X E (e :: es) ml)
  (se:AX (e :: es) X.env=(false,CH e X.env) :: AX es X.env:=by rfl) (qv:(Dp pos (AX es X.env)).any (·.1)=false:=by rfl)
  (ht:CH (.Call (.Attribute o m apos) (e :: es) [] pos) X.env=(do
   let ov <-CH o X.env
   lz apos.atName
   let (f,fts) <-V0 [ov] (Zx ov m pl)
   callWith pos f fts (Dp pos (AX (e :: es) X.env)) (Rf pos (Ku [] X.env))):=by rfl) :
  GE X E (.Call (.Attribute o m apos) (e :: es) [] pos) (LP C m n g mo ml):=
 (fV (E:=S9 E) ho c hm F hr hb .nil hx ha se qv ht).imp λσ H Q h=>ae (t:=gA X.K E ml) h
end
section
def nq:V->List V->Hp->VK->Prop:=λx vs H Q=>∃i,x=.int i/\vs=[]/\Q (.int (DG i)) H
theorem gJ:MtR X "int.bit_length" nq:=by
 intro ζ s σ H x vs v us Q I rx rv h;obtain⟨i,rfl,rfl,q⟩:=h;obtain⟨t,rfl⟩:=rx;cases rv;exact call_int_bit_length ⟨.int _,H,I.tok _,⟨_,rfl⟩,q⟩
def X6(m:ME):ME:=λe S=>(m e S).bind λd S1=>match d with
 | .int i=>.ok (.int (DG i)) S1
 | _=>.bad
theorem gm(ho:GE X E o mo)(ql:EQ o "bit_length" X.env (CH o X.env)=CH o X.env:=by rfl) (qm:(apos.endLine==qf.line)=true:=by rfl) :
  GE X E (.Call (.Attribute o "bit_length" apos) [] [] qf) (X6 mo):=(kG PySem.F.plainAttrs_int PySem.F.slot_int_bit_length PySem.F.type_int_bit_length gJ ho ql qm).imp λσ H Q ⟨ρ,l,S,hl,hs,hm⟩=>by
 refine⟨ρ,l,S,hl,hs,hm.seq λd S1 hm ρ1 H1 v l1 s1 r1=>?_⟩
 cases d <;> first | exact hm.elim | skip
 cases r1;exact⟨rfl,_,rfl,rfl,hm ρ1 H1 _ l1 s1 (.int _)⟩
end
section
def nh(K:AF):V->V->Hp->VK->Prop:=λo i H Q=>∃p xs k z,o=.ref p/\i=.int k/\0<=k/\H p=some (.lst xs)/\xs[k.toNat]?=some z/\Q z H
theorem cR:pR X (nh X.K):=by
 intro ζ s σ H o i ov iv Q I ro ri h;obtain⟨p,xs,k,z,rfl,rfl,h0,hp,hz,q⟩:=h;cases ro;obtain⟨t,rfl⟩:=ri;obtain⟨i',n,r,ho,hsz⟩:=I.lst hp
 obtain⟨u,hu,ru⟩:∃u,i'[k.toNat]?=some u/\RelV z u:=r.get hz
 have qt:k.toNat < xs.length:=(AE.mp hz).1;have hn:=OP;exact getItem_listL (l:=i') ⟨_,ho,rfl,n,rfl⟩ h0 (by omega) hu ⟨z,H,I,ru,q⟩
def U0(g:Int->Int->Int)(mo mi mv:ME):MS:=λe S=>(mo e S).lift e λd S1=>(mi e S1).lift e λk S2=>match atL d S2,k with
 | some (_,xs),.int i=>if 0<=i then(match xs[i.toNat]? with
  | some (.int x)=>(mv e S2).lift e λy S3=>match y,atL d S3 with
   | .int y,some (n,zs)=>if i.toNat < zs.length then .ok (.nx e) (S3.set n (.lst (zs.set i.toNat (.int (g x y)))))else .bad
   | _,_=>.bad
  | _=>.bad)else .bad
 | _,_=>.bad
theorem gd(ho:GE X E o mo)(hi:GE X E i mi)(he:GE X E e mv)(hp:PIp X op (ipI g))
  (ha:∀ov iv new,augStore i ov iv new=(do V0 [new,ov,iv] (mD ov iv new);release [new,ov,iv] [];pure .next):=by intros;rfl):GS X E (.AugAssign (.Subscript o i tpos) op e pos) (U0 g mo mi mv):=
 (fM ho hi cR he hp au ha).imp λD σ H ⟨ρ,l,S,hl,hs,hm⟩=>by
 refine⟨ρ,l,S,hl,hs,hm.lift hl .refl λd S1 hm ρ1 H1 x l1 s1 r1=>⟨ρ1,l,S1,hl.mono l1,s1,(hm.later l1).lift (hl.mono l1) l1 λk S2 hm ρ2 H2 y l2 s2 r2=>?_⟩⟩;have xX:=r1.mono l2;split at hm
 ·rename_i n xs i hq
  split at hm
  ·rename_i h0
   obtain⟨rfl,h5,a,vs,rfl,hn,e1,rr⟩:=Mu s2 xX hq;cases r2;split at hm
   ·rename_i x hx
    obtain⟨z,hz,rz⟩:=rr.get hx;cases rz;refine⟨a,vs,i,.int x,rfl,rfl,h0,e1,hz,ρ2,l,S2,hl.mono (l1.trans l2),s2,(hm.later l2).lift (hl.mono (l1.trans l2)) (l1.trans l2) λy S3 hm ρ3 H3 w l3 s3 r3=>?_⟩;split at hm
    ·rename_i y n3 zs tq
     split at hm
     ·rename_i qt
      cases r3;obtain⟨_,h6,a3,xY,e4,vT,e3,xZ⟩:=Mu s3 (xX.mono l3) tq;cases e4;obtain⟨s4,l4⟩:=Tf s3 vT e3 (xZ.set (.int (g x y)) i.toNat)
      have zN:ixN xY.length i=some i.toNat:=by
       unfold ixN;rw[qX h0,qX (by rw[<-xZ.length];omega)]
      exact⟨x,y,rfl,rfl,a,xY,i,i.toNat,rfl,rfl,e3,zN,hm ρ3 _ _ ((l1.trans l2).trans (l3.trans l4)) s4 (hl.mono ((l1.trans l2).trans (l3.trans l4)))⟩
     ·exact hm.elim
    ·exact hm.elim
   ·exact hm.elim
  ·exact hm.elim
 ·exact hm.elim
end
open PySem PySem.Spec PyProof.Rows PySem.SeqAt
section
theorem FM(h1:N.Nodup:=by decide +kernel)(h2:∀x∈ps,sc.names.lookup x=some .local∨sc.names.lookup x=some .cell:=by decide +kernel)(h3:∀y∈sc.names,y.2≠.free:=by decide +kernel)(h4:sc.kind=.function:=by rfl)(h5:sc.isCoroutine=false:=by rfl)(h6:sc.isGenerator=false:=by rfl)(h7:N.take ps.length=ps:=by rfl):Bb N ps sc:=⟨h4,h5,h6,h1,h7,h2,h3⟩
end
section
variable{X:Cx}{E:EW}{e:Expr}
theorem CY(i:Nat)(hN:X.N.Nodup)(hi:X.N[i]?=some x:=by rfl)(hx:Loc X.env.scope x:=by first | exact Of rfl | exact M2 rfl)(hf:X.fn x=true∨X.env.scope.names.lookup x=some .local:=by first | exact .inl rfl | exact .inr rfl | assumption):GG X (.Name x pos) (tgN i):=gh (fU hN hi hx hf)
theorem DK(i:Nat)(hN:X.N.Nodup)(he:GE X E e m)(hi:X.N[i]?=some x:=by rfl)(hx:Loc X.env.scope x:=by first | exact Of rfl | exact M2 rfl)(hs:Fu e (some (.Name x pos')) pos.line X.env=pure false:=by rfl)
  (hf:X.fn x=true∨X.env.scope.names.lookup x=some .local:=by first | exact .inl rfl | exact .inr rfl | assumption):GS X E (.Assign [.Name x pos'] e pos) (DH i m):=lD hN hi hx he hs hf
theorem SW(i:Nat)(hN:X.N.Nodup)(hp:PIp X op (ipI g))(he:GE X E e m)(hi:X.N[i]?=some x:=by rfl)(hx:Loc X.env.scope x:=by first | exact Of rfl | exact M2 rfl)
  (hf:X.fn x=true∨X.env.scope.names.lookup x=some .local:=by first | exact .inl rfl | exact .inr rfl | assumption):GS X E (.AugAssign (.Name x pos') op e pos) (Qb i g m):=lE hN hi hx hp he hf
end
open PySem PySem.Spec PyProof.Rows
section
variable{X:Cx}{E:EW}{tg e:Expr}{K:AF}{ζ:List (AU×Obj)}{σ:St}{H:Hp}{s:AL}
def Itk(a:AU)(ob:Obj)(u:HO)(xs:List V):It:=
 ⟨λi H=>H a=some (.frz ob u)/\i < xs.length,λi H x H'=>H'=H/\xs[i]?=some x,λi H=>H a=some (.frz ob u)/\xs.length<=i⟩
theorem Yq(hx:ob.ExactDict)(hd:ob.data=.dict es ep)(hv:Bn xs (es.toList.map (·.key))):UK P w K tg (Itk a ob u xs) [it] it (λi h=>h.IsKeyIter it a i es.size ep) where
 mem:=by simp
 obj:=λi h st b hb=>by
  have e:b=it:=by simpa using hb
  subst e;obtain⟨o,e,c,d⟩:=st;exact⟨o,e,λv z=>by rw[d]at z;cases z⟩
 keep:=λi h h' st k=>st.at λo e=>k it (by simp) o e
 item:=by
  intro X hP hw hK hc i ζ s σ H E I hf st hg;subst hP hw hK;obtain⟨ha,hi⟩:=hg;obtain⟨g,_⟩:=(show Cj X.prog X.w H s.heap a (.frz ob u)from I.hok a _ ha)
  have hs:xs.length=es.size:=by have:=hv.length;rw[AC,Bq]at this;exact this
  have y8:i < es.size:=by rw[<-hs];exact hi
  obtain⟨v,h1,h2⟩:=hv.get (AZ hi);rw[Aa,V6,SD y8]at h1;cases h1;obtain⟨f0,f1,f2,f3,f4,f5⟩:=hf it (by simp)
  refine Srt.VC st ⟨ob,g,hx,hd⟩ y8 λh' j' sb=>?_
  have I1:Inv X ζ σ H { s with heap:=h' }:=I.turned (t':=s.toks) (λb o hb e=>(sb.2 b hb).trans e) f0 f1 f3 f4 f5;obtain⟨o,e,c,d⟩:=id j';exact⟨_,rfl,YE (s:={ s with heap:=h' }) e c d (by decide) ⟨_,H,I1,h2,⟨rfl,AZ hi⟩,j',λb hb=>(hf b hb).1⟩⟩
 done:=by
  intro X hP hw hK hc i ζ s σ H E I hf st hg;subst hP hw hK;obtain⟨ha,hi⟩:=hg;obtain⟨g,_⟩:=(show Cj X.prog X.w H s.heap a (.frz ob u)from I.hok a _ ha)
  have hs:xs.length=es.size:=by have:=hv.length;rw[AC,Bq]at this;exact this
  obtain⟨f0,f1,f2,f3,f4,f5⟩:=hf it (by simp)
  exact Srt.Xv (I.ok.hd hc) st ⟨ob,g,hx,hd⟩ (by rw[<-hs];exact hi) λh' eb=>⟨rfl,I.turned (t':=s.toks) (λb o hb e=>eb b o hb e) f0 f1 f3 f4 f5⟩
 self:=λ_ _ _ _ _ st h=>dQ st h
theorem g8:∀{l:List Oj} {us:List (Key×AH)} {f':List (Key×V)},Pairs (D8 P w) l us->KV f' us->Bn (f'.map λx=>kV x.1) (l.map (·.key)):=by
 intro l us f' hp
 induction hp generalizing f' with
 | nil=>intro h;cases h;exact .nil
 | cons q1 q2 _ ih=>
  intro h
  cases h with
  | cons r t=>
   refine .cons ?_ (ih t);dsimp only;rw[r.1]
   rcases DF q1 with⟨i,t,e1,e2⟩ | ⟨x,t,e1,e2⟩
   ·rw[e1,e2];exact⟨t,rfl⟩
   ·rw[e1,e2];exact⟨t,rfl⟩
theorem ci:∀{f':List (List Key×V)} {xs:List (List Key×AU×AH)},Fj (λ(p:List Key×V) (q:List Key×AU×AH)=>p.1=q.1/\H q.2.1=some (.tup (p.1.map kV))/\RelV p.2 q.2.2) f' xs->Fj (λ(k:List Key×V) b=>H b=some (.tup (k.1.map kV))) f' (xs.map (·.2.1)):=by
 intro f' xs h
 induction h with
 | nil=>exact .nil
 | cons r _ ih=>exact .cons r.2.1 ih
theorem ZA(l:List AU):Bn (l.map V.ref) (l.map BA):=by
 induction l with
 | nil=>exact .nil
 | cons a l ih=>exact .cons rfl ih
def iDct(tl:TE):TI:=λσ H R=>tl σ H λx H1=>∃a ob,x=.ref a/\((∃f',H1 a=some (.frz ob (.dK f'))/\R (Itk a ob (.dK f') (f'.map λx=>kV x.1)) H1) ∨
 ∃f',H1 a=some (.frz ob (.dT f'))/\∀bs,Fj (λ(k:List Key×V) b=>H1 b=some (.tup (k.1.map kV))) f' bs->R (Itk a ob (.dT f') (bs.map V.ref)) H1)
theorem fR(hl:PE X l tl):PI X tg l (iDct tl):=by
 intro ζ s σ H R I h
 refine thn (hl ζ s σ H _ I h) λv s1 ⟨x,H1,I1,r1,q1⟩=>?_
 obtain⟨a,ob,e,q⟩:=q1;subst e;cases r1
 have fin:∀{u:HO} {xs:List V} {es:Array Oj} {ep:Nat},(a==Db)=false->s1.heap.get? a=some ob->ob.ExactDict->ob.data=.dict es ep->Bn xs (es.toList.map (·.key))->R (Itk a ob u xs) H1 ->
   Ae (Ak X.prog X.w) X.A (iz (.ref a)) (PIE X ζ σ tg R) X.xe s1:=λsm g g2 g3 hv q=>by
  refine Srt.VD sm ⟨ob,g,g2,g3⟩ ?_;refine⟨s1.heap.objs.size,[s1.heap.objs.size],_,_,H1,rfl,I1.kept (t':=s1.toks) λb o e=>AR _ e,Yq g2 g3 hv,⟨_,Af _ rfl,rfl,rfl⟩,λb hb=>?_,q⟩
  have e:b=s1.heap.objs.size:=by simpa using hb
  subst e;exact I1.fpOk (AK _) (I1.hok.fresh (AK _))
 rcases q with⟨f',ha,q⟩ | ⟨f',ha,q⟩
 ·obtain⟨g,hz,sm,us,kv,o,es,ep,g1,g2,g3,g5,g6,_⟩:=(show Cj X.prog X.w H1 s1.heap a (.frz ob (.dK f'))from I1.hok a _ ha)
  rw[g]at g1;cases g1;exact fin sm g g2 g3 (g8 g6 kv) q
 ·obtain⟨g,hz,sm,xs,rr,o,es,ep,g1,g2,g3,g4,_⟩:=(show Cj X.prog X.w H1 s1.heap a (.frz ob (.dT f'))from I1.hok a _ ha)
  rw[g]at g1;cases g1
  have hk:es.toList.map (·.key)=(xs.map (·.2.1)).map BA:=by
   rw[g4,BC,BC];rfl
  exact fin sm g g2 g3 (by rw[hk];exact ZA _) (q _ (ci rr))
def Ve(d:D)(S:Sto):Option (List D):=match d with
 | .ref n=>match S[n]? with
  | some (.fK f')=>some (f'.map λx=>W1 x.1)
  | some (.fT f')=>some (f'.map λx=>.tup (x.1.map W1))
  | _=>none
 | _=>none
def YD(m:ME):MI:=λe S=>(m e S).bind λd S1=>match Ve d S1 with
 | some ds=>.ok (Gs ds) S1
 | none=>.bad
theorem QF(ha:H a=some (.frz ob u))(h2:Am K ρ H ds xs):Mv K ρ H (Itk a ob u xs) (Gs ds):=by
 intro ρ2 H2 S qH i l s hv;cases hv;have rr:=h2.mono l;have uW:=l.frz _ _ _ ha;refine⟨λhn=>⟨uW,by rw[<-rr.length];exact FW.mp hn⟩,λd hd=>?_⟩;obtain⟨x,hx,rx⟩:=rr.get hd;refine⟨⟨uW,(AE.mp hx).1⟩,λy H' ⟨e,hy⟩=>?_⟩;subst e;rw[hx]at hy;cases hy;exact⟨ρ2,.refl,s,rx⟩
theorem gg(h:GE X E e m):GI X E tg e (YD m):=(fR h).imp λσ H R ⟨ρ,l,S,hl,hs,hm⟩=>by
 refine⟨ρ,l,S,hl,hs,hm.seq λd S1 hm ρ1 H1 x l1 s1 r1=>?_⟩
 cases hq:Ve d S1 with
 | none=>rw[hq]at hm;exact hm.elim
 | some ds=>
  rw[hq]at hm
  cases r1 with
  | @ref n a hn=>
   obtain⟨o,ho,ro⟩:=s1.there hn;unfold Ve at hq;simp only[ho]at hq
   cases o with
   | fK f'=>
    cases hq;obtain⟨ob,vs,e,rr⟩:=ro;exact⟨a,ob,rfl,.inl ⟨vs,e,hm ρ1 H1 _ l1 s1 (QF e (NZ rr))⟩⟩
   | fT f'=>
    cases hq;obtain⟨ob,vs,e,rr⟩:=ro;exact⟨a,ob,rfl,.inr ⟨vs,e,λbs hb=>hm ρ1 H1 _ l1 s1 (QF e (Qv rr hb))⟩⟩
   | _=>cases hq
  | _=>cases hq
theorem Inv.fz(I:Inv X ζ σ H s)(hg:s.heap.get? a=some ob)(ha:H a=some u)(mu:Mut (some u)):Inv X ζ σ (upd H a (.frz ob u)) s:=by
 have nn:∀b,H b=none->b≠a:=λb h z=>by subst z;rw[ha]at h;cases h
 have nm:∀b o,H b=some o->¬Mut (some o)->b≠a:=λb o h n z=>by subst z;rw[ha]at h;cases h;exact n mu
 have st:∀b o,Cj X.prog X.w H s.heap b o->Cj X.prog X.w (upd H a (.frz ob u)) s.heap b o:=λb o x=>
  x.stay (λ_ _ _ q=>q) (λc r=>by rw[BX (nm c _ r λz=>z)];exact r) λc xs r=>by rw[BX (nm c _ r λz=>z)];exact r
 refine⟨I.ok,I.os,I.bare,⟨I.base.keep,I.base.slot,λb o q n hx=>?_,I.base.there,λb xs q=>?_,λb o xs q=>?_,λb ps q=>?_⟩,I.loc,I.cell,?_,λx c q=>?_,λp hp=>?_,λb o q=>?_,I.len⟩
 ·have:=I.base.free b o q n hx
  rw[BX (nn b this)];exact this
 ·have:=I.base.tups b xs q
  rw[BX (nm b _ this λz=>z)];exact this
 ·have:=I.base.frzs b o xs q
  rw[BX (nm b _ this λz=>z)];exact this
 ·obtain⟨more,this⟩:=I.base.tbls b ps q
  exact⟨more,by rw[BX (nm b _ this λz=>z)];exact this⟩
 ·rw[BX (nn _ I.free)];exact I.free
 ·rw[BX (nn _ (I.freeC x c q))];exact I.freeC x c q
 ·obtain⟨h1,h2,h3⟩:=I.pin p hp
  exact⟨h1,by rw[BX (nn _ h2)];exact h2,h3⟩
 ·by_cases hb:b=a
  ·subst hb
   rw[Bu]at q;cases q;exact⟨hg,st b u (I.hok b u ha)⟩
  ·rw[BX hb]at q
   exact st b o (I.hok b o q)
def fzO:Ob->Option Ob
 | .dK f'=>some (.fK f')
 | .dT f'=>some (.fT f')
 | .fK f'=>some (.fK f')
 | .fT f'=>some (.fT f')
 | _=>none
def sFz(i:Nat):MS:=λe S=>match e[i]? with
 | some (some (.ref n))=>match S[n]? with
  | some o=>match fzO o with
   | some o'=>.ok (.nx e) (S.set n o')
   | none=>.bad
  | none=>.bad
 | _=>.bad
theorem Uu{S:Sto}{n:Nat}{o:Ob}(h:S[n]?=some o):S.set n o=S:=by
 apply Ji
 intro j;rw[DP];split
 ·rename_i c
  subst c;split
  ·exact h.symm
  ·rename_i c;rw[Bp (HX.mp c)]at h;cases h
 ·rfl
theorem ox{i:Nat}{st:DB}{ms:MS}(h:GS X E st ms):GS X E st (BO (sFz i) ms):=λζ s σ H D I ⟨ρ,l,S,hl,hs,hm⟩=>by
 cases hx:l[i]? with
 | none=>unfold BO sFz at hm;rw[hx]at hm;exact hm.elim
 | some x=>
  cases x with
  | none=>unfold BO sFz at hm;rw[hx]at hm;exact hm.elim
  | some d=>
   cases d with
   | ref n=>
    cases ho:S[n]? with
    | none=>unfold BO sFz at hm;rw[hx]at hm;dsimp only at hm;rw[ho]at hm;exact hm.elim
    | some o=>
     cases hf:fzO o with
     | none=>unfold BO sFz at hm;rw[hx]at hm;dsimp only at hm;rw[ho]at hm;dsimp only at hm;rw[hf]at hm;exact hm.elim
     | some o'=>
      have p9:CD X.K noH ρ H (ms l (S.set n o')) λfl S'=>Pb X.K E ρ H S' D fl:=by
       unfold BO sFz at hm;rw[hx]at hm;dsimp only at hm;rw[ho]at hm;dsimp only at hm;rw[hf]at hm;exact hm
      obtain⟨a,hn,ro⟩:=hs.at ho
      have fr:∀u,H a=some u->Mut (some u)->(∃ob,s.heap.get? a=some ob)->(∀ob,Do X.K ρ (upd H a (.frz ob u)) a o')->Ae (Ak X.prog X.w) X.A (exec st X.env) _ _ s:=λu ha mu ⟨ob,hg⟩ ra=>by
       have le:Le X.K ρ H ρ (upd H a (.frz ob u)):=Le.write hn (by rw[ha];exact mu);obtain⟨s5,_⟩:=hs.write hn (ra ob) le;exact h ζ s σ _ D (I.fz hg ha mu) ⟨ρ,l,_,hl.mono le,s5,p9.go le λ_ _ k=>k.later le⟩
      cases o with
      | dK f'=>
       cases hf;obtain⟨vs,e,rr⟩:=ro
       refine fr _ e trivial ?_ λob=>⟨ob,vs,Bu,KVR.mono (Le.write hn (by rw[e];trivial)) rr⟩
       obtain⟨_,_,_,_,o,_,_,e,_⟩:=(show Cj X.prog X.w H s.heap a (.dK vs)from I.hok a _ e);exact⟨o,e⟩
      | dT f'=>
       cases hf;obtain⟨vs,e,rr⟩:=ro
       refine fr _ e trivial ?_ λob=>⟨ob,vs,Bu,KVR.mono (Le.write hn (by rw[e];trivial)) rr⟩
       obtain⟨_,_,_,_,o,_,_,e,_⟩:=(show Cj X.prog X.w H s.heap a (.dT vs)from I.hok a _ e);exact⟨o,e⟩
      | fK f'=>cases hf;rw[Uu ho]at p9;exact h ζ s σ H D I ⟨ρ,l,S,hl,hs,p9⟩
      | fT f'=>cases hf;rw[Uu ho]at p9;exact h ζ s σ H D I ⟨ρ,l,S,hl,hs,p9⟩
      | _=>cases hf
   | _=>unfold BO sFz at hm;rw[hx]at hm;exact hm.elim
end
open PySem PySem.Spec PyProof.Rows
section
variable{K:AF}{ρ ρ':List AU}{H H':Hp}{S:Sto}{L:Key->Int}{m n:Nat}{a:AU}
mutual
theorem Bo.cut(p:∀(n:Nat) a,ρ[n]?=some a->ρ'[n]?=some a):∀{d:D} {v v':V},Bo K ρ H d v->Bo K ρ' H' d v'->Bo K ρ H' d v'
 | _,_,_,.non,.non=>.non
 | _,_,_,.bl _,.bl b=>.bl b
 | _,_,_,.int _,.int i=>.int i
 | _,_,_,.str _,.str x=>.str x
 | _,_,_,.tup _ r,.tup h r'=>.tup h (Am.cut p r r')
 | _,_,_,.fro _ r,.fro h r'=>.fro h (Am.cut p r r')
 | _,_,_,.ref h,.ref h'=>by
  have e:=(p _ _ h).symm.trans h';cases e;exact .ref h
 | _,_,_,.exc _ _,.exc h e=>.exc h e
theorem Am.cut(p:∀(n:Nat) a,ρ[n]?=some a->ρ'[n]?=some a):∀{d:List D} {v v':List V},Am K ρ H d v->Am K ρ' H' d v'->Am K ρ H' d v'
 | _,_,_,.nil,.nil=>.nil
 | _,_,_,.cons r t,.cons r' t'=>.cons (Bo.cut p r r') (Am.cut p t t')
end
theorem KVR.cut(p:∀(n:Nat) a,ρ[n]?=some a->ρ'[n]?=some a):∀{x:List (κ×D)} {y z:List (κ×V)},KVR K ρ H x y->KVR K ρ' H' x z->KVR K ρ H' x z
 | _,_,_,.nil,.nil=>.nil
 | _,_,_,.cons r t,.cons r' t'=>.cons ⟨r'.1,r.2.cut p r'.2⟩ (KVR.cut p t t')
theorem Do.cut(p:∀(n:Nat) a,ρ[n]?=some a->ρ'[n]?=some a)(h:Do K ρ H a o)(h':Do K ρ' H' a o):Do K ρ H' a o:=by
 cases o with
 | lst ds=>obtain⟨_,_,r⟩:=h;obtain⟨vs,e,r'⟩:=h';exact⟨vs,e,r.cut p r'⟩
 | dK ds=>obtain⟨_,_,r⟩:=h;obtain⟨vs,e,r'⟩:=h';exact⟨vs,e,KVR.cut p r r'⟩
 | dT ds=>obtain⟨_,_,r⟩:=h;obtain⟨vs,e,r'⟩:=h';exact⟨vs,e,KVR.cut p r r'⟩
 | ins C ds=>obtain⟨_,_,_,r⟩:=h;obtain⟨dx,vs,e,r'⟩:=h';exact⟨dx,vs,e,KVR.cut p r r'⟩
 | fK ds=>obtain⟨_,_,_,r⟩:=h;obtain⟨dx,vs,e,r'⟩:=h';exact⟨dx,vs,e,KVR.cut p r r'⟩
 | fT ds=>obtain⟨_,_,_,r⟩:=h;obtain⟨dx,vs,e,r'⟩:=h';exact⟨dx,vs,e,KVR.cut p r r'⟩
 | mem L=>exact h'
def iJ(L:Key->Int)(f':List (Key×D)):Prop:=(f'.map (·.1)).Nodup/\∀x∈f',x.1∈Ts/\x.2=D.int (L x.1)
theorem X3:∀{f':List (Key×V)},(∀x∈f',x.2=V.int (L x.1))->KVR K ρ H (f'.map λx=>(x.1,D.int (L x.1))) f'
 | [],_=>.nil
 | (k,v) :: l,h=>.cons ⟨rfl,by rw[show v=V.int (L k)from h _ (AO ..)];exact .int _⟩ (X3 λx hx=>h x (AJ _ hx))
theorem Vd:∀{f':List (Key×D)} {us:List (Key×V)},KVR K ρ H f' us->(∀x∈f',x.1∈Ts/\x.2=D.int (L x.1))->∀x∈us,x.1∈Ts/\x.2=V.int (L x.1)
 | _,_,.nil,_,x,hx=>by cases hx
 | (k,d) :: l,(k',v) :: us,.cons r t,h,x,hx=>by
  rcases AV.mp hx with rfl | hx
  ·obtain⟨e,r⟩:=r
   dsimp only at e r ⊢;subst e;obtain⟨h1,h2⟩:=h _ (AO ..);dsimp only at h1 h2;rw[h2]at r;cases r;exact⟨h1,rfl⟩
  ·exact Vd t (λy hy=>h y (AJ _ hy)) x hx
theorem X9(r:KVR K ρ H f' us)(h:iJ L f'):(us.map (·.1)).Nodup/\∀x∈us,x.1∈Ts/\x.2=V.int (L x.1):=⟨by rw[<-KVR.keys r];exact h.1,Vd r h.2⟩
theorem B2.swap(s:B2 K ρ S H)(hm:S[m]?=some o)(h:∀a,ρ[m]?=some a->Do K ρ H a o->Do K ρ H a o'):B2 K ρ (S.set m o') H:=
 ⟨by rw[DS];exact s.len,s.nd,λj q b hj hb=>by
  rw[DP]at hj;split at hj
  ·rename_i c
   subst c;split at hj
   ·cases hj;exact h b hb (s.ob m o b hm hb)
   ·cases hj
  ·exact s.ob j q b hj hb⟩
end
def lmI:Res D->Int
 | .ok (.int z) _=>z
 | _=>0
def lR(x:Str)(q:Nat)(S:Sto):Option Str:=match S[q]? with
 | some (.ins _ fs)=>match fs.lookup x with
  | some (.str y)=>some y
  | _=>none
 | _=>none
def SS(x:Str)(ds:List D)(S:Sto):Option Nat:=match ds with
 | .ref q :: _=>match S[q]? with
  | some (.ins _ fs)=>match fs.lookup x with
   | some (.ref m)=>some m
   | _=>none
  | _=>none
 | _=>none
def ir(f:List D->Sto->Res D)(ds:List D)(S:Sto)(m:Nat)(L:Key->Int)(z:Int):Prop:=
 ∀f',iJ L f'->∃S' p8,f ds (S.set m (.dK f'))=.ok (.int z) S'/\S'[m]?=some (.dK p8)/\iJ L p8/\∀n,n < S.length->n≠m->S'[n]?=S[n]?
open Classical in
def iH(x:Str)(f:List D->Sto->Res D)(ds:List D)(S:Sto):Res D:=match SS x ds S with
 | some m=>match S[m]? with
  | some (.mem L)=>match f ds (S.set m (.dK []))with
   | .ok (.int z) _=>if ir f ds S m L z then .ok (.int z) S else .bad
   | _=>.bad
  | _=>.bad
 | none=>.bad
def gM(x:Str)(Lf:List D->Sto->Key->Int)(f:List D->Sto->Res D)(ds:List D)(S:Sto):Res D:=match f ds S with
 | .ok .non S'=>match SS x ds S' with
  | some m=>match S'[m]? with
   | some (.dK [])=>.ok .non (S'.set m (.mem (Lf ds S')))
   | _=>.bad
  | none=>.bad
 | _=>.bad
section
variable{P:Ba}{w:Bx}{K:AF}{mg:Str->Option AH}{base:Cu}{CX:CXT}{k n:Nat}{fa:AU}{fd:Jz}{ps:List Str}{x:Str}{f:List D->Sto->Res D}{Lf:List D->Sto->Key->Int}
theorem lQ(F:Cq P w K mg base CX k fa fd ps (spM K n f)):Cq P w K mg base CX k fa fd ps (spM K n (iH x f)):=F.imp λvs H Q E ⟨ρ,ds,S,h1,h2,h3,h4⟩=>by
 unfold iH at h4;split at h4
 ·rename_i m hm
  split at h4
  ·rename_i L hL
   split at h4
   ·rename_i z S0 hz
    split at h4
    ·rename_i hA
     obtain⟨a,ha,f',e,hn,hc⟩:=h3.at hL
     obtain⟨S',p8,hf,si,qA,hk⟩:=hA (f'.map λx=>(x.1,D.int (L x.1))) ⟨by rw[BC];exact hn,λy hy=>by
      obtain⟨u,hu,rfl⟩:=Al.mp hy
      exact⟨(hc u hu).1,rfl⟩⟩
     refine⟨ρ,ds,S.set m (.dK (f'.map λx=>(x.1,D.int (L x.1)))),h1,h2,h3.swap hL (λb hb _=>⟨f',?_,X3 λx hx=>(hc x hx).2⟩),?_⟩
     ·rw[ha]at hb;cases hb;exact e
     ·rw[hf]
      intro ρ' H' y l s r;cases r;refine h4 ρ H' _ ⟨λ_ _ h=>h,l.tup,l.frz,λa o e n=>⟨(l.oth a o e n).1,n⟩⟩ ⟨h3.len,h3.nd,λj o b hj hb=>?_⟩ (.int z);have qg:=l.pre j b hb
      by_cases c:j=m
      ·subst c
       rw[hL]at hj;cases hj;obtain⟨us,e3,r3⟩:=s.ob j _ b si qg;exact⟨us,e3,X9 r3 qA⟩
      ·exact(h3.ob j o b hj hb).cut l.pre (s.ob j o b ((hk j (AE.mp hj).1 c).trans hj) qg)
    ·exact h4.elim
   ·exact h4.elim
  ·exact h4.elim
 ·exact h4.elim
theorem gt(F:Cq P w K mg base CX k fa fd ps (spM K n f)):Cq P w K mg base CX k fa fd ps (spM K n (gM x Lf f)):=F.imp λvs H Q E ⟨ρ,ds,S,h1,h2,h3,h4⟩=>by
 unfold gM at h4;refine⟨ρ,ds,S,h1,h2,h3,?_⟩;split at h4
 ·rename_i S' hf
  split at h4
  ·rename_i m hm
   split at h4
   ·rename_i hL
    rw[hf];intro ρ' H' y l s r;exact h4 ρ' H' y l (s.swap hL λa ha ⟨us,e,r⟩=>⟨us,e,X9 r ⟨Dk,λ_ hx=>nomatch hx⟩⟩) r
   ·exact h4.elim
  ·exact h4.elim
 ·exact h4.elim
end
end L2
namespace L2
open PySem PySem.Spec PyProof.Rows PySem.W
section
variable{X:Cx}{k k' n:Nat}{x qual:Str}{st:DB}{ps:List Str}{p pos:Pos}{e:Expr}{es:List Expr}{ml:ML}{g:List D->Sto->Res D}
theorem gcl(D:Dfn X.K X.mg x qual st ps)(F:Cq X.prog X.w X.K X.mg X.base (CXG X.prog X.w) k D.f D.fd ps (spM X.K n g))(hr:Gn k' X.A)(ha:GA X noE (e :: es) ml)(hk:k<=k':=by decide)(hx:X.xe=λ_ _=>False:=by rfl)(hg:Gl X x:=by rfl)
  (qJ:(x==("__debug__" : Str))=false:=by decide) (he:AX (e :: es) X.env=(false,CH e X.env) :: AX es X.env:=by rfl) (qv:(Dp pos (AX es X.env)).any (·.1)=false:=by rfl) :
  GE X noE (.Call (.Name x p) (e :: es) [] pos) (CW n g ml):=UB F (good_none hx).pass (hr.mono hk) hg D.m D.kp D.b ha qJ he qv
end
abbrev FnAt(K:Frag)(x qual:Str)(st:DB)(f:AU):Prop:=∃(oc:AH) (od:Option AU) (kV doc pm:AH) (an:Option AU) (qi ct:AH) (rp:Array (Option AH)),
 K.lookup f=some ⟨oc,od,.func (fnOf x qual (KW st) (Hs st) (Az st) .none kV doc pm an qi ct),rp⟩/\codeIn K qi qual=true/\keepIn K (.ref f)=true
abbrev EI(K:Frag)(x:Str)(st:DB)(f:AU):Prop:=P4 K BL x=some (some (.ref f))/\FnAt K x x st f
abbrev MR(K:Frag)(C:AU)(x qual:Str)(st:DB)(f:AU):Prop:=findIn K (.ref C) x=some (some (.ref f))/\isFn K (.ref f)=true/\FnAt K x qual st f
abbrev ClsAt(K:Frag)(x:Str)(C:AU):Prop:=P4 K BL x=some (some (.ref C))/\plainGet K C Str.empty=true/\hasDictIn K C=true/\plainOver K C=true/\findIn K (.ref C) "__setattr__" = some (some (.builtin "object.__setattr__"))/\makesIn K C=true/\keepIn K (.ref C)=true
def XW(st:DB)(ps:List Str):Prop:=∀(x qual:Str) (kV doc pm:AH) (an:Option AU) (qi ct:AH) (us:List AH),us.length=ps.length->dY (fnOf x qual (KW st) (Hs st) (Az st) .none kV doc pm an qi ct) ⟨us,[]⟩=pure (ps.zip us)
section
variable{K:Frag}{h:Cu}{mg:Str->Option AH}{x qual:Str}{st:DB}{f C:AU}{ps:List Str}{a b c d e:Str}
theorem FnAt.fd(z:FnAt K x qual st f):∃fd,Fun K x qual st f fd:=by
 obtain⟨oc,od,kV,doc,pm,an,qi,ct,rp,l,c,k⟩:=z;exact⟨_,cV l c k⟩
def mkD(X:K.In h)(G:h.Ns BL mg)(z:EI K x st f)(b:XW st ps):Dfn K mg x x st ps:=⟨f,(FnAt.fd z.2).choose,(FnAt.fd z.2).choose_spec,(FnAt.fd z.2).choose_spec.binds (b x x),dX X G z.1⟩
def mkM(z:MR K C x qual st f)(b:XW st ps):Mtd K x qual st ps:=⟨f,(FnAt.fd z.2.2).choose,(FnAt.fd z.2.2).choose_spec,(FnAt.fd z.2.2).choose_spec.binds (b x qual)⟩
theorem FnAt.kp(z:FnAt K x qual st f):keepIn K (.ref f)=true:=by
 obtain⟨oc,od,kV,doc,pm,an,qi,ct,rp,l,c,k⟩:=z;exact k
theorem mkE(z:MR K C x qual st f):UN K C x f:=⟨z.1,z.2.1,FnAt.kp z.2.2⟩
theorem mkO(X:K.In h)(G:h.Ns BL mg)(z:ClsAt K y C)(i:MR K C "__init__" qual st f):Own K mg y C f:=⟨⟨z.2.1,z.2.2.1,z.2.2.2.1,z.2.2.2.2.1⟩,⟨z.2.2.2.2.2.1,i.1,i.2.1,z.2.2.2.2.2.2⟩,dX X G z.1⟩
abbrev bnd(st:DB)(ps:List Str)(us:List AH):Prop:=∀(x qual:Str) (kV doc pm:AH) (an:Option AU) (qi ct:AH),dY (fnOf x qual (KW st) (Hs st) (Az st) .none kV doc pm an qi ct) ⟨us,[]⟩=pure (ps.zip us)
theorem bd1(z:∀u,bnd st [a] [u]):XW st [a]:=λx q k d p n c t us hl=>by obtain⟨u,rfl⟩:=kh hl;exact z u x q k d p n c t
theorem bd2(z:∀u v,bnd st [a,b] [u,v]):XW st [a,b]:=λx q k d p n c t us hl=>by obtain⟨u,v,rfl⟩:=oY hl;exact z u v x q k d p n c t
theorem bd3(z:∀u v w,bnd st [a,b,c] [u,v,w]):XW st [a,b,c]:=λx q k d p n c t us hl=>by obtain⟨u,v,w,rfl⟩:=oX hl;exact z u v w x q k d p n c t
theorem bd4(z:∀u v w y,bnd st [a,b,c,d] [u,v,w,y]):XW st [a,b,c,d]:=λx q k d p n c t us hl=>by obtain⟨u,v,w,y,rfl⟩:=oW hl;exact z u v w y x q k d p n c t
theorem bd5(z:∀u v w y l,bnd st [a,b,c,d,e] [u,v,w,y,l]):XW st [a,b,c,d,e]:=λx q k d p n c t us hl=>by obtain⟨u,v,w,y,l,rfl⟩:=len5 hl;exact z u v w y l x q k d p n c t
end
open PySem PySem.Spec PyProof.Rows
abbrev Cx.q(X:Cx):Cx:={ X with xe:=λ_ _=>False }
def D7(n:Nat)(mb:MS)(ds:List D)(S:Sto):Res D:=(okR (mb (Hd n ds) S)).bind λf S1=>match f with
 | .rt d=>.ok d S1
 | .nx _=>.ok .non S1
 | _=>.bad
section
variable{P:Ba}{w:Bx}{K:AF}{mg:Str->Option AH}{base:Cu}
theorem gr{x qual}{st}{f}{fd}{N ps}{k n}(F:Fun K x qual st f fd)(Sc:Bb N ps (Az st))(hn:ps.length=n){mb}
  (qK:∀(qi:AH) (A:CC) (outer:List Env) (s:AL) (H:Hp) (E:XK),Gn k (A.deeper (MV qual (Az st) s.heap.objs.size f qi))->GSs (XF (CXG P w) P w K mg base N qual (Az st) f qi A outer s H E).q noE (Hs st) mb) :
  Cq P w K mg base (CXG P w) (k+1) f fd ps (spM K n (D7 N.length mb)):=by
 obtain⟨oc,od,kV,doc,pm,an,qi,ct,rp,rfl,lk,rj⟩:=F.ex
 refine pA lk rj Sc (λvs H Q E h=>by rw[hn];exact h.len) λA outer s H vs Q E hr h=>?_
 obtain⟨ρ,ds,S,h1,h2,h3,h4⟩:=h;have hb:=qK qi A outer s H E hr;refine⟨gS K noE mb,λζ s' σ H' D I q=>Gy (hb ζ s' σ H' D (I.with _) q) (λfl s1 z=>?_) λe s1 z=>z.elim,ρ,_,S,WZ h2,h3,?_⟩
 ·cases fl with
  | next=>obtain⟨σ',H2,J,z⟩:=z;exact⟨σ',H2,J.without,z⟩
  | brk=>obtain⟨σ',H2,J,z⟩:=z;exact⟨σ',H2,J.without,z⟩
  | cont=>obtain⟨σ',H2,J,z⟩:=z;exact⟨σ',H2,J.without,z⟩
  | ret u=>obtain⟨v,σ',H2,J,r,z⟩:=z;exact⟨v,σ',H2,J.without,r,z⟩
 ·unfold D7 at h4
  cases hr:mb (Hd N.length ds) S with
  | bad=>rw[hr]at h4;exact h4.elim
  | err c S'=>rw[hr]at h4;exact h4.elim
  | ok fl S'=>
   rw[hr]at h4
   cases fl with
   | nx e'=>exact λρ' H' σ' l s' r=>h4 ρ' H' .non l s' .non
   | rt d=>exact h4
   | bk e'=>exact h4.elim
   | ct e'=>exact h4.elim
   | ex c e'=>exact h4.elim
end
def rIsQ(K:AF)(c:V)(cv:AH):List V->Hp->VK->Prop:=λxs H Q=>∃x t b,xs=[x,c]/\Nn K H x t/\Et K t cv=some b/\Q (.bl b) H
section
variable{E:EW}{e ce:Expr}{c:V}
theorem c9(hv:∀u,RelV c u->u=cv):Kj X (.builtin "isinstance") (rIsQ X.K c cv):=by
 intro ζ s σ H xs us Q I r h;obtain⟨x,t,b,rfl,ty,e,q⟩:=h;obtain⟨v,w,rfl,r1,r2⟩:=vals2 r;rw[hv w r2]
 exact ZV I r1 ty e λtk=>⟨.bl b,H,I.tok tk,rfl,q⟩
def gR(tab:String->Option Bool)(m:ME):ME:=λe S=>(m e S).bind λd S1=>match tyD d S1 with
  | some T=>match tab T with
   | some b=>.ok (.bl b) S1
   | none=>.bad
  | none=>.bad
theorem cU(hv:∀u,RelV c u->u=cv)(ht:∀T b,tab T=some b->Et X.K (.type T) cv=some b)
  (hg:Gl X "isinstance") (hm:X.mg "isinstance" = none) (h:GE X E e m) (zO:PE X ce (tC c))
  (he:AX [e,ce] X.env=(false,CH e X.env) :: AX [ce] X.env:=by rfl) (tp:AX [ce] X.env=(false,CH ce X.env) :: AX [] X.env:=by rfl) (qv:(Dp pos (AX [ce] X.env)).any (·.1)=false:=by rfl) :
  GE X E (.Call (.Name "isinstance" p) [e,ce] [] pos) (gR tab m):=
 (LI (c9 hv) hg hm pd (FI h (FI zO IS tp) he) (by decide) (by decide) he qv).imp λσ H Q ⟨ρ,l,S,hl,hs,hm⟩=>by
 refine⟨ρ,l,S,hl,hs,hm.seq λd S1 hm ρ1 H1 x l1 s1 r1=>?_⟩
 cases hq:tyD d S1 with
 | none=>rw[hq]at hm;exact hm.elim
 | some T=>
  rw[hq]at hm;dsimp only at hm
  cases hb:tab T with
  | none=>rw[hb]at hm;exact hm.elim
  | some b=>
   rw[hb]at hm;exact⟨x,_,b,rfl,jW s1 r1 hq,ht T b hb,hm ρ1 H1 _ l1 s1 (.bl _)⟩
end
end L2
namespace M
open PySem L2
abbrev oN(e:L2.Lo)(S:L2.Sto):L2.Res L2.Fl:=.ok (.nx e) S
abbrev sR(n:Nat):Option L2.D:=some (.ref n)
abbrev sI(i:Int):Option L2.D:=some (.int i)
abbrev sF(l:List Int):Option L2.D:=some (.fro (l.map L2.D.int))
theorem LD(h:mb (Hd n ds) S=.ok (.rt d) S1):D7 n mb ds S=.ok d S1:=by unfold D7;rw[h];rfl
theorem Wn(h:mb (Hd n ds) S=.ok (.nx e) S1):D7 n mb ds S=.ok .non S1:=by unfold D7;rw[h];rfl
abbrev mIs(tab:String->Option Bool)(_:AU->Option Bool)(m:ME):ME:=gR tab m
theorem og(h:m e S=.ok d S1)(ht:tyD d S1=some T)(hb:tab T=some b):mIs tab tabC m e S=.ok (.bl b) S1:=by
 show gR tab m e S=_;unfold gR;rw[h];dsimp only[Res.bind];rw[ht];dsimp only;rw[hb]
end M
namespace L4
open PySem L2
inductive Cel where
 | no | fz (o:Ob) | ow (i:Nat)
abbrev Fz:=Nat->Cel
inductive Sl where
 | u | v (d:D) | z (o:Ob) | y (o:Ob) | w (i:Nat) (o:Ob) | q (P:(Nat->Option Ob)->D->Prop)
def Sl.ok(S0:Sto)(F:Fz)(S:Sto):Sl->Option D->Prop
 | .u,_=>True
 | .v d,x=>x=some d
 | .z o,x=>∃n,x=some (.ref n)/\F n=.fz o
 | .y o,x=>∃n,x=some (.ref n)/\F n=.fz o/\S0.length<=n
 | .w i o,x=>∃n,x=some (.ref n)/\F n=.ow i/\S[n]?=some o
 | .q P,x=>∃d,x=some d/\∀L:Nat->Option Ob,(∀n o,F n=.fz o->L n=some o)->P L d
structure Vs(S0:Sto)(A:List Sl)(e:Lo)(F:Fz)(S:Sto):Prop where
 kp:Keeps S0 S
 fz:∀n o,F n=.fz o->S[n]?=some o
 ow:∀n i,F n=.ow i->S0.length<=n/\n < S.length
 hi:∀n,S.length<=n->F n=.no
 sl:∀(i:Nat) (a:Sl),A[i]?=some a->∃x,e[i]?=some x/\a.ok S0 F S x
def Fle(F F':Fz):Prop:=∀n o,F n=.fz o->F' n=.fz o
theorem Fle.refl(F:Fz):Fle F F:=λ_ _ h=>h
theorem Fle.trans(a:Fle F G)(b:Fle G H):Fle F H:=λn o h=>b n o (a n o h)
def OY(F:Fz)(S S':Sto):Fz:=λn=>if n < S.length then F n else match S'[n]? with
 | some o=>.fz o
 | none=>.no
section
variable{S0 S S':Sto}{A B:List Sl}{e:Lo}{F:Fz}{α β γ ρ σ τ:Type}
theorem E8(h:n < S.length):OY F S S' n=F n:=qX h
theorem RG(h:S.length<=n)(ho:S'[n]?=some o):OY F S S' n=.fz o:=by
 unfold OY;rw[qY (HX.mpr h),ho]
theorem BG(h:S[n]?=some o):n < S.length:=(AE.mp h).1
theorem Sl.mono{S0:Sto}{F F':Fz}{S S':Sto}{a:Sl}{x:Option D}(h:a.ok S0 F S x)(h1:∀n o,F n=.fz o->F' n=.fz o)(h2:∀n i o,F n=.ow i->S[n]?=some o->F' n=.ow i/\S'[n]?=some o):a.ok S0 F' S' x:=by
 cases a with
 | u=>trivial
 | v d=>exact h
 | z o=>obtain⟨n,h3,h4⟩:=h;exact⟨n,h3,h1 _ _ h4⟩
 | y o=>obtain⟨n,h3,h4,h5⟩:=h;exact⟨n,h3,h1 _ _ h4,h5⟩
 | w i o=>obtain⟨n,h3,h4,h5⟩:=h;exact⟨n,h3,h2 _ _ _ h4 h5⟩
 | q P=>obtain⟨d,h3,h4⟩:=h;exact⟨d,h3,λL hL=>h4 L λn o q=>hL n o (h1 n o q)⟩
theorem Vs.fle(h:Vs S0 A e F S)(S':Sto):Fle F (OY F S S'):=λn o q=>by rw[E8 (BG (h.fz n o q))];exact q
theorem Vs.grow(h:Vs S0 A e F S)(k:Keeps S S'):Vs S0 A e (OY F S S') S':=by
 refine⟨h.kp.trans k,λn o q=>?_,λn i q=>?_,λn hn=>?_,λi a ha=>?_⟩
 ·unfold OY at q
  split at q
  ·rename_i hn
   rw[k.2 n hn];exact h.fz n o q
  ·cases hs:S'[n]? with
   | none=>rw[hs]at q;cases q
   | some o'=>rw[hs]at q;cases q;rfl
 ·unfold OY at q
  split at q
  ·exact⟨(h.ow n i q).1,AS (h.ow n i q).2 k.1⟩
  ·cases hs:S'[n]? with
   | none=>rw[hs]at q;cases q
   | some o'=>rw[hs]at q;cases q
 ·unfold OY
  rw[qY (HX.mpr (Aw k.1 hn)),Bp hn]
 ·obtain⟨x,h1,h2⟩:=h.sl i a ha
  exact⟨x,h1,Sl.mono h2 (h.fle S') λn i o q1 q2=>⟨by rw[E8 (BG q2)];exact q1,by rw[k.2 n (BG q2)];exact q2⟩⟩
theorem Vs.cons(h:Vs S0 A e F S)(hx:a.ok S0 F S x):Vs S0 (a :: A) (x :: e) F S:=
 ⟨h.kp,h.fz,h.ow,h.hi,λi b hb=>by
  cases i with
  | zero=>cases hb;exact⟨x,rfl,hx⟩
  | succ i=>exact h.sl i b hb⟩
theorem Vs.set(h:Vs S0 A e F S)(i:Nat)(hx:a.ok S0 F S x):Vs S0 (A.set i a) (e.set i x) F S:=
 ⟨h.kp,h.fz,h.ow,h.hi,λj b hb=>by
  by_cases c:i=j
  ·subst c
   rw[DP]at hb;rw[qX rfl]at hb;split at hb
   ·rename_i hl
    cases hb;obtain⟨y,hy,_⟩:=h.sl i (A[i]) (AZ hl);exact⟨x,by rw[DP];rw[qX rfl,qX (AE.mp hy).1],hx⟩
   ·cases hb
  ·rw[AY c]at hb ⊢
   exact h.sl j b hb⟩
inductive Wk:List Sl->List Sl->Prop where
 | nil:Wk [] []
 | same {a:Sl} {A B:List Sl}:Wk A B->Wk (a :: A) (a :: B)
 | drop {a:Sl} {A B:List Sl}:Wk A B->Wk (a :: A) (.u :: B)
 | less {o:Ob} {A B:List Sl}:Wk A B->Wk (.y o :: A) (.z o :: B)
theorem Wk.at:∀{A B:List Sl},Wk A B->∀(i:Nat) (b:Sl),B[i]?=some b->∃a,A[i]?=some a/\(b=.u∨b=a∨∃o,a=.y o/\b=.z o)
 | _,_,.nil,i,b,h=>by simp at h
 | _,_,.same w,0,b,h=>by cases h;exact⟨_,rfl,.inr (.inl rfl)⟩
 | _,_,.less w,0,b,h=>by cases h;exact⟨_,rfl,.inr (.inr ⟨_,rfl,rfl⟩)⟩
 | _,_,.less w,i+1,b,h=>Wk.at w i b h
 | _,_,.drop w,0,b,h=>by cases h;exact⟨_,rfl,.inl rfl⟩
 | _,_,.same w,i+1,b,h=>Wk.at w i b h
 | _,_,.drop w,i+1,b,h=>Wk.at w i b h
theorem Wk.refl:∀A:List Sl,Wk A A
 | []=>.nil
 | _ :: A=>.same (Wk.refl A)
theorem Vs.weak(h:Vs S0 A e F S)(w:Wk A B):Vs S0 B e F S:=⟨h.kp,h.fz,h.ow,h.hi,λi b hb=>by
 obtain⟨a,h1,h2⟩:=w.at i b hb;obtain⟨x,h3,h4⟩:=h.sl i a h1
 rcases h2 with rfl | rfl | ⟨o,rfl,rfl⟩
 ·exact⟨x,h3,trivial⟩
 ·exact⟨x,h3,h4⟩
 ·obtain⟨n,h5,h6,_⟩:=h4
  exact⟨x,h3,n,h5,h6⟩⟩
def Sl.oth(i:Nat):Sl->Bool
 | .w k _=>!(Nat.beq k i)
 | _=>true
theorem bU(h:((A.set i .u).all (Sl.oth i))=true)(hj:j≠i)(ha:A[j]?=some (.w k o)):k≠i:=by
 have h1:(A.set i .u)[j]?=some (.w k o):=by rw[AY (CF hj)];exact ha
 have:=CO.mp h _ (BE h1);intro e;subst e;have h2:(!(Nat.beq k k))=true:=this;rw[Nat.beq_refl]at h2;cases h2
theorem Vs.put(h:Vs S0 A e F S)(ht:((A.set i .u).all (Sl.oth i))=true)(ha:A[i]?=some (.w i o))(hx:e[i]?=some (some (.ref n)))(hn:F n=.ow i):Vs S0 (A.set i (.w i o')) e F (S.set n o'):=by
 have hl:=h.ow n i hn;refine⟨h.kp.set hl.1 o',λk q hq=>?_,λk j q=>by rw[DS];exact h.ow k j q,λk hk=>h.hi k (by rw[DS]at hk;exact hk),λj b hb=>?_⟩
 ·have:n≠k:=λc=>by subst c;rw[hn]at hq;cases hq
  rw[AY this];exact h.fz k q hq
 ·by_cases c:i=j
  ·subst c
   rw[DP]at hb;rw[qX rfl]at hb;split at hb
   ·cases hb
    exact⟨_,hx,n,rfl,hn,by rw[DP];rw[qX rfl,qX hl.2]⟩
   ·cases hb
  ·rw[AY c]at hb
   obtain⟨x,h1,h2⟩:=h.sl j b hb;refine⟨x,h1,?_⟩
   cases b with
   | u=>trivial
   | v d=>exact h2
   | z q=>exact h2
   | y q=>exact h2
   | q P=>exact h2
   | w k q=>
    obtain⟨m,h3,h4,h5⟩:=h2;refine⟨m,h3,h4,?_⟩
    have:n≠m:=λz=>by
     subst z;rw[hn]at h4;cases h4;exact bU ht (λz=>c z.symm) hb rfl
    rw[AY this];exact h5
theorem Vs.freeze(h:Vs S0 A e F S)(ht:((A.set i .u).all (Sl.oth i))=true)(ha:A[i]?=some (.w i o)):∃F',Vs S0 (A.set i (.y o)) e F' S/\Fle F F':=by
 obtain⟨x,hx,n,rfl,hn,ho⟩:=h.sl i _ ha
 have g:∀k,k≠n->(if k=n then Cel.fz o else F k)=F k:=λk hk=>qY hk
 have fl:Fle F (λk=>if k=n then Cel.fz o else F k):=λk q hq=>by
  have:k≠n:=λc=>by subst c;rw[hn]at hq;cases hq
  show(if k=n then Cel.fz o else F k)=_;rw[qY this];exact hq
 refine⟨λk=>if k=n then .fz o else F k,⟨h.kp,λk q hq=>?_,λk j q=>?_,λk hk=>?_,λj b hb=>?_⟩,fl⟩
 ·split at hq
  ·rename_i c;cases hq;subst c;exact ho
  ·exact h.fz k q hq
 ·split at q
  ·cases q
  ·exact h.ow k j q
 ·have:k≠n:=λc=>by subst c;exact zX (BG ho) (HX.mpr hk)
  show(if k=n then Cel.fz o else F k)=_;rw[qY this];exact h.hi k hk
 ·by_cases c:i=j
  ·subst c
   rw[DP]at hb;rw[qX rfl]at hb;split at hb
   ·cases hb
    exact⟨_,hx,n,rfl,qX rfl,(h.ow n i hn).1⟩
   ·cases hb
  ·rw[AY c]at hb
   obtain⟨x,h1,h2⟩:=h.sl j b hb;refine⟨x,h1,?_⟩
   cases b with
   | u=>trivial
   | v d=>exact h2
   | z q=>obtain⟨m,h3,h4⟩:=h2;exact⟨m,h3,fl _ _ h4⟩
   | y q=>obtain⟨m,h3,h4,h5⟩:=h2;exact⟨m,h3,fl _ _ h4,h5⟩
   | q P=>obtain⟨d,h3,h4⟩:=h2;exact⟨d,h3,λL hL=>h4 L λn o q=>hL n o (fl n o q)⟩
   | w k q=>
    obtain⟨m,h3,h4,h5⟩:=h2;refine⟨m,h3,?_,h5⟩
    have:m≠n:=λz=>by
     subst z;rw[hn]at h4;cases h4;exact bU ht (λz=>c z.symm) hb rfl
    show(if m=n then Cel.fz o else F m)=_;rw[qY this];exact h4
theorem Vs.own(h:Vs S0 A e F S)(k:Keeps S S'){i n:Nat}{o:Ob}(hn:S.length<=n)(ho:S'[n]?=some o):∃F',Vs S0 (A.set i (.w i o)) (e.set i (some (.ref n))) F' S'/\Fle F F':=by
 have g:=h.grow k;have y9:=BG ho
 have fl:Fle F (λj=>if j=n then Cel.ow i else OY F S S' j):=λj q hq=>by
  have:j≠n:=λc=>by subst c;exact zX (BG (h.fz _ _ hq)) (HX.mpr hn)
  show(if j=n then Cel.ow i else _)=_;rw[qY this];exact h.fle S' _ _ hq
 refine⟨λj=>if j=n then .ow i else OY F S S' j,(Vs.set (a:=.w i o) (x:=some (.ref n)) ⟨g.kp,λj q hq=>?_,λj q hq=>?_,λj hj=>?_,λj b hb=>?_⟩ i ⟨n,rfl,qX rfl,ho⟩),fl⟩
 ·split at hq
  ·cases hq
  ·exact g.fz j q hq
 ·split at hq
  ·rename_i c;subst c;exact⟨Aw h.kp.1 hn,y9⟩
  ·exact g.ow j q hq
 ·have:j≠n:=λc=>by subst c;exact zX y9 (HX.mpr hj)
  show(if j=n then Cel.ow i else _)=_;rw[qY this];exact g.hi j hj
 ·obtain⟨x,h1,h2⟩:=h.sl j b hb
  refine⟨x,h1,Sl.mono h2 fl λm j q q1 q2=>?_⟩;have hm:=BG q2
  have:m≠n:=λc=>by subst c;exact zX hm (HX.mpr hn)
  refine⟨?_,by rw[k.2 m hm];exact q2⟩;show(if m=n then Cel.ow i else _)=_;rw[qY this,E8 hm];exact q1
abbrev Rk(α:Type):=α->Sto->D->Sto->Prop
def rV(enc:α->D):Rk α:=λv _ d _=>d=enc v
def rO(ob:α->Ob):Rk α:=λv _ d S=>∃n,d=.ref n/\S[n]?=some (ob v)
def rN(ob:α->Ob):Rk α:=λv S0 d S=>∃n,d=.ref n/\S0.length<=n/\S[n]?=some (ob v)
def VE(A:List Sl)(m:ME)(R:Rk α)(p:Option α):Prop:=∀v,p=some v->∀S0 e F S,Vs S0 A e F S->∃d S',m e S=.ok d S'/\Keeps S S'/\R v S d S'
def VB(A:List Sl)(t:MT)(p:Option Bool):Prop:=∀v,p=some v->∀S0 e F S,Vs S0 A e F S->∃S',t e S=.ok v S'/\Keeps S S'
def VL(A:List Sl)(ml:ML)(enc:α->D)(p:Option (List α)):Prop:=∀v,p=some v->∀S0 e F S,Vs S0 A e F S->∃S',ml e S=.ok (v.map enc) S'/\Keeps S S'
def VK(A:List Sl)(mi:MI)(enc:α->D)(p:Option (List α)):Prop:=∀v,p=some v->∀S0 e F S,Vs S0 A e F S->∃w S',mi e S=.ok w S'/\Keeps S S'/\∀rh,Keeps S' rh->w rh=some (v.map enc)
def VI(A:List Sl)(mi:MI)(enc:α->D)(p:Option (List α)):Prop:=∀v,p=some v->∀S0 e F S,Vs S0 A e F S->∃w S',mi e S=.ok w S'/\Keeps S S'/\∀uo rh,Fle (OY F S S') uo->(∀n o,uo n=.fz o->rh[n]?=some o)->w rh=some (v.map enc)
theorem VI.k(h:VI A mi enc p):VK A mi enc p:=λv hv S0 e F S hs=>by
 obtain⟨w,S',h1,h2,h3⟩:=h v hv S0 e F S hs;have g:=hs.grow h2;exact⟨w,S',h1,h2,λrh k=>h3 _ rh (g.fle rh) (g.grow k).fz⟩
def eT(enc:α->D)(l:List α):D:=.tup (l.map enc)
def eP(a:α->D)(b:β->D)(x:α×β):D:=.tup [a x.1,b x.2]
def eU(_:Unit):D:=.non
def eF(l:List Int):D:=.fro (l.map D.int)
def oL(enc:α->D)(l:List α):Ob:=.lst (l.map enc)
theorem jQ(h:VE A m R p)(i:∀v S d S',R v S d S'->R' v S d S'):VE A m R' p:=λv hv S0 e F S hs=>by
 obtain⟨d,S',h1,h2,h3⟩:=h v hv S0 e F S hs;exact⟨d,S',h1,h2,i _ _ _ _ h3⟩
theorem MK(h:VE A m (rN ob) p):VE A m (rO ob) p:=jQ h λv S d S' ⟨n,h1,_,h2⟩=>⟨n,h1,h2⟩
theorem AQ(h:A[i]?=some (.v (enc v))):VE A (AD i) (rV enc) (some v):=λ_ hv S0 e F S hs=>by
 cases hv;obtain⟨x,h1,h2⟩:=hs.sl i _ h;cases h2;exact⟨_,S,by unfold AD;rw[h1],Keeps.refl S,rfl⟩
theorem DU(h:A[i]?=some (.z (ob v))):VE A (AD i) (rO ob) (some v):=λ_ hv S0 e F S hs=>by
 cases hv;obtain⟨x,h1,n,rfl,h2⟩:=hs.sl i _ h;exact⟨_,S,by unfold AD;rw[h1],Keeps.refl S,n,rfl,hs.fz _ _ h2⟩
theorem Pm(h:A[i]?=some (.y (ob v))):VE A (AD i) (rO ob) (some v):=λ_ hv S0 e F S hs=>by
 cases hv;obtain⟨x,h1,n,rfl,h2,_⟩:=hs.sl i _ h;exact⟨_,S,by unfold AD;rw[h1],Keeps.refl S,n,rfl,hs.fz _ _ h2⟩
theorem Lq(h:A[i]?=some (.w k (ob v))):VE A (AD i) (rO ob) (some v):=λ_ hv S0 e F S hs=>by
 cases hv;obtain⟨x,h1,n,rfl,h2,h3⟩:=hs.sl i _ h;exact⟨_,S,by unfold AD;rw[h1],Keeps.refl S,n,rfl,h3⟩
theorem CK(h:d=enc v):VE A (mC d) (rV enc) (some v):=λ_ hv S0 e F S hs=>by
 cases hv;exact⟨d,S,rfl,Keeps.refl S,h⟩
theorem Av(h:p.bind q=some v):∃x,p=some x/\q x=some v:=Option.bind_eq_some_iff.mp h
theorem IC{f:D->D->Sto->Res D}{a b:ME}{ea:α->D}{eb:β->D}{ec:γ->D}{pa:Option α}{pb:Option β}{g:α->β->Option γ}(ha:VE A a (rV ea) pa)(hb:VE A b (rV eb) pb)
  (hf:∀x y z S,g x y=some z->f (ea x) (eb y) S=.ok (ec z) S):VE A (m2 f a b) (rV ec) (pa.bind λx=>pb.bind λy=>g x y):=λv hv S0 e F S hs=>by
 obtain⟨x,h1,hv⟩:=Av hv;obtain⟨y,h2,h3⟩:=Av hv;obtain⟨d1,S1,q1,k1,rfl⟩:=ha x h1 S0 e F S hs;obtain⟨d2,S2,q2,k2,rfl⟩:=hb y h2 S0 e _ S1 (hs.grow k1);exact⟨_,S2,En q1 q2 (hf x y v S2 h3),k1.trans k2,rfl⟩
theorem jO{f:D->D->Sto->Res D}{a b:ME}{ea:α->D}{ob:β->Ob}{ec:γ->D}{pa:Option α}{pb:Option β}{g:α->β->Option γ}(ha:VE A a (rV ea) pa)(hb:VE A b (rO ob) pb)
  (hf:∀x y z S (n:Nat),S[n]?=some (ob y)->g x y=some z->f (ea x) (.ref n) S=.ok (ec z) S):VE A (m2 f a b) (rV ec) (pa.bind λx=>pb.bind λy=>g x y):=λv hv S0 e F S hs=>by
 obtain⟨x,h1,hv⟩:=Av hv;obtain⟨y,h2,h3⟩:=Av hv;obtain⟨d1,S1,q1,k1,rfl⟩:=ha x h1 S0 e F S hs;obtain⟨d2,S2,q2,k2,n,rfl,hn⟩:=hb y h2 S0 e _ S1 (hs.grow k1);exact⟨_,S2,En q1 q2 (hf x y v S2 n hn h3),k1.trans k2,rfl⟩
theorem WM{f:D->D->Sto->Res D}{a b:ME}{ob:α->Ob}{eb:β->D}{ec:γ->D}{pa:Option α}{pb:Option β}{g:α->β->Option γ}(ha:VE A a (rO ob) pa)(hb:VE A b (rV eb) pb)
  (hf:∀x y z S (n:Nat),S[n]?=some (ob x)->g x y=some z->f (.ref n) (eb y) S=.ok (ec z) S):VE A (m2 f a b) (rV ec) (pa.bind λx=>pb.bind λy=>g x y):=λv hv S0 e F S hs=>by
 obtain⟨x,h1,hv⟩:=Av hv;obtain⟨y,h2,h3⟩:=Av hv;obtain⟨d1,S1,q1,k1,n,rfl,hn⟩:=ha x h1 S0 e F S hs;obtain⟨d2,S2,q2,k2,rfl⟩:=hb y h2 S0 e _ S1 (hs.grow k1);exact⟨_,S2,En q1 q2 (hf x y v S2 n (k2.at hn) h3),k1.trans k2,rfl⟩
theorem Ha(h:VE A m (rV D.bl) p):VB A (mB m) p:=λv hv S0 e F S hs=>by
 obtain⟨d,S',h1,h2,rfl⟩:=h v hv S0 e F S hs;exact⟨S',UO h1,h2⟩
theorem jS(h:VE A m (rV D.bl) p):VB A (FO m) p:=λv hv S0 e F S hs=>by
 obtain⟨d,S',h1,h2,rfl⟩:=h v hv S0 e F S hs;refine⟨S',?_,h2⟩;unfold FO;rw[h1];rfl
theorem HE:VB A Gx (some true):=λv hv S0 e F S hs=>by cases hv;exact⟨S,rfl,Keeps.refl S⟩
theorem aT(h:VB A t p):VB A (PX t) (p.bind λb=>some (!b)):=λv hv S0 e F S hs=>by
 obtain⟨x,h1,h2⟩:=Av hv;cases h2;obtain⟨S',h3,h4⟩:=h x h1 S0 e F S hs;exact⟨S',Ml h3,h4⟩
theorem TJ(h:VB A t p)(hu:VB A u q):VB A (NX t u) (p.bind λb=>if b=true then q else some false):=λv hv S0 e F S hs=>by
 obtain⟨x,h1,h2⟩:=Av hv;obtain⟨S1,h3,h4⟩:=h x h1 S0 e F S hs
 cases x with
 | true=>
  obtain⟨S2,h5,h6⟩:=hu v h2 S0 e _ S1 (hs.grow h4);exact⟨S2,(UJ h3).trans h5,h4.trans h6⟩
 | false=>cases h2;exact⟨S1,YW h3,h4⟩
theorem nB(h:VB A t p)(hu:VB A u q):VB A (mOr t u) (p.bind λb=>if b=true then some true else q):=λv hv S0 e F S hs=>by
 obtain⟨x,h1,h2⟩:=Av hv;obtain⟨S1,h3,h4⟩:=h x h1 S0 e F S hs
 cases x with
 | false=>
  obtain⟨S2,h5,h6⟩:=hu v h2 S0 e _ S1 (hs.grow h4);exact⟨S2,(bX h3).trans h5,h4.trans h6⟩
 | true=>cases h2;exact⟨S1,kJ h3,h4⟩
theorem WK(ht:VB A t pt)(ha:VE A a R pa)(hb:VE A b R pb)(hR:∀v S S1 d S',S.length<=S1.length->R v S1 d S'->R v S d S'):VE A (VZ t a b) R (pt.bind λc=>if c=true then pa else pb):=λv hv S0 e F S hs=>by
 obtain⟨x,h1,h2⟩:=Av hv;obtain⟨S1,h3,h4⟩:=ht x h1 S0 e F S hs
 cases x with
 | true=>
  obtain⟨d,S2,h5,h6,h7⟩:=ha v h2 S0 e _ S1 (hs.grow h4);exact⟨d,S2,(cF h3).trans h5,h4.trans h6,hR _ _ _ _ _ h4.1 h7⟩
 | false=>
  obtain⟨d,S2,h5,h6,h7⟩:=hb v h2 S0 e _ S1 (hs.grow h4);exact⟨d,S2,(cF h3).trans h5,h4.trans h6,hR _ _ _ _ _ h4.1 h7⟩
theorem E0:∀(v:α) (S S1:Sto) (d:D) (S':Sto),S.length<=S1.length->rV enc v S1 d S'->rV enc v S d S':=λ_ _ _ _ _ _ h=>h
theorem NN:∀(v:α) (S S1:Sto) (d:D) (S':Sto),S.length<=S1.length->rN ob v S1 d S'->rN ob v S d S':=λ_ _ _ _ _ l ⟨n,h1,h2,h3⟩=>⟨n,h1,Aw l h2,h3⟩
inductive Fw(ρ σ:Type) where
 | rt (r:ρ) | nx (s:σ) | bk (s:σ) | ct (s:σ)
def VG(S0:Sto)(F:Fz)(S':Sto)(R:Rk ρ)(B:σ->List Sl)(g:Fl):Fw ρ σ->Prop
 | .nx s=>∃e' F',g=.nx e'/\Vs S0 (B s) e' F' S'/\Fle F F'
 | .ct s=>∃e' F',g=.ct e'/\Vs S0 (B s) e' F' S'/\Fle F F'
 | .bk s=>∃e' F',g=.bk e'/\Vs S0 (B s) e' F' S'/\Fle F F'
 | .rt r=>∃d,g=.rt d/\R r S0 d S'/\Keeps S0 S'
def VS(A:List Sl)(b:MS)(R:Rk ρ)(p:Option (Fw ρ σ))(B:σ->List Sl):Prop:=∀f,p=some f->∀S0 e F S,Vs S0 A e F S->∃g S',b e S=.ok g S'/\VG S0 F S' R B g f
def BV(p:Option (Fw ρ σ))(q:σ->Option (Fw ρ τ)):Option (Fw ρ τ):=match p with
 | some (.nx s)=>q s
 | some (.rt r)=>some (.rt r)
 | _=>none
theorem VG.up{S0:Sto}{F F1:Fz}{S':Sto}{R:Rk ρ}{B:σ->List Sl}{g:Fl}{f:Fw ρ σ}(l:Fle F F1)(h:VG S0 F1 S' R B g f):VG S0 F S' R B g f:=by
 cases f with
 | rt r=>exact h
 | nx s=>obtain⟨e',F',h1,h2,h3⟩:=h;exact⟨e',F',h1,h2,l.trans h3⟩
 | bk s=>obtain⟨e',F',h1,h2,h3⟩:=h;exact⟨e',F',h1,h2,l.trans h3⟩
 | ct s=>obtain⟨e',F',h1,h2,h3⟩:=h;exact⟨e',F',h1,h2,l.trans h3⟩
theorem BK{a b:MS}{R:Rk ρ}{p:Option (Fw ρ σ)}{q:σ->Option (Fw ρ τ)}{B:σ->List Sl}{C:τ->List Sl}(ha:VS A a R p B)(hb:∀s,VS (B s) b R (q s) C):VS A (BO a b) R (BV p q) C:=λf hf S0 e F S hs=>by
 cases p with
 | none=>cases hf
 | some w=>
  obtain⟨g,S1,h1,h2⟩:=ha _ rfl S0 e F S hs
  cases w with
  | nx s=>
   obtain⟨e1,F1,rfl,h2,h3⟩:=h2;obtain⟨g2,S2,h4,h5⟩:=hb s f hf S0 e1 F1 S1 h2;exact⟨g2,S2,(Bw h1).trans h4,h5.up h3⟩
  | rt r=>
   cases hf;obtain⟨d,rfl,h2,h3⟩:=h2;exact⟨_,S1,TV h1,d,rfl,h2,h3⟩
  | bk s=>cases hf
  | ct s=>cases hf
theorem Gq{R:Rk ρ}{B:σ->List Sl}{s:σ}(w:Wk A (B s)):VS A sNx R (some (.nx s)) B:=λf hf S0 e F S hs=>by
 cases hf;exact⟨_,S,rfl,e,F,rfl,hs.weak w,Fle.refl F⟩
def Fn(g:σ->τ)(p:Option (Fw ρ σ)):Option (Fw ρ τ):=match p with
 | some (.nx s)=>some (.nx (g s))
 | some (.rt r)=>some (.rt r)
 | some (.bk s)=>some (.bk (g s))
 | some (.ct s)=>some (.ct (g s))
 | none=>none
theorem EC{b:MS}{R:Rk ρ}{p:Option (Fw ρ σ)}{g:σ->τ}{B:σ->List Sl}{C:τ->List Sl}(h:VS A b R p B)(w:∀s,Wk (B s) (C (g s))):VS A b R (Fn g p) C:=λf hf S0 e F S hs=>by
 cases p with
 | none=>cases hf
 | some x=>
  obtain⟨g,S1,h1,h2⟩:=h _ rfl S0 e F S hs
  cases x with
  | nx s=>cases hf;obtain⟨e1,F1,rfl,h2,h3⟩:=h2;exact⟨_,S1,h1,e1,F1,rfl,h2.weak (w s),h3⟩
  | rt r=>cases hf;exact⟨_,S1,h1,h2⟩
  | bk s=>cases hf;obtain⟨e1,F1,rfl,h2,h3⟩:=h2;exact⟨_,S1,h1,e1,F1,rfl,h2.weak (w s),h3⟩
  | ct s=>cases hf;obtain⟨e1,F1,rfl,h2,h3⟩:=h2;exact⟨_,S1,h1,e1,F1,rfl,h2.weak (w s),h3⟩
theorem EB(h:VE A m (rV enc) p):VS A (DH i m) R (p.bind λv=>some (.nx v)) (λv=>A.set i (.v (enc v))):=λf hf S0 e F S hs=>by
 obtain⟨v,h1,h2⟩:=Av hf;cases h2;obtain⟨d,S',h3,h4,rfl⟩:=h v h1 S0 e F S hs;exact⟨_,S',K9 h3,_,_,rfl,(hs.grow h4).set i rfl,hs.fle S'⟩
theorem TB(h:VE A m (rN ob) p):VS A (DH i m) R (p.bind λv=>some (.nx v)) (λv=>A.set i (.y (ob v))):=λf hf S0 e F S hs=>by
 obtain⟨v,h1,h2⟩:=Av hf;cases h2;obtain⟨d,S',h3,h4,n,rfl,h5,h6⟩:=h v h1 S0 e F S hs;exact⟨_,S',K9 h3,_,_,rfl,(hs.grow h4).set (a:=.y (ob v)) i ⟨n,rfl,RG h5 h6,Aw hs.kp.1 h5⟩,hs.fle S'⟩
theorem Iv(h:VE A m (rN ob) p):VS A (DH i m) R (p.bind λv=>some (.nx v)) (λv=>A.set i (.w i (ob v))):=λf hf S0 e F S hs=>by
 obtain⟨v,h1,h2⟩:=Av hf;cases h2;obtain⟨d,S',h3,h4,n,rfl,h5,h6⟩:=h v h1 S0 e F S hs;obtain⟨F',h7,h8⟩:=hs.own h4 (i:=i) h5 h6;exact⟨_,S',K9 h3,_,F',rfl,h7,h8⟩
theorem Yk(h:A[j]?=some (.y o)):VS A (DH i (AD j)) R (some (.nx ())) (λ_:Unit=>A.set i (.y o)):=λf hf S0 e F S hs=>by
 cases hf;obtain⟨x,h1,n,rfl,h2,h3⟩:=hs.sl j _ h;exact⟨_,S,K9 (d:=.ref n) (by unfold AD;rw[h1]),_,F,rfl,hs.set (a:=.y o) i ⟨n,rfl,h2,h3⟩,Fle.refl F⟩
theorem jH{b:MS}{R:Rk ρ}{p:Option (Fw ρ σ)}{B:σ->List Sl}{o:Ob}(i:Nat)(ha:A[i]?=some (.w i o))(ht:((A.set i .u).all (Sl.oth i))=true)(h:VS (A.set i (.y o)) b R p B):VS A b R p B:=λf hf S0 e F S hs=>by
 obtain⟨F',h1,h2⟩:=hs.freeze ht ha;obtain⟨g,S',h3,h4⟩:=h f hf S0 e F' S h1;exact⟨g,S',h3,h4.up h2⟩
theorem Dz{m:ME}{enc:ρ->D}{p:Option ρ}{B:σ->List Sl}(h:VE A m (rV enc) p):VS A (DM m) (rV enc) (p.bind λv=>some (.rt v)) B:=λf hf S0 e F S hs=>by
 obtain⟨v,h1,h2⟩:=Av hf;cases h2;obtain⟨d,S',h3,h4,rfl⟩:=h v h1 S0 e F S hs;exact⟨_,S',LF h3,_,rfl,rfl,hs.kp.trans h4⟩
theorem Iw{m:ME}{ob:ρ->Ob}{p:Option ρ}{B:σ->List Sl}(h:VE A m (rN ob) p):VS A (DM m) (rN ob) (p.bind λv=>some (.rt v)) B:=λf hf S0 e F S hs=>by
 obtain⟨v,h1,h2⟩:=Av hf;cases h2;obtain⟨d,S',h3,h4,n,rfl,h5,h6⟩:=h v h1 S0 e F S hs;exact⟨_,S',LF h3,_,rfl,⟨n,rfl,Aw hs.kp.1 h5,h6⟩,hs.kp.trans h4⟩
theorem TC{i:Nat}{ob:ρ->Ob}{v:ρ}{B:σ->List Sl}{k:Nat}(h:A[i]?=some (.w k (ob v))):VS A (DM (AD i)) (rN ob) (some (.rt v)) B:=λf hf S0 e F S hs=>by
 cases hf;obtain⟨x,h1,n,rfl,h2,h3⟩:=hs.sl i _ h;exact⟨_,S,LF (d:=.ref n) (by unfold AD;rw[h1]),_,rfl,⟨n,rfl,(hs.ow _ _ h2).1,h3⟩,hs.kp⟩
theorem dv{i:Nat}{ob:ρ->Ob}{v:ρ}{B:σ->List Sl}(h:A[i]?=some (.y (ob v))):VS A (DM (AD i)) (rN ob) (some (.rt v)) B:=λf hf S0 e F S hs=>by
 cases hf;obtain⟨x,h1,n,rfl,h2,h3⟩:=hs.sl i _ h;exact⟨_,S,LF (d:=.ref n) (by unfold AD;rw[h1]),_,rfl,⟨n,rfl,h3,hs.fz _ _ h2⟩,hs.kp⟩
theorem Gr{t:MT}{a b:MS}{R:Rk ρ}{pt:Option Bool}{p q:Option (Fw ρ σ)}{B:σ->List Sl}(ht:VB A t pt)(ha:VS A a R p B)(hb:VS A b R q B):VS A (sIf t a b) R (pt.bind λc=>if c=true then p else q) B:=λf hf S0 e F S hs=>by
 obtain⟨c,h1,h2⟩:=Av hf;obtain⟨S1,h3,h4⟩:=ht c h1 S0 e F S hs
 cases c with
 | true=>
  obtain⟨g,S2,h5,h6⟩:=ha f h2 S0 e _ S1 (hs.grow h4);exact⟨g,S2,(Gw h3).trans h5,h6.up (hs.fle S1)⟩
 | false=>
  obtain⟨g,S2,h5,h6⟩:=hb f h2 S0 e _ S1 (hs.grow h4);exact⟨g,S2,(Gw h3).trans h5,h6.up (hs.fle S1)⟩
def Zt(l:List α)(x:α):Option (List α):=if l.length < 1000000 then some (l++[x])else none
def Vl(l k:List α):Option (List α):=if l.length+k.length<=1000000 then some (l++k)else none
theorem ZP(h:n < 1000000):n < sizeLine:=AS h (by decide)
theorem gW(h:n<=1000000):n<=sizeLine:=Aw h (by decide)
theorem aF(hi:A[i]?=some (.w i (oL enc l)))(h:VE A m (rV enc) p)(ht:((A.set i .u).all (Sl.oth i))=true) :
  VS A (HR (R4 (AD i) m)) R (p.bind λv=>(Zt l v).bind λl'=>some (.nx l')) (λl'=>A.set i (.w i (oL enc l'))):=λf hf S0 e F S hs=>by
 obtain⟨v,h1,h2⟩:=Av hf;obtain⟨l',h2,h0⟩:=Av h2;cases h0;unfold Zt at h2;split at h2
 ·rename_i hl
  cases h2;obtain⟨x,g1,n,rfl,g2,g3⟩:=hs.sl i _ hi;obtain⟨d,S',h3,h4,rfl⟩:=h v h1 S0 e F S hs;have hg:=hs.grow h4;have hx:=XN (mo:=AD i) (e:=e) (S:=S) (S1:=S) (n:=n) (by unfold AD;rw[g1]) g3 h3 (h4.at g3) (by rw[AC];exact ZP hl);rw[show l.map enc++[enc v]=(l++[v]).map enc by simp]at hx;exact⟨_,_,L6 hx,e,_,rfl,hg.put ht hi g1 (by rw[E8 (BG g3)];exact g2),hs.fle S'⟩
 ·cases h2
theorem jI(hi:A[i]?=some (.w i (oL enc l)))(h:VE A m (rN (oL enc)) p)(ht:((A.set i .u).all (Sl.oth i))=true) :
  VS A (HR (NW (AD i) m)) R (p.bind λv=>(Vl l v).bind λl'=>some (.nx l')) (λl'=>A.set i (.w i (oL enc l'))):=λf hf S0 e F S hs=>by
 obtain⟨v,h1,h2⟩:=Av hf;obtain⟨l',h2,h0⟩:=Av h2;cases h0;unfold Vl at h2;split at h2
 ·rename_i hl
  cases h2;obtain⟨x,g1,n,rfl,g2,g3⟩:=hs.sl i _ hi;obtain⟨d,S',h3,h4,k,rfl,h5,h6⟩:=h v h1 S0 e F S hs;have hg:=hs.grow h4;have hx:=Zg (mo:=AD i) (e:=e) (S:=S) (S1:=S) (n:=n) (by unfold AD;rw[g1]) g3 h3 (h4.at g3) h6 (λc=>by subst c;exact zX (BG g3) (HX.mpr h5)) (by rw[AC,AC];exact gW hl);rw[<-Cf]at hx;exact⟨_,_,L6 hx,e,_,rfl,hg.put ht hi g1 (by rw[E8 (BG g3)];exact g2),hs.fle S'⟩
 ·cases h2
theorem Xi(h:VE A m Rm p):VS A (HR m) R (p.bind λ_=>some (.nx ())) (λ_:Unit=>A):=λf hf S0 e F S hs=>by
 obtain⟨v,h1,h2⟩:=Av hf;cases h2;obtain⟨d,S',h3,h4,_⟩:=h v h1 S0 e F S hs;exact⟨_,S',L6 h3,e,_,rfl,hs.grow h4,hs.fle S'⟩
theorem N2(hi:A[i]?=some (.v (D.int x)))(h:VE A m (rV D.int) p):VS A (Qb i g m) R (p.bind λy=>some (.nx (g x y))) (λz=>A.set i (.v (D.int z))):=λf hf S0 e F S hs=>by
 obtain⟨v,h1,h2⟩:=Av hf;cases h2;obtain⟨d,S',h3,h4,rfl⟩:=h v h1 S0 e F S hs;obtain⟨y,g1,g2⟩:=hs.sl i _ hi;cases g2;refine⟨_,S',?_,_,_,rfl,(hs.grow h4).set (a:=.v (D.int (g x v))) i rfl,hs.fle S'⟩;unfold Qb;rw[g1];dsimp only;rw[h3];rfl
def VT(g:MG)(enc:α->D)(t:α->List Sl->List Sl):Prop:=∀x S0 A e F S,Vs S0 A e F S->∃e',g (enc x) e S=.ok e' S/\Vs S0 (t x A) e' F S
theorem Fg:VT (tgN i) enc (λx A=>A.set i (.v (enc x))):=λx S0 A e F S hs=>⟨_,rfl,hs.set (a:=.v (enc x)) i rfl⟩
theorem dr:VT (Iy 2 (DL (tgN i) (DL (tgN j) Jk))) (eP a b) (λx A=>(A.set i (.v (a x.1))).set j (.v (b x.2))):=λx S0 A e F S hs=>⟨_,rfl,(hs.set (a:=.v (a x.1)) i rfl).set (a:=.v (b x.2)) j rfl⟩
def Fd:List α->σ->(σ->α->Option (Fw ρ σ))->Option (Fw ρ σ)
 | [],s,_=>some (.nx s)
 | x :: l,s,q=>match q s x with
  | some (.nx s')=>Fd l s' q
  | some (.ct s')=>Fd l s' q
  | some (.bk s')=>some (.nx s')
  | some (.rt r)=>some (.rt r)
  | none=>none
theorem dw{enc:α->D}{g:MG}{t:α->List Sl->List Sl}{b:MS}{R:Rk ρ}{q:σ->α->Option (Fw ρ σ)}{B:σ->List Sl}(hg:VT g enc t)(hb:∀s x,VS (t x (B s)) b R (q s x) B){w:Pd}{S0:Sto}{F1:Fz}{full:List α}
  (hw:∀uo rh,Fle F1 uo->(∀n o,uo n=.fz o->rh[n]?=some o)->w rh=some (full.map enc)):∀(l:List α) (k:Nat),full.drop k=l->∀(s:σ) (f:Fw ρ σ),Fd l s q=some f->∀e F S,Vs S0 (B s) e F S->Fle F1 F->∃h S',Kq w g b (l.length) k e S=.ok h S'/\VG S0 F1 S' R B h f:=by
 intro l
 induction l with
 | nil=>
  intro k hk s f hf e F S hs hF;cases hf
  have:full.length<=k:=by
   have:=congrArg MJ hk;rw[FT,Hw]at this
   lia
  refine⟨_,S,?_,e,F,rfl,hs,hF⟩;unfold Kq;rw[hw F S hF hs.fz];dsimp only;rw[Bp (by rw[AC];exact this)]
 | cons x l ih=>
  intro k hk s f hf e F S hs hF
  have hx:full[k]?=some x:=by
   have:=congrArg (λz=>z[0]?) hk;rw[Nq]at this;simpa using this
  have qE:full.drop (k+1)=l:=by
   have e1:full.drop (k+1)=(full.drop k).drop 1:=by rw[iR]
   exact e1.trans (congrArg (List.drop 1) hk)
  obtain⟨e1,g1,g2⟩:=hg x S0 _ e F S hs
  have run:∀h S',b e1 S=.ok h S'->Kq w g b ((x :: l).length) k e S=(match h with
    | .nx e2=>Kq w g b l.length (k+1) e2 S'
    | .ct e2=>Kq w g b l.length (k+1) e2 S'
    | .bk e2=>.ok (.nx e2) S'
    | .rt d=>.ok (.rt d) S'
    | .ex c e2=>.ok (.ex c e2) S'):=λh S' qg=>by
   show Kq w g b (l.length+1) k e S=_
   conv=>lhs;unfold Kq
   rw[hw F S hF hs.fz];dsimp only;rw[Aa,hx];dsimp only[mJ];rw[g1];dsimp only[Res.bind];rw[qg]
   all_goals (cases h <;> rfl)
  unfold Fd at hf;split at hf
  ·rename_i s' hq
   obtain⟨h,S1,h1,e2,F2,rfl,h2,h3⟩:=hb s x _ hq S0 e1 F S g2;rw[run _ _ h1];exact ih (k+1) qE s' f hf e2 F2 S1 h2 (hF.trans h3)
  ·rename_i s' hq
   obtain⟨h,S1,h1,e2,F2,rfl,h2,h3⟩:=hb s x _ hq S0 e1 F S g2;rw[run _ _ h1];exact ih (k+1) qE s' f hf e2 F2 S1 h2 (hF.trans h3)
  ·rename_i s' hq
   cases hf;obtain⟨h,S1,h1,e2,F2,rfl,h2,h3⟩:=hb s x _ hq S0 e1 F S g2;rw[run _ _ h1];exact⟨_,S1,rfl,e2,F2,rfl,h2,hF.trans h3⟩
  ·rename_i r hq
   cases hf;obtain⟨h,S1,h1,d,rfl,h2,h3⟩:=hb s x _ hq S0 e1 F S g2;rw[run _ _ h1];exact⟨_,S1,rfl,d,rfl,h2,h3⟩
  ·cases hf
theorem G2{enc:α->D}{mi:MI}{g:MG}{t:α->List Sl->List Sl}{b:MS}{R:Rk ρ}{p:Option (List α)}{q:σ->α->Option (Fw ρ σ)}{B:σ->List Sl}{s0:σ}(hi:VI A mi enc p)(hg:VT g enc t)(w0:Wk A (B s0))(hb:∀s x,VS (t x (B s)) b R (q s x) B) :
  VS A (Gk mi g b) R (p.bind λl=>Fd l s0 q) B:=λf hf S0 e F S hs=>by
 obtain⟨l,h1,h2⟩:=Av hf;obtain⟨w,S1,h3,h4,h5⟩:=hi l h1 S0 e F S hs;have ve:=hs.grow h4
 have hl:Df w S1=l.length:=by unfold Df;rw[h5 _ S1 (Fle.refl _) ve.fz];exact AC _
 obtain⟨h,S2,h6,h7⟩:=dw hg hb h5 l 0 rfl s0 f h2 e _ S1 (ve.weak w0) (Fle.refl _);refine⟨h,S2,?_,h7.up (hs.fle S1)⟩;rw[JT h3,hl];exact h6
def RP(c:α->Option Bool)(m:α->Option β):List α->Option (List β)
 | []=>some []
 | x :: l=>(c x).bind λb=>if b=true then(m x).bind λy=>(RP c m l).bind λys=>some (y :: ys)else RP c m l
def EV(l:List α)(c:α->Option Bool)(m:α->Option β):Option (List β):=if l.length<=1000000 then RP c m l else none
theorem aG{enc:α->D}{eb:β->D}{g:MG}{P:List (Option D)->Prop}{T:α->List Sl}{c:MT}{m:ME}{pc:α->Option Bool}{pm:α->Option β}
  (hg:∀x S0 e F S pre,P pre->Vs S0 A e F S->∃qB,g (enc x) (pre++e) S=.ok (qB++e) S/\P qB/\Vs S0 (T x) (qB++e) F S)
  (hc:∀x,VB (T x) c (pc x)) (hm:∀x,VE (T x) m (rV eb) (pm x)) {w:Pd} {S0:Sto} {e:Lo} {full:List α} {S1:Sto} (hf:full.length<=1000000) (hw:∀rh,Keeps S1 rh->w rh=some (full.map enc)) :
  ∀(l:List α) (k:Nat),full.drop k=l->∀(r:List β),RP pc pm l=some r->∀pre F S acc,P pre->Vs S0 A e F S->Keeps S1 S->acc.length<=k->∃S',Ft w g c m l.length k (pre++e) S acc=.ok (acc++r.map eb) S'/\Keeps S S':=by
 intro l
 induction l with
 | nil=>
  intro k hk r hr pre F S acc hp hs uq ha;cases hr
  have:full.length<=k:=by
   have:=congrArg MJ hk;rw[FT,Hw]at this
   lia
  refine⟨S,?_,Keeps.refl S⟩;unfold Ft;rw[hw S uq];dsimp only;rw[Bp (by rw[AC];exact this),Oh,CL]
 | cons x l ih=>
  intro k hk r hr pre F S acc hp hs uq ha
  have hx:full[k]?=some x:=by
   have:=congrArg (λz=>z[0]?) hk;rw[Nq]at this;simpa using this
  have qE:full.drop (k+1)=l:=by
   have e1:full.drop (k+1)=(full.drop k).drop 1:=by rw[iR]
   exact e1.trans (congrArg (List.drop 1) hk)
  have zP:k < full.length:=(AE.mp hx).1;obtain⟨qB,g1,g2,g3⟩:=hg x S0 e F S pre hp hs;unfold RP at hr;obtain⟨b,h1,h2⟩:=Av hr;obtain⟨S2,h3,h4⟩:=hc x b h1 S0 _ F S g3;have qz:=hs.grow h4
  show ∃S',Ft w g c m (l.length+1) k (pre++e) S acc=_/\_
  conv=>arg 1;ext S';arg 1;lhs;unfold Ft
  rw[hw S uq];dsimp only;rw[Aa,hx];dsimp only[mJ];rw[qX (At ha (ZP (AS zP hf))),g1];dsimp only[okR,Res.bind];rw[h3];dsimp only[okR,Res.bind]
  cases b with
  | true=>
   rw[qX rfl]at h2 ⊢;obtain⟨y,h5,h6⟩:=Av h2;obtain⟨ys,zQ,h7⟩:=Av h6;cases h7;obtain⟨d,S3,h8,h9,rfl⟩:=hm x y h5 S0 _ _ S2 (g3.grow h4);rw[h8];obtain⟨S4,q1,q2⟩:=ih (k+1) qE ys zQ qB _ S3 (acc++[eb y]) g2 (qz.grow h9) (uq.trans (h4.trans h9)) (by rw[As,BW];lia);refine⟨S4,?_,(h4.trans h9).trans q2⟩;show Ft w g c m l.length (k+1) (qB++e) S3 (acc++[eb y])=_;rw[q1,D4];rfl
  | false=>
   rw[qY AI]at h2 ⊢;obtain⟨S4,q1,q2⟩:=ih (k+1) qE r h2 qB _ S2 acc g2 qz (uq.trans h4) (by lia);exact⟨S4,q1,h4.trans q2⟩
theorem Xj{enc:α->D}{eb:β->D}{n:Nat}{mi:MI}{g:MG}{P:List (Option D)->Prop}{T:α->List Sl}{c:MT}{m:ME}{p:Option (List α)}{pc:α->Option Bool}{pm:α->Option β}(hi:VK A mi enc p)(h0:P (Bf n none))
  (hg:∀x S0 e F S pre,P pre->Vs S0 A e F S->∃qB,g (enc x) (pre++e) S=.ok (qB++e) S/\P qB/\Vs S0 (T x) (qB++e) F S)
  (hc:∀x,VB (T x) c (pc x)) (hm:∀x,VE (T x) m (rV eb) (pm x)):VL A (EM n mi g c m) eb (p.bind λl=>EV l pc pm):=λr hr S0 e F S hs=>by
 obtain⟨l,h1,h2⟩:=Av hr;obtain⟨w,S1,h3,h4,h5⟩:=hi l h1 S0 e F S hs;unfold EV at h2;split at h2
 ·rename_i hl
  have rT:=hs.grow h4;obtain⟨S2,h6,h7⟩:=aG hg hc hm hl h5 l 0 rfl r h2 _ _ S1 [] h0 rT (Keeps.refl _) (AK _);refine⟨S2,?_,h4.trans h7⟩;rw[UE h3,show Df w S1=l.length by unfold Df;rw[h5 S1 (Keeps.refl _)];exact AC _];exact h6
 ·cases h2
theorem ED{enc:α->D}{eb:β->D}{mi:MI}{c:MT}{m:ME}{p:Option (List α)}{pc:α->Option Bool}{pm:α->Option β}(hi:VK A mi enc p)(hc:∀x,VB (.v (enc x) :: A) c (pc x))(hm:∀x,VE (.v (enc x) :: A) m (rV eb) (pm x)) :
  VL A (EM 1 mi (tgN 0) c m) eb (p.bind λl=>EV l pc pm):=
 Xj (P:=λpre=>∃z,pre=[z]) hi ⟨none,rfl⟩ (λx S0 e F S pre hp hs=>by
  obtain⟨z,rfl⟩:=hp
  exact⟨[some (enc x)],rfl,⟨_,rfl⟩,hs.cons (a:=.v (enc x)) rfl⟩) hc hm
theorem aH{a:α->D}{b:γ->D}{eb:β->D}{mi:MI}{c:MT}{m:ME}{p:Option (List (α×γ))}{pc:α×γ->Option Bool}{pm:α×γ->Option β}(hi:VK A mi (eP a b) p)(hc:∀x:α×γ,VB (.v (a x.1) :: .v (b x.2) :: A) c (pc x))(hm:∀x:α×γ,VE (.v (a x.1) :: .v (b x.2) :: A) m (rV eb) (pm x)) :
  VL A (EM 2 mi (Iy 2 (DL (tgN 0) (DL (tgN 1) Jk))) c m) eb (p.bind λl=>EV l pc pm):=
 Xj (P:=λpre=>∃z y,pre=[z,y]) hi ⟨none,none,rfl⟩ (λx S0 e F S pre hp hs=>by
  obtain⟨z,y,rfl⟩:=hp
  exact⟨[some (a x.1),some (b x.2)],rfl,⟨_,_,rfl⟩,(hs.cons (a:=.v (b x.2)) rfl).cons (a:=.v (a x.1)) rfl⟩) hc hm
theorem Dq(h:VL A ml enc p):VE A (FP ml) (rN (oL enc)) p:=λv hv S0 e F S hs=>by
 obtain⟨S',h1,h2⟩:=h v hv S0 e F S hs;exact⟨_,_,Wv h1,h2.trans (Keeps.app _ _),_,rfl,h2.1,FQ _ _⟩
inductive Ar where
 | v (d:D) | z (o:Ob) | q (P:(Nat->Option Ob)->D->Prop)
def Ar.ok(S:Sto):Ar->D->Prop
 | .v d,x=>x=d
 | .z o,x=>∃n,x=.ref n/\S[n]?=some o
 | .q P,x=>∀L:Nat->Option Ob,(∀n o,S[n]?=some o->L n=some o)->P L x
def Ar.sl:Ar->Sl
 | .v d=>.v d
 | .z o=>.z o
 | .q P=>.q P
def Kk(S:Sto):List Ar->List D->Prop
 | [],[]=>True
 | a :: as,d :: ds=>a.ok S d/\Kk S as ds
 | _,_=>False
theorem Kk.len:∀{as:List Ar} {ds:List D},Kk S as ds->ds.length=as.length
 | [],[],_=>rfl
 | _ :: as,_ :: ds,h=>by rw[Aj,Aj,Kk.len h.2]
 | [],_ :: _,h=>h.elim
 | _ :: _,[],h=>h.elim
theorem Kk.at:∀{as:List Ar} {ds:List D},Kk S as ds->∀(i:Nat) (a:Ar),as[i]?=some a->∃d,ds[i]?=some d/\a.ok S d
 | [],[],_,i,a,h=>by simp at h
 | b :: as,d :: ds,h,0,a,q=>by cases q;exact⟨d,rfl,h.1⟩
 | b :: as,d :: ds,h,i+1,a,q=>Kk.at h.2 i a q
 | [],_ :: _,h,_,_,_=>h.elim
 | _ :: _,[],h,_,_,_=>h.elim
def VF(f:List D->Sto->Res D)(as:List Ar)(R:Rk α)(p:Option α):Prop:=∀v,p=some v->∀S ds,Kk S as ds->∃d S',f ds S=.ok d S'/\Keeps S S'/\R v S d S'
def VA(A:List Sl)(ml:ML)(p:Option γ)(ar:γ->List Ar):Prop:=∀v,p=some v->∀S0 e F S,Vs S0 A e F S->∃ds S',ml e S=.ok ds S'/\Keeps S S'/\Kk S' (ar v) ds
theorem Ci:VA A BR (some ()) (λ_=>[]):=λv hv S0 e F S hs=>⟨[],S,rfl,Keeps.refl S,trivial⟩
theorem EF(h:VE A m (rV enc) p)(hl:VA A ml q ar):VA A (AT m ml) (p.bind λx=>q.bind λy=>some (x,y)) (λz=>.v (enc z.1) :: ar z.2):=λv hv S0 e F S hs=>by
 obtain⟨x,h1,h2⟩:=Av hv;obtain⟨y,tu,h3⟩:=Av h2;cases h3;obtain⟨d,S1,h4,h5,rfl⟩:=h x h1 S0 e F S hs;obtain⟨ds,S2,h6,h7,h8⟩:=hl y tu S0 e _ S1 (hs.grow h5);exact⟨_,S2,CV h4 h6,h5.trans h7,rfl,h8⟩
theorem Rq(h:VE A m (rO ob) p)(hl:VA A ml q ar):VA A (AT m ml) (p.bind λx=>q.bind λy=>some (x,y)) (λz=>.z (ob z.1) :: ar z.2):=λv hv S0 e F S hs=>by
 obtain⟨x,h1,h2⟩:=Av hv;obtain⟨y,tu,h3⟩:=Av h2;cases h3;obtain⟨d,S1,h4,h5,n,rfl,h0⟩:=h x h1 S0 e F S hs;obtain⟨ds,S2,h6,h7,h8⟩:=hl y tu S0 e _ S1 (hs.grow h5);exact⟨_,S2,CV h4 h6,h5.trans h7,⟨n,rfl,h7.at h0⟩,h8⟩
theorem Ch(ha:VA A ml p ar)(hf:∀z,VF f (ar z) R (q z))(hn:∀z,(ar z).length=n)(hR:∀v S S1 d S',S.length<=S1.length->R v S1 d S'->R v S d S'):VE A (CW n f ml) R (p.bind q):=λv hv S0 e F S hs=>by
 obtain⟨z,h1,h2⟩:=Av hv;obtain⟨ds,S1,h3,h4,h5⟩:=ha z h1 S0 e F S hs;obtain⟨d,S2,h6,h7,h8⟩:=hf z v h2 S1 ds h5;exact⟨d,S2,(KY h3 (h5.len.trans (hn z))).trans h6,h4.trans h7,hR _ _ _ _ _ h4.1 h8⟩
def Jq(S:Sto):Fz:=λn=>match S[n]? with
 | some o=>.fz o
 | none=>.no
theorem Vs.start(h:Kk S as ds):Vs S (as.map Ar.sl++Bf (n - as.length) .u) (Hd n ds) (Jq S) S:=by
 refine⟨Keeps.refl S,λn o q=>?_,λn i q=>?_,λn hn=>by unfold Jq;rw[Bp hn],λi a ha=>?_⟩
 ·unfold Jq at q
  split at q
  ·rename_i o' ho;cases q;exact ho
  ·cases q
 ·unfold Jq at q
  split at q <;> cases q
 ·unfold Hd
  by_cases c:i < as.length
  ·rw[Ao (by rw[AC];exact c),Aa]at ha
   rw[Ao (by rw[AC,h.len];exact c),Aa]
   cases hq:as[i]? with
   | none=>rw[hq]at ha;cases ha
   | some b=>
    rw[hq]at ha;cases ha;obtain⟨d,h1,h2⟩:=h.at i b hq;refine⟨some d,by rw[h1];rfl,?_⟩
    cases b with
    | v x=>exact congrArg some h2
    | z o=>obtain⟨m,h3,h4⟩:=h2;exact⟨m,congrArg some h3,by unfold Jq;rw[h4]⟩
    | q P=>exact⟨d,rfl,λL hL=>h2 L λn o q=>hL n o (by unfold Jq;rw[q])⟩
  ·rw[Bg (by rw[AC];lia)]at ha
   rw[AC,DQ]at ha;split at ha
   ·rename_i qt
    cases ha;refine⟨none,?_,trivial⟩;rw[Bg (by rw[AC,h.len];lia),AC,h.len,DQ,qX qt]
   ·cases ha
def Gm(p:Option (Fw ρ σ)):Option ρ:=match p with
 | some (.rt r)=>some r
 | _=>none
def bT(p:Option (Fw Unit σ)):Option Unit:=match p with
 | some (.rt r)=>some ()
 | some (.nx _)=>some ()
 | _=>none
end
section
variable{S0 S S':Sto}{A:List Sl}{α β:Type}
section
variable{a b c:ME}{pa pb pc:Option Int}
theorem ID(ha:VE A a (rV D.int) pa)(hb:VE A b (rV D.int) pb):VE A (m2 Jr a b) (rV D.int) (pa.bind λx=>pb.bind λy=>some (x+y)):=IC ha hb λx y z S h=>by cases h;rfl
theorem Kz(ha:VE A a (rV D.int) pa)(hb:VE A b (rV D.int) pb):VE A (m2 Rs a b) (rV D.int) (pa.bind λx=>pb.bind λy=>some (x - y)):=IC ha hb λx y z S h=>by cases h;rfl
def gF(x y:Int):Option Int:=if Zw x y then some (x * y)else none
def ca(x y:Int):Option Int:=if dJ x y then some (x / y)else none
def bo(x y:Int):Option Int:=if 0 < y then some (x % y)else none
theorem aK(ha:VE A a (rV D.int) pa)(hb:VE A b (rV D.int) pb):VE A (m2 gH a b) (rV D.int) (pa.bind λx=>pb.bind λy=>gF x y):=IC ha hb λx y z S h=>by
 unfold gF at h;split at h
 ·rename_i hc;cases h;exact qX hc
 ·cases h
theorem eL(ha:VE A a (rV D.int) pa)(hb:VE A b (rV D.int) pb):VE A (m2 Nk a b) (rV D.int) (pa.bind λx=>pb.bind λy=>ca x y):=IC ha hb λx y z S h=>by
 unfold ca at h;split at h
 ·rename_i hc;cases h;exact qX hc
 ·cases h
theorem aL(ha:VE A a (rV D.int) pa)(hb:VE A b (rV D.int) pb):VE A (m2 R3 a b) (rV D.int) (pa.bind λx=>pb.bind λy=>bo x y):=IC ha hb λx y z S h=>by
 unfold bo at h;split at h
 ·rename_i hc;cases h;exact X2 hc
 ·cases h
theorem ND(hk:(decide (0 < k)&&decide (k<=1000000))=true)(ha:VE A a (rV D.int) pa):VE A (m2 Nk a (mC (.int k))) (rV D.int) (pa.bind λx=>some (x / k)):=λv hv S0 e F S hs=>by
 obtain⟨x,h1,h2⟩:=Av hv;cases h2;obtain⟨d,S',h3,h4,rfl⟩:=ha x h1 S0 e F S hs;have qE:=Ax _ _▸hk;exact⟨_,S',En h3 rfl (cb (of_decide_eq_true qE.1) (of_decide_eq_true qE.2)),h4,rfl⟩
theorem Pn(hk:decide (0 < k)=true)(ha:VE A a (rV D.int) pa):VE A (m2 R3 a (mC (.int k))) (rV D.int) (pa.bind λx=>some (x % k)):=λv hv S0 e F S hs=>by
 obtain⟨x,h1,h2⟩:=Av hv;cases h2;obtain⟨d,S',h3,h4,rfl⟩:=ha x h1 S0 e F S hs;exact⟨_,S',En h3 rfl (X2 (of_decide_eq_true hk)),h4,rfl⟩
theorem aJ(ha:VE A a (rV D.int) pa):VE A (bu a) (rV D.int) (pa.bind λx=>some (-x)):=λv hv S0 e F S hs=>by
 obtain⟨x,h1,h2⟩:=Av hv;cases h2;obtain⟨d,S',h3,h4,rfl⟩:=ha x h1 S0 e F S hs;exact⟨_,S',by unfold bu;rw[h3];rfl,h4,rfl⟩
theorem iU(ha:VE A a (rV D.int) pa)(hb:VE A b (rV D.int) pb):VE A (m2 ltD a b) (rV D.bl) (pa.bind λx=>pb.bind λy=>some (decide (x < y))):=IC ha hb λx y z S h=>by cases h;rfl
theorem aO(ha:VE A a (rV D.int) pa)(hb:VE A b (rV D.int) pb):VE A (m2 gtD a b) (rV D.bl) (pa.bind λx=>pb.bind λy=>some (decide (y < x))):=IC ha hb λx y z S h=>by cases h;rfl
theorem Ui{f g:D->D->Sto->Res D}{P Q:Int->Int->Bool}(hf:∀x y S,f (.int x) (.int y) S=.ok (.bl (P x y)) S)(hg:∀x y S,g (.int x) (.int y) S=.ok (.bl (Q x y)) S)(ha:VE A a (rV D.int) pa)(hb:VE A b (rV D.int) pb)(hc:VE A c (rV D.int) pc) :
  VE A (m3 f g a b c) (rV D.bl) (pa.bind λx=>pb.bind λy=>if P x y=true then pc.bind λz=>some (Q y z)else some false):=λv hv S0 e F S hs=>by
 obtain⟨x,h1,hv⟩:=Av hv;obtain⟨y,h2,h3⟩:=Av hv;obtain⟨d1,S1,q1,k1,rfl⟩:=ha x h1 S0 e F S hs;obtain⟨d2,S2,q2,k2,rfl⟩:=hb y h2 S0 e _ S1 (hs.grow k1);have e1:=hf x y S2
 cases hp:P x y with
 | false=>
  rw[hp]at h3 e1;cases h3;exact⟨_,S2,oR q1 q2 e1,k1.trans k2,rfl⟩
 | true=>
  rw[hp]at h3 e1;rw[qX rfl]at h3;obtain⟨w,h4,h5⟩:=Av h3;cases h5;obtain⟨d3,S3,q3,k3,rfl⟩:=hc w h4 S0 e _ S2 ((hs.grow k1).grow k2);exact⟨_,S3,ii q1 q2 e1 q3 (hg y w S3),(k1.trans k2).trans k3,rfl⟩
theorem pK(x y:Int)(S:Sto):ltD (.int x) (.int y) S=.ok (.bl (decide (x < y))) S:=rfl
theorem c8(x y:Int)(S:Sto):leD (.int x) (.int y) S=.ok (.bl (decide (x<=y))) S:=rfl
theorem eI(ha:VE A a (rV D.int) pa)(hb:VE A b (rV D.int) pb):VE A (mQ Os (AT a (AT b BR))) (rV D.int) (pa.bind λx=>pb.bind λy=>some (if y < x then y else x)):=λv hv S0 e F S hs=>by
 obtain⟨x,h1,hv⟩:=Av hv;obtain⟨y,h2,h3⟩:=Av hv;cases h3;obtain⟨d1,S1,q1,k1,rfl⟩:=ha x h1 S0 e F S hs;obtain⟨d2,S2,q2,k2,rfl⟩:=hb y h2 S0 e _ S1 (hs.grow k1);exact⟨_,S2,fD (CV q1 (CV q2 rfl)) rfl,k1.trans k2,rfl⟩
theorem Xl(ha:VE A a (rV D.int) pa)(hb:VE A b (rV D.int) pb):VE A (mQ NV (AT a (AT b BR))) (rV D.int) (pa.bind λx=>pb.bind λy=>some (if y > x then y else x)):=λv hv S0 e F S hs=>by
 obtain⟨x,h1,hv⟩:=Av hv;obtain⟨y,h2,h3⟩:=Av hv;cases h3;obtain⟨d1,S1,q1,k1,rfl⟩:=ha x h1 S0 e F S hs;obtain⟨d2,S2,q2,k2,rfl⟩:=hb y h2 S0 e _ S1 (hs.grow k1);exact⟨_,S2,fD (CV q1 (CV q2 rfl)) rfl,k1.trans k2,rfl⟩
theorem WL{pb}(hb:VE A b (rV D.bl) pb):VE A (ZO b) (rV D.int) (pb.bind λx=>some (if x=true then 1 else 0)):=λv hv S0 e F S hs=>by
 obtain⟨x,h1,h2⟩:=Av hv;cases h2;obtain⟨d,S',h3,h4,rfl⟩:=hb x h1 S0 e F S hs;refine⟨_,S',?_,h4,rfl⟩;unfold ZO;rw[h3];rfl
theorem TH{pa pb}(ha:VE A a (rV D.bl) pa)(hb:VE A b (rV D.bl) pb):VE A (Qs a b) (rV D.bl) (pa.bind λx=>if x=true then pb else some false):=λv hv S0 e F S hs=>by
 obtain⟨x,h1,h2⟩:=Av hv;obtain⟨d,S',h3,h4,rfl⟩:=ha x h1 S0 e F S hs
 cases x with
 | true=>
  obtain⟨d,S2,h5,h6,rfl⟩:=hb v h2 S0 e _ S' (hs.grow h4);exact⟨_,S2,by unfold Qs;rw[h3];exact h5,h4.trans h6,rfl⟩
 | false=>cases h2;exact⟨_,S',by unfold Qs;rw[h3];rfl,h4,rfl⟩
theorem eG{pa}(ha:VE A a (rV D.bl) pa):VE A (X5 a) (rV D.bl) (pa.bind λx=>some (!x)):=λv hv S0 e F S hs=>by
 obtain⟨x,h1,h2⟩:=Av hv;cases h2;obtain⟨d,S',h3,h4,rfl⟩:=ha x h1 S0 e F S hs;exact⟨_,S',by unfold X5;rw[h3];rfl,h4,rfl⟩
end
def EqN(n:Nat)(enc:α->D)[DecidableEq α]:Prop:=∀x y,eqP n (enc x) (enc y)=some (decide (x=y))
def NL(enc:α->D):Prop:=∀x S,Qu (enc x) S=none
theorem Dy:EqN n D.int:=λx y=>by
 have:Lb (.int x) (.int y)=some (decide (x=y)):=rfl
 cases n <;> exact this
theorem P0:EqN n D.str:=λx y=>by
 have:Lb (.str x) (.str y)=some (decide (x=y)):=rfl
 cases n <;> exact this
theorem Fm:NL D.int:=λ_ _=>rfl
theorem Tr:NL D.str:=λ_ _=>rfl
section
variable{a b:ME}{enc:α->D}[DecidableEq α]
theorem lU(h:EqN 8 enc)(n:NL enc)(neg:Bool)(x y:α)(S:Sto):eqD neg (enc x) (enc y) S=.ok (.bl (if neg then !decide (x=y)else decide (x=y))) S:=by
 unfold eqD eqB;rw[n x S,n y S];dsimp only;rw[h x y]
theorem GC(h:EqN 8 enc)(n:NL enc)(ha:VE A a (rV enc) pa)(hb:VE A b (rV enc) pb):VE A (m2 (eqD false) a b) (rV D.bl) (pa.bind λx=>pb.bind λy=>some (decide (x=y))):=IC ha hb λx y z S q=>by cases q;exact lU h n false x y S
theorem Vv(h:EqN 8 enc)(x:α):∀l:List α,MQ (enc x) (l.map enc)=some (decide (x∈l))
 | []=>by simp[MQ]
 | y :: l=>by
  rw[A9];unfold MQ;rw[h y x,Vv h x l]
  by_cases c:y=x
  ·subst c;simp
  ·have:¬x=y:=λz=>c z.symm
   simp[c,this]
theorem k6(h:EqN 8 enc)(neg:Bool)(x:α){l:List α}{d:D}{S:Sto}(hs:GF d S=some (l.map enc)):inA neg (enc x) d S=.ok (.bl (if neg then !decide (x∈l)else decide (x∈l))) S:=by
 show JP (inD neg (enc x) d S) _=_
 have e:inD neg (enc x) d S=.ok (.bl (if neg then !decide (x∈l)else decide (x∈l))) S:=by
  unfold inD;rw[hs];dsimp only;rw[Vv h]
 rw[e];rfl
theorem Xk{pl:Option (List α)}(h:EqN 8 enc)(ha:VE A a (rV enc) pa)(hb:VE A b (rV (eT enc)) pl):VE A (m2 (inA true) a b) (rV D.bl) (pa.bind λx=>pl.bind λl=>some (!decide (x∈l))):=IC ha hb λx l z S q=>by cases q;exact k6 h true x rfl
end
section
variable{a b m mo:ME}
theorem iD(l:List α)(i:Int)(f:α->β):atI (l.map f) i=(atI l i).map f:=by
 unfold atI;rw[AC]
 cases ixN l.length i with
 | none=>rfl
 | some j=>show(l.map f)[j]?=(l[j]?).map f;rw[Aa]
theorem W2(hs:GF d S=some (l.map enc))(h:atI l i=some x):ixA d (.int i) S=.ok (enc x) S:=by
 show JP (ixD d (.int i) S) _=_
 have:ixD d (.int i) S=.ok (enc x) S:=by
  unfold ixD;rw[hs];dsimp only;rw[iD,h];rfl
 rw[this];rfl
theorem aN(ha:VE A a (rV (eT enc)) pl)(hb:VE A b (rV D.int) pi):VE A (m2 ixA a b) (rV enc) (pl.bind λl=>pi.bind λi=>atI l i):=IC ha hb λl i z S q=>W2 rfl q
theorem jP{pl}(ha:VE A a (rV eF) pl)(hb:VE A b (rV D.int) pi):VE A (m2 ixA a b) (rV D.int) (pl.bind λl=>pi.bind λi=>atI l i):=IC ha hb λl i z S q=>W2 rfl q
theorem G3(ha:VE A a (rO (oL enc)) pl)(hb:VE A b (rV D.int) pi):VE A (m2 ixA a b) (rV enc) (pl.bind λl=>pi.bind λi=>atI l i):=WM ha hb λl i z S n hn q=>W2 (IG hn) q
theorem eJ{pl}(ha:VE A a (rV eF) pl):VE A (PY a) (rV D.int) (pl.bind λl=>some (l.length:Int)):=λv hv S0 e F S hs=>by
 obtain⟨l,h1,h2⟩:=Av hv;cases h2;obtain⟨d,S',h3,h4,rfl⟩:=ha l h1 S0 e F S hs;exact⟨_,S',(b6 (ds:=l.map D.int) h3 rfl).trans (by rw[AC]),h4,rfl⟩
theorem Po(ha:VE A a (rO (oL enc)) pl):VE A (PY a) (rV D.int) (pl.bind λl=>some (l.length:Int)):=λv hv S0 e F S hs=>by
 obtain⟨l,h1,h2⟩:=Av hv;cases h2;obtain⟨d,S',h3,h4,n,rfl,hn⟩:=ha l h1 S0 e F S hs;exact⟨_,S',(b6 (ds:=l.map enc) h3 (IG hn)).trans (by rw[AC]),h4,rfl⟩
theorem Qz:∀ns:List Int,JC (ns.map D.int)=some ns
 | []=>rfl
 | x :: ns=>by rw[A9];unfold JC;rw[Qz ns];rfl
theorem N4(ha:VE A a (rO (oL enc)) pl):VE A (Hh a) (rV (eT enc)) pl:=λl hv S0 e F S hs=>by
 obtain⟨d,S',h3,h4,n,rfl,hn⟩:=ha l hv S0 e F S hs;exact⟨_,S',NF h3 (IG hn),h4,rfl⟩
theorem IB:VL A BR enc (some []):=λv hv S0 e F S hs=>by cases hv;exact⟨S,rfl,Keeps.refl S⟩
theorem Hq(h:VE A m (rV enc) p)(hl:VL A ml enc pl):VL A (AT m ml) enc (p.bind λx=>pl.bind λl=>some (x :: l)):=λv hv S0 e F S hs=>by
 obtain⟨x,h1,h2⟩:=Av hv;obtain⟨l,tu,h3⟩:=Av h2;cases h3;obtain⟨d,S1,h4,h5,rfl⟩:=h x h1 S0 e F S hs;obtain⟨S2,h6,h7⟩:=hl l tu S0 e _ S1 (hs.grow h5);exact⟨S2,CV h4 h6,h5.trans h7⟩
def Kr(l:List α):Option (List α):=if l.length<=1000000 then some l else none
theorem HP(h:VL A ml enc pl):VL A (GV ml) enc (pl.bind Kr):=λv hv S0 e F S hs=>by
 obtain⟨l,h1,h2⟩:=Av hv;unfold Kr at h2;split at h2
 ·rename_i hl
  cases h2;obtain⟨S',h3,h4⟩:=h _ h1 S0 e F S hs;refine⟨S',?_,h4⟩;unfold GV;rw[h3];dsimp only[Res.bind];rw[qX (by rw[AC];exact gW hl)]
 ·cases h2
theorem WJ(h:VL A ml enc pl):VE A (Kp ml) (rV (eT enc)) (pl.bind Kr):=λv hv S0 e F S hs=>by
 obtain⟨l,h1,h2⟩:=Av hv;unfold Kr at h2;split at h2
 ·rename_i hl
  cases h2;obtain⟨S',h3,h4⟩:=h _ h1 S0 e F S hs;refine⟨_,S',?_,h4,rfl⟩;unfold Kp;rw[h3];dsimp only[Res.bind];rw[qX (by rw[AC];exact gW hl)];rfl
 ·cases h2
theorem Lr(ha:VE A a (rV a') pa)(hb:VE A b (rV b') pb):VE A (Kp (AT a (AT b BR))) (rV (eP a' b')) (pa.bind λx=>pb.bind λy=>some (x,y)):=λv hv S0 e F S hs=>by
 obtain⟨x,h1,hv⟩:=Av hv;obtain⟨y,h2,h3⟩:=Av hv;cases h3;obtain⟨d1,S1,q1,k1,rfl⟩:=ha x h1 S0 e F S hs;obtain⟨d2,S2,q2,k2,rfl⟩:=hb y h2 S0 e _ S1 (hs.grow k1);exact⟨_,S2,aX (ds:=[a' x,b' y]) (CV q1 (CV q2 rfl)) (by simp),k1.trans k2,rfl⟩
theorem Xn(ha:VE A a (rV (eT enc)) pl)(hb:VE A b (rV (eT enc)) pk):VE A (m2 Jr a b) (rV (eT enc)) (pl.bind λl=>pk.bind λk=>Vl l k):=IC ha hb λl k z S q=>by
 unfold Vl at q;split at q
 ·rename_i hl
  cases q;unfold eT;rw[Cf];exact eS (by rw[AC,AC];exact gW hl)
 ·cases q
def VO(A:List Sl)(mo:MO)(p:Option (Option Int)):Prop:=∀v,p=some v->∀S0 e F S,Vs S0 A e F S->∃S',mo e S=.ok v S'/\Keeps S S'
theorem eA:VO A bd (some none):=λv hv S0 e F S hs=>by cases hv;exact⟨S,rfl,Keeps.refl S⟩
theorem dz(h:VE A m (rV D.int) pi):VO A (X1 m) (pi.bind λi=>some (some i)):=λv hv S0 e F S hs=>by
 obtain⟨x,h1,h2⟩:=Av hv;cases h2;obtain⟨d,S',h3,h4,rfl⟩:=h x h1 S0 e F S hs;exact⟨S',by unfold X1;rw[h3];rfl,h4⟩
theorem cu(l:List α)(f:α->β)(lo hi:Option Int):OZ (l.map f) lo hi=(OZ l lo hi).map f:=by
 unfold OZ;rw[AC,<-List.map_drop,<-i8]
theorem eM(ha:VE A a (rO (oL enc)) pl)(hl:VO A mlo po)(hh:VO A mhi ph):VE A (Tt a mlo mhi) (rN (oL enc)) (pl.bind λl=>po.bind λx=>ph.bind λy=>some (OZ l x y)):=λv hv S0 e F S hs=>by
 obtain⟨l,h1,hv⟩:=Av hv;obtain⟨x,h2,hv⟩:=Av hv;obtain⟨y,h3,h4⟩:=Av hv;cases h4;obtain⟨d1,S1,q1,k1,n,rfl,hn⟩:=ha l h1 S0 e F S hs;obtain⟨S2,q2,k2⟩:=hl x h2 S0 e _ S1 (hs.grow k1);obtain⟨S3,q3,k3⟩:=hh y h3 S0 e _ S2 ((hs.grow k1).grow k2);refine⟨.ref S3.length,S3++[oL enc (OZ l x y)],?_,((k1.trans k2).trans k3).trans (Keeps.app _ _),_,rfl,((k1.trans k2).trans k3).1,FQ _ _⟩;unfold Tt;rw[q1];dsimp only[Res.bind];rw[q2];dsimp only;rw[q3];dsimp only;unfold TU;dsimp only;rw[Vb ((k2.trans k3).at hn)];show Res.ok _ (S3++[Ob.lst (OZ (l.map enc) x y)])=_;rw[cu];rfl
def SY{α β:Type}(l:List α)(v:β):Option β:=if l.length < 64 then some v else none
theorem Vk{α β:Type}{l:List α}{v:β}(h:l.length < 64):SY l v=some v:=qX h
theorem XB{α β:Type}{l:List α}{v u:β}(h:SY l v=some u):l.length < 64/\v=u:=by
 unfold SY at h;split at h
 ·cases h
  exact⟨by assumption,rfl⟩
 ·cases h
theorem QH(ha:VE A a (rV (eT enc)) pl):VI A (Eo a) enc pl:=λl hv S0 e F S hs=>by
 obtain⟨d,S',h3,h4,rfl⟩:=ha l hv S0 e F S hs;exact⟨_,S',Q0 (xs:=l.map enc) h3,h4,λ_ _ _ _=>rfl⟩
theorem TF(ha:VE A a (rN (oL enc)) pl):VI A (Eo a) enc pl:=λl hv S0 e F S hs=>by
 obtain⟨d,S',h3,h4,n,rfl,h5,h6⟩:=ha l hv S0 e F S hs;exact⟨_,S',LR h3 h6,h4,λF2 S2 hF h=>Dt (h n _ (hF _ _ (RG h5 h6)))⟩
theorem eC(h:A[i]?=some (.y (oL enc l))):VI A (Eo (AD i)) enc (some l):=λ_ hv S0 e F S hs=>by
 cases hv;obtain⟨x,h1,n,rfl,h2,_⟩:=hs.sl i _ h;have hn:=hs.fz _ _ h2;exact⟨_,S,LR (n:=n) (by unfold AD;rw[h1]) hn,Keeps.refl S,λF2 S2 hF h=>Dt (h n _ (hF _ _ (by rw[E8 (BG hn)];exact h2)))⟩
def DI(lo:Int)(n:Nat):List Int:=(C9 n).map λi:Nat=>lo+i
def Mf(j:Int):Option (List Int):=if -1000000<=j/\j<=1000000 then some (DI 0 j.toNat)else none
def Y8(i j:Int):Option (List Int):=if -1000000<=i/\i<=1000000/\-1000000<=j/\j<=1000000 then some (DI i (j - i).toNat)else none
theorem az(lo:Int)(n:Nat):IQ lo n=(DI lo n).map D.int:=by
 unfold IQ DI;rw[BC];rfl
theorem EE(ha:VE A a (rV D.int) pi):VI A (iR1 (AT a BR)) D.int (pi.bind Mf):=λl hv S0 e F S hs=>by
 obtain⟨j,h1,h2⟩:=Av hv;obtain⟨d,S',h3,h4,rfl⟩:=ha j h1 S0 e F S hs;unfold Mf at h2;split at h2
 ·rename_i hj
  cases h2;exact⟨_,S',cK (j:=j) (CV h3 rfl) hj.1 hj.2,h4,λ_ _ _ _=>congrArg some (az _ _)⟩
 ·cases h2
theorem N3(ha:VE A a (rV D.int) pi)(hb:VE A b (rV D.int) pj):VI A (iR2 (AT a (AT b BR))) D.int (pi.bind λi=>pj.bind λj=>Y8 i j):=λl hv S0 e F S hs=>by
 obtain⟨i,h1,hv⟩:=Av hv;obtain⟨j,h0,h2⟩:=Av hv;obtain⟨d,S1,h3,h4,rfl⟩:=ha i h1 S0 e F S hs;obtain⟨d,S2,h5,h6,rfl⟩:=hb j h0 S0 e _ S1 (hs.grow h4);unfold Y8 at h2;split at h2
 ·rename_i hj
  cases h2;exact⟨_,S2,k9 (i:=i) (j:=j) (CV h3 (CV h5 rfl)) hj.1 hj.2.1 hj.2.2.1 hj.2.2.2,h4.trans h6,λ_ _ _ _=>congrArg some (az _ _)⟩
 ·cases h2
def C0(l:List α):List (Int×α):=l.zipIdx.map λx=>((x.2:Int),x.1)
theorem Sd(l:List α):RK (l.map enc)=(C0 l).map (eP D.int enc):=by
 unfold RK C0;rw[List.zipIdx_map,BC,BC];rfl
end
end
section
variable{α β ρ σ κ κ':Type}
def oDK(enc:α->D)(l:List (Int×α)):Ob:=.dK (l.map λx=>(DR x.1,enc x.2))
theorem QK[DecidableEq κ][DecidableEq κ']{kk:κ->κ'}(hk:∀x y,kk x=kk y->x=y)(f:α->β)(l:List (κ×α))(k:κ):Ag (l.map λx=>(kk x.1,f x.2)) (kk k)=(Ag l k).map f:=by
 unfold Ag
 induction l with
 | nil=>rfl
 | cons x l ih=>
  rw[A9,B1,B1]
  by_cases c:x.1=k
  ·rw[wX c,wX (show kk x.1=kk k by rw[c])]
   rfl
  ·rw[wY c,wY λz=>c (hk _ _ z)]
   exact ih
theorem Qg[DecidableEq κ][DecidableEq κ']{kk:κ->κ'}(hk:∀x y,kk x=kk y->x=y)(f:α->β)(l:List (κ×α))(k:κ)(v:α):Bz (l.map λx=>(kk x.1,f x.2)) (kk k) (f v)=(Bz l k v).map λx=>(kk x.1,f x.2):=by
 have any:((l.map λx=>(kk x.1,f x.2)).any λkv=>decide (kv.1=kk k))=l.any λkv=>decide (kv.1=k):=by
  rw[List.any_map]
  congr 1
  funext x
  exact decide_eq_decide.mpr ⟨hk _ _,λz=>congrArg kk z⟩
 unfold Bz;rw[any];split
 ·rw[BC,BC]
  refine DW λx _=>?_
  show(if kk x.1=kk k then(kk x.1,f v)else(kk x.1,f x.2))=_
  by_cases c:x.1=k
  ·show _=(λx:κ×α=>(kk x.1,f x.2)) (if x.1=k then(x.1,v)else x)
   rw[qX c,qX (show kk x.1=kk k by rw[c])]
  ·show _=(λx:κ×α=>(kk x.1,f x.2)) (if x.1=k then(x.1,v)else x)
   rw[qY c,qY λz=>c (hk _ _ z)]
 ·rw[Cf]
  rfl
theorem Py(x y:Int)(h:(DR x:Key)=DR y):x=y:=by cases h;rfl
theorem cq{enc:α->D}{l:List (Int×α)}{n:Nat}{S:Sto}(h:S[n]?=some (oDK enc l))(k:Int):MD (.ref n) (.int k) S=some ((Ag l k).map enc):=by
 unfold MD;dsimp only;rw[h];show some (Ag _ (DR k))=_;rw[QK Py]
theorem XE(hq:GF (.ref n) S=none)(h:MD (.ref n) y S=some o)(neg:Bool):inA neg y (.ref n) S=.ok (.bl (if neg then !o.isSome else o.isSome)) S:=by
 show JP (inD neg y (.ref n) S) (Mp neg y (.ref n) S)=_;rw[show inD neg y (.ref n) S=.bad by unfold inD;rw[hq]];show Mp neg y (.ref n) S=_;unfold Mp;rw[h]
theorem RL(hq:GF (.ref n) S=none)(h:MD (.ref n) y S=some (some d)):ixA (.ref n) y S=.ok d S:=by
 show JP (ixD (.ref n) y S) (RM (.ref n) y S)=_;rw[show ixD (.ref n) y S=.bad by unfold ixD;rw[hq]];show RM (.ref n) y S=_;unfold RM;rw[h]
theorem jk(h:S[n]?=some (oDK enc l)):GF (.ref n) S=none:=by unfold GF;dsimp only;rw[h];rfl
section
theorem Uh:VE A IV (rN (oDK enc)) (some []):=λv hv S0 e F S hs=>by cases hv;exact⟨_,_,rfl,Keeps.app _ _,_,rfl,AK _,FQ _ _⟩
theorem Ug{pk}{pl}(ha:VE A a (rV D.int) pk)(hb:VE A b (rO (oDK enc)) pl):VE A (m2 (inA true) a b) (rV D.bl) (pk.bind λx=>pl.bind λl=>some (!(Ag l x).isSome)):=jO ha hb λx l z S n hn q=>by cases q;rw[XE (jk hn) (cq hn x)];simp
def Km[DecidableEq κ](l:List (κ×α))(k:κ)(v:α):Option (List (κ×α)):=if l.length < 1000000 then some (Bz l k v)else none
theorem dy{ek:κ->D}[DecidableEq κ]{ob:List (κ×α)->Ob}{R:Rk ρ}{p:Option α}{pk:Option κ}{i:Nat}{l:List (κ×α)}
  (rl:∀(l:List (κ×α)) (k:κ) (v:α) (S:Sto) (n:Nat),S[n]?=some (ob l)->l.length < 1000000->Pc (.ref n) (ek k) (enc v) S=some (S.set n (ob (Bz l k v))))
  (hi:A[i]?=some (.w i (ob l))) (hk:VE A b (rV ek) pk) (h:VE A m (rV enc) p) (ht:((A.set i .u).all (Sl.oth i))=true) :
  VS A (Cv (AD i) b m) R (p.bind λv=>pk.bind λk=>(Km l k v).bind λl'=>some (.nx l')) (λl'=>A.set i (.w i (ob l'))):=λf hf S0 e F S hs=>by
 obtain⟨v,h1,h2⟩:=Av hf;obtain⟨k,tu,h3⟩:=Av h2;obtain⟨l',h4,h0⟩:=Av h3;cases h0;unfold Km at h4;split at h4
 ·rename_i hl
  cases h4;obtain⟨x,g1,n,rfl,g2,g3⟩:=hs.sl i _ hi;obtain⟨d,S1,h5,h6,rfl⟩:=h v h1 S0 e F S hs;obtain⟨d,S2,h7,h8,rfl⟩:=hk k tu S0 e _ S1 (hs.grow h6);have hg:=(hs.grow h6).grow h8;have hn:=(h6.trans h8).at g3
  have hx:Cv (AD i) b m e S=.ok (.nx e) (S2.set n (ob (Bz l k v))):=by
   unfold Cv;rw[h5];dsimp only[Res.lift];rw[show AD i e S1=.ok (.ref n) S1 by unfold AD;rw[g1]];dsimp only;rw[h7];dsimp only;rw[rl l k v S2 n hn hl]
  have hF:OY (OY F S S1) S1 S2 n=.ow i:=by rw[E8 (BG (h6.at g3)),E8 (BG g3)];exact g2
  exact⟨_,_,hx,e,_,rfl,hg.put ht hi g1 hF,(hs.fle S1).trans ((hs.grow h6).fle S2)⟩
 ·cases h4
theorem Ue{R:Rk ρ}{p:Option α}{pk:Option Int}{i:Nat}{l:List (Int×α)}(hi:A[i]?=some (.w i (oDK enc l)))(hk:VE A b (rV D.int) pk)(h:VE A m (rV enc) p)(ht:((A.set i .u).all (Sl.oth i))=true) :
  VS A (Cv (AD i) b m) R (p.bind λv=>pk.bind λk=>(Km l k v).bind λl'=>some (.nx l')) (λl'=>A.set i (.w i (oDK enc l'))):=
 dy (λl k v S n hn hl=>by
  unfold Pc;dsimp only;rw[hn];show(if (l.map _).length < sizeLine then some (S.set n (.dK (Bz (l.map λx=>(DR x.1,enc x.2)) (DR k) (enc v))))else none)=_;rw[qX (by rw[AC];exact ZP hl),Qg Py]
  rfl) hi hk h ht
theorem eO(h:VE A m (rV (eT enc)) pl):VB A (FO m) (pl.bind λl=>some (!l.isEmpty)):=λv hv S0 e F S hs=>by
 obtain⟨l,h1,h2⟩:=Av hv;cases h2;obtain⟨d,S',h3,h4,rfl⟩:=h l h1 S0 e F S hs;refine⟨S',?_,h4⟩;unfold FO;rw[h3]
 cases l <;> rfl
theorem Xo(h:VE A m (rO (oL enc)) pl):VB A (FO m) (pl.bind λl=>some (!l.isEmpty)):=λv hv S0 e F S hs=>by
 obtain⟨l,h1,h2⟩:=Av hv;cases h2;obtain⟨d,S',h3,h4,n,rfl,hn⟩:=h l h1 S0 e F S hs;refine⟨S',?_,h4⟩;unfold FO;rw[h3];dsimp only[Res.bind]
 have:Ot (.ref n) S'=some (!l.isEmpty):=by
  unfold Ot;dsimp only;rw[hn]
  cases l <;> rfl
 rw[this]
theorem TD{b:MS}{R:Rk ρ}{B:σ->List Sl}:VS A b R none B:=λf hf=>by cases hf
theorem jM(ha:VE A a (rO (oL D.int)) pl):VE A (gP a) (rV D.int) (pl.bind λl=>some (TN l)):=λv hv S0 e F S hs=>by
 obtain⟨l,h1,h2⟩:=Av hv;cases h2;obtain⟨d,S',h3,h4,n,rfl,hn⟩:=ha l h1 S0 e F S hs;refine⟨_,S',?_,h4,rfl⟩;unfold gP;rw[h3];dsimp only[Res.bind];rw[Vb hn];dsimp only;rw[Qz]
end
end
section
variable{α ρ σ:Type}
theorem CI:BV (some (.nx s)) q=q s:=rfl
theorem dE:BV (some (.rt r)) q=some (.rt r):=rfl
theorem gN:Fn (ρ:=ρ) g (some (.nx s))=some (.nx (g s)):=rfl
theorem Xz:Gm (some (.rt r:Fw ρ σ))=some r:=rfl
theorem Xy:bT (some (.nx s))=some ():=rfl
theorem gq{l:List α}{q:σ->α->Option (Fw ρ σ)}{s0:σ}(I:List α->σ->Prop)(h0:I [] s0)(h:∀pre x s,x∈l->pre++[x] <+: l->I pre s->∃s',q s x=some (.nx s')/\I (pre++[x]) s'):∃s,Fd l s0 q=some (.nx s)/\I l s:=by
 have key:∀(r pre:List α) (s:σ),l=pre++r->I pre s->∃s',Fd r s q=some (.nx s')/\I l s':=by
  intro r
  induction r with
  | nil=>intro pre s e hI;rw[CL]at e;subst e;exact⟨s,rfl,hI⟩
  | cons x r ih=>
   intro pre s e hI;obtain⟨s',h1,h2⟩:=h pre x s (by rw[e];simp) ⟨r,by rw[e];simp⟩ hI;obtain⟨s2,h3,h4⟩:=ih (pre++[x]) s' (by rw[e];simp) h2;refine⟨s2,?_,h4⟩;unfold Fd;rw[h1];exact h3
 exact key l [] s0 rfl h0
theorem cY(I:List α->σ->Prop)(R:ρ->Prop)(h0:I [] s0)(h:∀pre x s,x∈l->pre++[x] <+: l->I pre s->(∃s',q s x=some (.nx s')/\I (pre++[x]) s')∨∃r,q s x=some (.rt r)/\R r):(∃s,Fd l s0 q=some (.nx s)/\I l s)∨∃r,Fd l s0 q=some (.rt r)/\R r:=by
 have key:∀(r pre:List α) (s:σ),l=pre++r->I pre s->(∃s',Fd r s q=some (.nx s')/\I l s')∨∃y,Fd r s q=some (.rt y)/\R y:=by
  intro r
  induction r with
  | nil=>intro pre s e hI;rw[CL]at e;subst e;exact .inl ⟨s,rfl,hI⟩
  | cons x r ih=>
   intro pre s e hI
   rcases h pre x s (by rw[e];simp) ⟨r,by rw[e];simp⟩ hI with⟨s',h1,h2⟩ | ⟨y,h1,h2⟩
   ·have e':Fd (x :: r) s q=Fd r s' q:=by
     conv=>lhs;unfold Fd
     rw[h1]
    rw[e'];exact ih (pre++[x]) s' (by rw[e];simp) h2
   ·refine .inr ⟨y,?_,h2⟩
    unfold Fd;rw[h1]
 exact key l [] s0 rfl h0
theorem cz(hc:∀x∈l,c x=some (P x))(hm:∀x∈l,P x=true->m x=some (f x)):RP c m l=some ((l.filter P).map f):=by
 induction l with
 | nil=>rfl
 | cons x l ih=>
  have ih:=ih (λy hy=>hc y (AJ _ hy)) λy hy=>hm y (AJ _ hy)
  unfold RP;rw[hc x AO];show(if P x=true then _ else _)=_
  cases hp:P x with
  | true=>
   rw[qX rfl,hm x AO hp,ih,UZ hp];rfl
  | false=>
   rw[qY AI,ih,Ua (by rw[hp];exact AI)]
theorem RQ(hl:l.length<=1000000)(hc:∀x∈l,c x=some (P x))(hm:∀x∈l,P x=true->m x=some (f x)):EV l c m=some ((l.filter P).map f):=by
 unfold EV;rw[qX hl,cz hc hm]
theorem Hz(hl:l.length<=1000000)(hm:∀x∈l,m x=some (f x)):EV l (λ_=>some true) m=some (l.map f):=by
 rw[RQ (P:=λ_=>true) hl (λ_ _=>rfl) λx hx _=>hm x hx,List.filter_eq_self.mpr λ_ _=>rfl]
theorem Mq(hl:l.length<=1000000)(hc:∀x∈l,c x=some (P x)):EV l c (λx=>some x)=some (l.filter P):=by
 rw[RQ (f:=λx=>x) hl hc λx hx _=>rfl,mM]
theorem iE(h:l.length < 1000000):Zt l x=some (l++[x]):=qX h
theorem gz(h:l.length+k.length<=1000000):Vl l k=some (l++k):=qX h
theorem pC:Kr ([]:List α)=some []:=rfl
theorem few1(a:α):Kr [a]=some [a]:=qX (by simp)
theorem NK(h0:-1000000<=j)(h1:j<=1000000):Mf j=some (DI 0 j.toNat):=qX ⟨h0,h1⟩
theorem fA(h0:-1000000<=i)(h1:i<=1000000)(h2:-1000000<=j)(h3:j<=1000000):Y8 i j=some (DI i (j - i).toNat):=qX ⟨h0,h1,h2,h3⟩
theorem CN{lo:Int}{n:Nat}{x:Int}:x∈DI lo n↔lo<=x/\x < lo+n:=by
 unfold DI;rw[Al]
 constructor
 ·rintro⟨k,hk,rfl⟩
  have:=Iq.mp hk
  lia
 ·rintro⟨h1,h2⟩
  exact⟨(x - lo).toNat,Iq.mpr (by lia),by lia⟩
theorem CA(lo:Int)(n:Nat):(DI lo n).length=n:=by unfold DI;rw[AC,Z8]
theorem Lu(lo:Int)(n:Nat):(DI lo n).Pairwise (· < ·):=by
 unfold DI;rw[Bc]
 exact List.pairwise_lt_range.imp λh=>by lia
theorem ll(h0:0<=i)(h1:i < l.length):∃x,atI l i=some x/\l[i.toNat]?=some x:=by
 have qt:i.toNat < l.length:=by lia
 exact⟨l[i.toNat],Ka h0 (AZ qt),AZ qt⟩
theorem iC(h:atI l i=some x):x∈l:=by
 unfold atI at h;obtain⟨j,_,h2⟩:=Av h;exact BE h2
theorem gK(h:0 < y):bo x y=some (x % y):=qX h
theorem Vj(P:α->Bool)(l:List α)(x:α):(l++[x]).filter P=if P x=true then l.filter P++[x]else l.filter P:=by
 rw[List.filter_append]
 cases c:P x with
 | true=>rw[qX rfl,UZ c];rfl
 | false=>rw[qY AI,Ua (by rw[c];exact AI)];simp
theorem ay{lo:Int}{n:Nat}{pre:List Int}{x:Int}(h:pre++[x] <+: DI lo n):x=lo+pre.length/\pre.length < n:=by
 have hl:=h.length_le;rw[As,BW,CA]at hl;obtain⟨r,hr⟩:=h;have:=congrArg (λz=>z[pre.length]?) hr;simp only[D4,Bg (AK _),Nat.sub_self]at this;rw[show([x]++r)[0]?=some x from rfl]at this;unfold DI at this;rw[Aa,DX (by lia)]at this;simp only[Option.map_some,Option.some.injEq]at this;exact⟨this,by lia⟩
theorem IU[DecidableEq α]:∀{l k:List α},l.Nodup->(∀x∈l,x∈k)->l.length<=k.length
 | [],_,_,_=>Dc _
 | x :: l,k,nd,h=>by
  have hx:=h x AO;obtain⟨n1,n2⟩:=BM.mp nd
  have:=IU (l:=l) (k:=k.erase x) n2 λy hy=>(List.mem_erase_of_ne (λz:y=x=>n1 (by rw[<-z];exact hy))).mpr (h y (AJ _ hy))
  rw[Js hx]at this;have:=List.length_pos_of_mem hx;rw[Aj]
  lia
def Ok(p:Option α)(P:α->Prop):Prop:=∃v,p=some v/\P v
theorem Ok.pure(h:P v):Ok (some v) P:=⟨v,rfl,h⟩
theorem Ok.is(h:Ok p λr=>r=v):p=some v:=by
 obtain⟨_,h1,rfl⟩:=h;exact h1
theorem Ok.bind(h:Ok p P)(hq:∀v,P v->Ok (q v) Q):Ok (p.bind q) Q:=by
 obtain⟨v,rfl,h⟩:=h;exact hq v h
theorem Ok.imp(h:Ok p P)(i:∀v,P v->Q v):Ok p Q:=by
 obtain⟨v,rfl,h⟩:=h;exact⟨v,rfl,i v h⟩
def OkF(p:Option (Fw ρ σ))(N:σ->Prop)(R:ρ->Prop):Prop:=(∃s,p=some (.nx s)/\N s)∨∃r,p=some (.rt r)/\R r
theorem OkF.nx(h:N s):OkF (some (.nx s)) N R:=.inl ⟨s,rfl,h⟩
theorem OkF.rt(h:R r):OkF (some (.rt r)) N R:=.inr ⟨r,rfl,h⟩
theorem OkF.seq(h:OkF p N R)(hq:∀s,N s->OkF (q s) N' R):OkF (BV p q) N' R:=by
 rcases h with⟨s,rfl,h⟩ | ⟨r,rfl,h⟩
 ·exact hq s h
 ·exact .inr ⟨r,rfl,h⟩
theorem OkF.map(h:OkF p N R)(hg:∀s,N s->N' (g s)):OkF (Fn g p) N' R:=by
 rcases h with⟨s,rfl,h⟩ | ⟨r,rfl,h⟩
 ·exact .inl ⟨_,rfl,hg s h⟩
 ·exact .inr ⟨r,rfl,h⟩
theorem OkF.for(I:List α->σ->Prop)(h0:I [] s0)(h:∀pre x s,x∈l->pre++[x] <+: l->I pre s->OkF (q s x) (I (pre++[x])) R):OkF (Fd l s0 q) (I l) R:=cY I R h0 h
theorem OkF.out(h:OkF p (λ_=>False) R):Ok (Gm p) R:=by
 rcases h with⟨s,rfl,h⟩ | ⟨r,rfl,h⟩
 ·exact h.elim
 ·exact⟨r,rfl,h⟩
theorem VF.law(h:VF f [.v (eF ns)] (rV D.bl) (some true)):∃S',f [.fro (ns.map D.int)] []=.ok (.bl true) S':=by
 obtain⟨d,S',h1,_,rfl⟩:=h true rfl [] [.fro (ns.map D.int)] ⟨rfl,trivial⟩;exact⟨S',h1⟩
end
section
def NI(x y:Int):Option Int:=if dI x y then some (x * 2 ^ y.toNat)else none
def ei(x y:Int):Option Int:=if 0<=y then some (x / 2 ^ y.toNat)else none
theorem N5(ha:VE A a (rV D.int) pa)(hb:VE A b (rV D.int) pb):VE A (m2 O8 a b) (rV D.int) (pa.bind λx=>pb.bind λy=>NI x y):=IC ha hb λx y z S h=>by
 unfold NI at h;split at h
 ·rename_i hc;cases h;exact qX hc
 ·cases h
theorem jN(ha:VE A a (rV D.int) pa)(hb:VE A b (rV D.int) pb):VE A (m2 Us a b) (rV D.int) (pa.bind λx=>pb.bind λy=>ei x y):=IC ha hb λx y z S h=>by
 unfold ei at h;split at h
 ·rename_i hc;cases h;exact qX hc
 ·cases h
theorem Pp(ha:VE A a (rV D.int) pa)(hb:VE A b (rV D.int) pb):VE A (m2 RX a b) (rV D.int) (pa.bind λx=>pb.bind λy=>some (BU x y)):=IC ha hb λx y z S h=>by cases h;rfl
theorem Xp(h:VE A m (rV D.int) pa):VB A (FO m) (pa.bind λx=>some (x != 0)):=λv hv S0 e F S hs=>by
 obtain⟨l,h1,h2⟩:=Av hv;cases h2;obtain⟨d,S',h3,h4,rfl⟩:=h l h1 S0 e F S hs;refine⟨S',?_,h4⟩;unfold FO;rw[h3];rfl
end
section
theorem SE(ha:VE A a (rV (eT D.int)) pl):VE A (HI a) (rN (oL D.int)) (pl.bind λl=>SY l (Bt l)):=λv hv S0 e F S hs=>by
 obtain⟨l,h1,h2⟩:=Av hv;obtain⟨vZ,rfl⟩:=XB h2;obtain⟨d,S',h3,h4,rfl⟩:=ha l h1 S0 e F S hs;refine⟨_,_,OA h3 (ds:=l.map D.int) rfl (es:=(Bt l).map D.int) ?_,h4.trans (Keeps.app _ _),_,rfl,h4.1,FQ _ _⟩;unfold Ki;rw[qX (by rw[AC];exact vZ)];rw[Qz]
end
section
variable{ρ σ:Type}
theorem Ek{n:Nat}{b:MS}{as:List Ar}{R:Rk ρ}{p:Option (Fw ρ σ)}{B:σ->List Sl}(h:VS (as.map Ar.sl++Bf (n - as.length) .u) b R p B):VF (D7 n b) as R (Gm p):=λv hv S ds ha=>by
 cases p with
 | none=>cases hv
 | some x=>
  obtain⟨g,S',h1,h2⟩:=h _ rfl S _ _ S (Vs.start ha)
  cases x with
  | rt r=>cases hv;obtain⟨d,rfl,h2,h3⟩:=h2;exact⟨d,S',_root_.M.LD h1,h3,h2⟩
  | nx s=>cases hv
  | bk s=>cases hv
  | ct s=>cases hv
theorem aI{n:Nat}{b:MS}{as:List Ar}{p:Option (Fw Unit σ)}{B:σ->List Sl}(h:VS (as.map Ar.sl++Bf (n - as.length) .u) b (rV eU) p B):VF (D7 n b) as (rV eU) (bT p):=λv hv S ds ha=>by
 cases p with
 | none=>cases hv
 | some x=>
  obtain⟨g,S',h1,h2⟩:=h _ rfl S _ _ S (Vs.start ha)
  cases x with
  | rt r=>obtain⟨d,rfl,h2,h3⟩:=h2;exact⟨d,S',_root_.M.LD h1,h3,h2⟩
  | nx s=>obtain⟨e',F',rfl,h2,h3⟩:=h2;exact⟨.non,S',_root_.M.Wn h1,h2.kp,rfl⟩
  | bk s=>cases hv
  | ct s=>cases hv
theorem iV(ha:VE A a (rV enc) p)(ht:∀x S,tyD (enc x) S=some T)(hb:isB t T=some r):VE A (_root_.M.mIs (isB t) (λ_=>none) a) (rV D.bl) (p.bind λ_=>some r):=λv hv S0 e F S hs=>by
 obtain⟨x,h1,h2⟩:=Av hv;cases h2;obtain⟨d,S',h3,h4,rfl⟩:=ha x h1 S0 e F S hs;exact⟨_,S',_root_.M.og h3 (ht x S') hb,h4,rfl⟩
end
section
variable{κ α:Type}[DecidableEq κ]
theorem Cg(l:List (κ×α))(k:κ)(v:α)(k':κ):Ag (Bz l k v) k'=if k'=k then some v else Ag l k':=by
 have key:∀l:List (κ×α),Ag (l.map λkv=>if kv.1=k then(kv.1,v)else kv) k'=if k'=k then(Ag l k').map (λ_=>v)else Ag l k':=by
  intro l
  induction l with
  | nil=>unfold Ag;simp
  | cons x l ih=>
   unfold Ag at ih ⊢;rw[A9,B1,B1]
   by_cases c:x.1=k
   ·rw[qX c]
    by_cases d:x.1=k'
    ·rw[wX d,qX (show k'=k from d▸c)]
     rfl
    ·rw[wY d]
     exact ih
   ·rw[qY c]
    by_cases d:x.1=k'
    ·rw[wX d,qY (λz:k'=k=>c (d.trans z))]
    ·rw[wY d]
     exact ih
 unfold Bz;split
 ·rename_i h
  rw[key]
  by_cases c:k'=k
  ·rw[qX c,qX c]
   subst c
   have:(Ag l k').isSome=true:=by
    unfold Ag;rw[Gh,aA];obtain⟨x,hx,hk⟩:=B9.mp h;exact⟨x,hx,hk⟩
   obtain⟨b,hb⟩:=C2.mp this;rw[hb];rfl
  ·rw[qY c,qY c]
 ·rename_i h
  unfold Ag;rw[List.find?_append]
  by_cases c:k'=k
  ·subst c
   rw[qX rfl]
   have:l.find? (λkv=>decide (kv.1=k'))=none:=by
    rw[Ir];intro x hx hk;exact h (B9.mpr ⟨x,hx,hk⟩)
   rw[this];simp
  ·rw[qY c]
   have:[(k,v)].find? (λkv=>decide (kv.1=k'))=none:=by
    rw[Ir];intro x hx;rw[Ah.mp hx];simp
    exact λz=>c z.symm
   rw[this];simp
theorem GX(l:List (κ×α))(k:κ)(v:α):(Bz l k v).map (·.1)=if k∈l.map (·.1)then l.map (·.1)else l.map (·.1)++[k]:=by
 have h1:(l.any λkv=>decide (kv.1=k))=true↔k∈l.map (·.1):=by
  rw[B9,Al];exact⟨λ⟨x,hx,e⟩=>⟨x,hx,of_decide_eq_true e⟩,λ⟨x,hx,e⟩=>⟨x,hx,wX e⟩⟩
 unfold Bz
 by_cases c:k∈l.map (·.1)
 ·rw[qX c,qX (h1.mpr c),BC]
  refine DW λx _=>?_
  show(if x.1=k then(x.1,v)else x).1=x.1
  split <;> rfl
 ·rw[qY c,qY λz=>c (h1.mp z),Cf]
  rfl
theorem Cn(l:List (κ×α))(k:κ):(Ag l k).isSome=true↔k∈l.map (·.1):=by
 unfold Ag;rw[Gh,aA,Al];exact⟨λ⟨x,hx,e⟩=>⟨x,hx,of_decide_eq_true e⟩,λ⟨x,hx,e⟩=>⟨x,hx,wX e⟩⟩
end
def hb(bits x:Int):Bool:=BU (bits / 2 ^ x.toNat) 1 != 0
abbrev HL:=List (Int×Int)
abbrev QL:=List (Int×Bool)
def MN(st:HL->Int->QL->Option (Bool×HL×QL))(g:Int):List Int->HL->QL->Option (Bool×HL×QL)
 | [],H,Q=>some (false,H,Q)
 | x :: r,H,Q=>if (Ag Q x).isSome=true then MN st g r H Q else(Km Q x true).bind λQ1=>(Ag H x).bind λg2=>(st H g2 Q1).bind λz=>if z.1=true then(Km z.2.1 x g).bind λH'=>some (true,H',z.2.2)else MN st g r z.2.1 z.2.2
def HF(T:Int->List Int)(bits:Int):Nat->HL->Int->QL->Option (Bool×HL×QL)
 | 0,_,_,_=>none
 | n+1,H,g,Q=>match((T g).filter λx=>hb bits x&&!(Ag Q x).isSome).find? (λx=>!(Ag H x).isSome)with
  | some x=>(Km H x g).bind λH'=>some (true,H',Q)
  | none=>MN (HF T bits n) g ((T g).filter λx=>hb bits x&&!(Ag Q x).isSome) H Q
section
abbrev w0(T:Int->List Int)(bits g:Int):List Int:=(T g).filter (hb bits)
structure KOk{α:Type}(U:List Int)(l:List (Int×α)):Prop where
 nd:(l.map (·.1)).Nodup
 sub:∀x∈l.map (·.1),x∈U
theorem KOk.len{α:Type}{l:List (Int×α)}(h:KOk U l):l.length<=U.length:=by
 have:=IU h.nd h.sub;rwa [AC]at this
theorem KOk.put{α:Type}{l:List (Int×α)}(h:KOk U l){x:Int}(hx:x∈U)(v:α):KOk U (Bz l x v):=by
 by_cases c:x∈l.map (·.1)
 ·exact⟨by rw[GX,qX c];exact h.nd,by rw[GX,qX c];exact h.sub⟩
 ·refine⟨?_,?_⟩
  ·rw[GX,qY c]
   unfold Is;rw[Hj];exact⟨h.nd,by simp,λa ha b qg z=>c (by rw[Ah.mp qg]at z;rw[<-z];exact ha)⟩
  ·rw[GX,qY c]
   intro y hy
   rcases BI.mp hy with hy | hy
   ·exact h.sub y hy
   ·rw[Ah.mp hy];exact hx
theorem KOk.more{α:Type}{l:List (Int×α)}{x:Int}(c:(Ag l x).isSome=false)(v:α):(Bz l x v).length=l.length+1:=by
 have h1:x∉l.map (·.1):=λz=>by rw[(Cn l x).mpr z]at c;cases c
 have:=congrArg MJ (GX l x v);rw[qY h1,AC,As,AC]at this;exact this
def MOn(T:Int->List Int)(bits:Int)(P:Int->Prop)(H:HL):Prop:=(∀x,P x->∀a,Ag H x=some a->x∈w0 T bits a)/\∀x y a,P x->P y->Ag H x=some a->Ag H y=some a->x=y
abbrev sn(Q:QL)(x:Int):Prop:=(Ag Q x).isSome=true
def Good(T:Int->List Int)(bits:Int)(H:HL)(g:Int)(Q:QL)(H':HL):Prop:=
 (∀x,sn Q x->Ag H' x=Ag H x)/\(MOn T bits (λx=>¬sn Q x) H->(∀x,¬sn Q x->Ag H x≠some g)->MOn T bits (λx=>¬sn Q x) H'/\∀a,(∃x,¬sn Q x/\Ag H' x=some a)↔a=g∨∃x,¬sn Q x/\Ag H x=some a)
def Clo(T:Int->List Int)(bits:Int)(H:HL)(Q Q':QL):Prop:=∀x,sn Q' x->sn Q x∨∃a,Ag H x=some a/\∀y∈w0 T bits a,sn Q' y
structure pP(T:Int->List Int)(bits:Int)(U:List Int)(Gd:Int->Prop)(H:HL)(g:Int)(Q:QL)(z:Bool×HL×QL):Prop where
 h1:KOk U z.2.1
 h2:KOk U z.2.2
 h3:∀x a,Ag z.2.1 x=some a->Gd a
 h4:∀x,sn Q x->sn z.2.2 x
 h5:z.1=false->z.2.1=H/\(∀x∈w0 T bits g,sn z.2.2 x)/\Clo T bits H Q z.2.2
 h6:z.1=true->Good T bits H g Q z.2.1
theorem Te{α:Type}{l:List (Int×α)}(h:KOk U l)(hU:U.length < 1000000)(x:Int)(v:α):Km l x v=some (Bz l x v):=qX (At h.len hU)
theorem JM:sn (Bz Q x true) y↔y=x∨sn Q y:=by
 unfold sn;rw[Cg]
 by_cases c:y=x
 ·rw[qX c];simp[c]
 ·rw[qY c];simp[c]
theorem Ut(hT:∀g,Gd g->∀x∈T g,x∈U)(hU:U.length < 1000000):∀(n:Nat) (H:HL) (g:Int) (Q:QL),KOk U H->KOk U Q->(∀x a,Ag H x=some a->Gd a)->Gd g->U.length < n+Q.length->Ok (HF T bits n H g Q) (pP T bits U Gd H g Q):=by
 intro n
 induction n with
 | zero=>intro H g Q hH hQ hG hg hn;exact zX hQ.len (by lia)
 | succ n ih=>
  intro H g Q hH hQ hG hg hn;unfold HF
  have wm:∀x,x∈(T g).filter (λx=>hb bits x&&!(Ag Q x).isSome)↔x∈w0 T bits g/\¬sn Q x:=by
   intro x;unfold w0 sn;rw[BN,BN]
   cases Ag Q x <;> simp
  generalize (T g).filter (λx=>hb bits x&&!(Ag Q x).isSome)=w at wm
  have wU:∀x∈w,x∈U:=λx hx=>hT g hg x (BN.mp ((wm x).mp hx).1).1
  cases hf:w.find? (λx=>!(Ag H x).isSome)with
  | some x=>
   have hx:=Sy hf
   have qU:Ag H x=none:=by
    have:=di hf
    cases q:Ag H x with
    | none=>rfl
    | some a=>rw[q]at this;cases this
   obtain⟨x1,x2⟩:=(wm x).mp hx;show Ok ((Km H x g).bind _) _;rw[Te hH hU];refine .pure ⟨hH.put (wU x hx) g,hQ,λy a hy=>?_,λ_ h=>h,λz=>(by cases z),λ_=>⟨λy hy=>?_,λm ng=>⟨⟨λy hy a e=>?_,λy z a hy hz e1 e2=>?_⟩,λa=>⟨?_,?_⟩⟩⟩⟩
   ·rw[show Ag (true,Bz H x g,Q).2.1 y=if y=x then some g else Ag H y from Cg _ _ _ _]at hy
    split at hy
    ·cases hy;exact hg
    ·exact hG y a hy
   ·show Ag (Bz H x g) y=_
    rw[Cg,qY λc:y=x=>x2 (by rw[<-c];exact hy)]
   ·rw[show Ag (true,Bz H x g,Q).2.1 y=if y=x then some g else Ag H y from Cg _ _ _ _]at e
    split at e
    ·rename_i c;cases e;rw[c];exact x1
    ·exact m.1 y hy a e
   ·rw[show Ag (true,Bz H x g,Q).2.1 y=if y=x then some g else Ag H y from Cg _ _ _ _]at e1
    rw[show Ag (true,Bz H x g,Q).2.1 z=if z=x then some g else Ag H z from Cg _ _ _ _]at e2;split at e1
    ·rename_i c
     cases e1;split at e2
     ·rename_i d;rw[c,d]
     ·exact zX e2 (ng z hz)
    ·split at e2
     ·cases e2;exact zX e1 (ng y hy)
     ·exact m.2 y z a hy hz e1 e2
   ·rintro⟨y,hy,e⟩
    rw[show Ag (true,Bz H x g,Q).2.1 y=if y=x then some g else Ag H y from Cg _ _ _ _]at e;split at e
    ·cases e;exact .inl rfl
    ·exact .inr ⟨y,hy,e⟩
   ·rintro(rfl | ⟨y,hy,e⟩)
    ·exact⟨x,x2,by show Ag (Bz H x a) x=_;rw[Cg,qX rfl]⟩
    ·refine⟨y,hy,?_⟩
     show Ag (Bz H x g) y=_;rw[Cg,qY λc=>by rw[c,qU]at e;cases e];exact e
  | none=>
   have held:∀x∈w,∃a,Ag H x=some a:=by
    intro x hx;have:=Ir.mp hf x hx
    cases q:Ag H x with
    | none=>rw[q]at this;exact zX rfl this
    | some a=>exact⟨a,rfl⟩
   have key:∀(r:List Int) (Qc:QL),(∀x∈r,x∈w)->KOk U Qc->(∀x,sn Q x->sn Qc x)->Q.length<=Qc.length->Clo T bits H Q Qc->(∀x∈w,x∈r∨sn Qc x)->Ok (MN (HF T bits n) g r H Qc) (pP T bits U Gd H g Q):=by
    intro r
    induction r with
    | nil=>
     intro Qc _ tI hs hl hc hw;refine .pure ⟨hH,tI,hG,hs,λ_=>⟨rfl,λx hx=>?_,hc⟩,λz=>(by cases z)⟩
     by_cases c:sn Q x
     ·exact hs x c
     ·rcases hw x ((wm x).mpr ⟨hx,c⟩)with h | h
      ·cases h
      ·exact h
    | cons x r ih2=>
     intro Qc hr tI hs hl hc hw;unfold MN
     by_cases c:(Ag Qc x).isSome=true
     ·rw[qX c]
      refine ih2 Qc (λy hy=>hr y (AJ _ hy)) tI hs hl hc λy hy=>?_
      rcases hw y hy with h | h
      ·rcases AV.mp h with rfl | h
       ·exact .inr c
       ·exact .inl h
      ·exact .inr h
     ·rw[qY c,Te tI hU]
      have vf:=hr x AO;obtain⟨x1,x2⟩:=(wm x).mp vf;obtain⟨a,ha⟩:=held x vf;have zR:=tI.put (wU x vf) true;have kh:=KOk.more (l:=Qc) (x:=x) (by cases q:(Ag Qc x).isSome;rfl;exact zX q c) true;obtain⟨z,ez,hz⟩:=ih H a (Bz Qc x true) hH zR hG (hG x a ha) (by lia);show Ok ((Ag H x).bind _) _;rw[ha];show Ok ((HF T bits n H a (Bz Qc x true)).bind _) _;rw[ez];show Ok (if z.1=true then _ else _) _
      cases qg:z.1 with
      | true=>
       rw[qX rfl,Te hz.h1 hU];obtain⟨g1,g2⟩:=hz.h6 qg;refine .pure ⟨hz.h1.put (wU x vf) g,hz.h2,λy b hy=>?_,λy hy=>hz.h4 y (JM.mpr (.inr (hs y hy))),λq=>(by cases q),λ_=>⟨λy hy=>?_,λm ng=>?_⟩⟩
       ·rw[show Ag (true,Bz z.2.1 x g,z.2.2).2.1 y=if y=x then some g else Ag z.2.1 y from Cg _ _ _ _]at hy
        split at hy
        ·cases hy;exact hg
        ·exact hz.h3 y b hy
       ·show Ag (Bz z.2.1 x g) y=_
        rw[Cg,qY λq:y=x=>x2 (by rw[<-q];exact hy)];exact g1 y (JM.mpr (.inr (hs y hy)))
       ·have R1:∀y,¬sn (Bz Qc x true) y->¬sn Q y/\y≠x/\¬sn Qc y:=λy hy=>⟨λq=>hy (JM.mpr (.inr (hs y q))),λq=>hy (JM.mpr (.inl q)),λq=>hy (JM.mpr (.inr q))⟩
        obtain⟨m1,m2⟩:=g2 ⟨λy hy b e=>m.1 y (R1 y hy).1 b e,λy y' b hy sj e e'=>m.2 y y' b (R1 y hy).1 (R1 y' sj).1 e e'⟩ λy hy e=>(R1 y hy).2.1 (m.2 y x a (R1 y hy).1 x2 e ha)
        have three:∀y,y=x∨(y≠x/\Ag z.2.1 y=Ag H y/\sn Qc y)∨¬sn (Bz Qc x true) y:=λy=>by
         by_cases q:y=x
         ·exact .inl q
         ·by_cases q2:sn Qc y
          ·exact .inr (.inl ⟨q,g1 y (JM.mpr (.inr q2)),q2⟩)
          ·exact .inr (.inr λq3=>(JM.mp q3).elim q q2)
        have hv:∀y,y≠x->Ag (Bz z.2.1 x g) y=Ag z.2.1 y:=λy q=>by rw[Cg,qY q]
        have tJ:Ag (Bz z.2.1 x g) x=some g:=by rw[Cg,qX rfl]
        show MOn T bits _ (Bz z.2.1 x g)/\∀b,(∃y,_/\Ag (Bz z.2.1 x g) y=some b)↔_
        refine⟨⟨λy hy b e=>?_,λy y' b hy sj e e'=>?_⟩,λb=>⟨?_,?_⟩⟩
        ·rcases three y with rfl | ⟨q,q1,q2⟩ | q
         ·rw[tJ]at e;cases e;exact x1
         ·rw[hv y q,q1]at e;exact m.1 y hy b e
         ·rw[hv y (R1 y q).2.1]at e;exact m1.1 y q b e
        ·rcases three y with rfl | ⟨q,q1,q2⟩ | q
         ·rw[tJ]at e
          cases e
          rcases three y' with rfl | ⟨p,p1,p2⟩ | p
          ·rfl
          ·rw[hv y' p,p1]at e';exact zX e' (ng y' sj)
          ·rw[hv y' (R1 y' p).2.1]at e'
           rcases(m2 g).mp ⟨y',p,e'⟩with rfl | ⟨y2,p2,e2⟩
           ·exact zX ha (ng y hy)
           ·exact zX e2 (ng y2 (R1 y2 p2).1)
         ·rw[hv y q,q1]at e
          rcases three y' with rfl | ⟨p,p1,p2⟩ | p
          ·rw[tJ]at e';cases e';exact zX e (ng y hy)
          ·rw[hv y' p,p1]at e';exact m.2 y y' b hy sj e e'
          ·rw[hv y' (R1 y' p).2.1]at e'
           rcases(m2 b).mp ⟨y',p,e'⟩with rfl | ⟨y2,p2,e2⟩
           ·exact zX (m.2 y x b hy x2 e ha) q
           ·have:=m.2 y y2 b hy (R1 y2 p2).1 e e2
            rw[<-this]at p2;exact zX q2 (R1 y p2).2.2
         ·rw[hv y (R1 y q).2.1]at e
          rcases three y' with rfl | ⟨p,p1,p2⟩ | p
          ·rw[tJ]at e'
           cases e'
           rcases(m2 g).mp ⟨y,q,e⟩with rfl | ⟨y2,p2,e2⟩
           ·exact zX ha (ng y' sj)
           ·exact zX e2 (ng y2 (R1 y2 p2).1)
          ·rw[hv y' p,p1]at e'
           rcases(m2 b).mp ⟨y,q,e⟩with rfl | ⟨y2,p3,e2⟩
           ·exact zX (m.2 y' x b sj x2 e' ha) p
           ·have:=m.2 y' y2 b sj (R1 y2 p3).1 e' e2
            rw[<-this]at p3;exact zX p2 (R1 y' p3).2.2
          ·rw[hv y' (R1 y' p).2.1]at e'
           exact m1.2 y y' b q p e e'
        ·rintro⟨y,hy,e⟩
         rcases three y with rfl | ⟨q,q1,q2⟩ | q
         ·rw[tJ]at e;cases e;exact .inl rfl
         ·rw[hv y q,q1]at e;exact .inr ⟨y,hy,e⟩
         ·rw[hv y (R1 y q).2.1]at e
          rcases(m2 b).mp ⟨y,q,e⟩with rfl | ⟨y2,p2,e2⟩
          ·exact .inr ⟨x,x2,ha⟩
          ·exact .inr ⟨y2,(R1 y2 p2).1,e2⟩
        ·rintro(rfl | ⟨y,hy,e⟩)
         ·exact⟨x,x2,tJ⟩
         ·rcases three y with rfl | ⟨q,q1,q2⟩ | q
          ·rw[ha]at e
           cases e;obtain⟨y',p,e'⟩:=(m2 a).mpr (.inl rfl);exact⟨y',(R1 y' p).1,by rw[hv y' (R1 y' p).2.1];exact e'⟩
          ·exact⟨y,hy,by rw[hv y q,q1];exact e⟩
          ·obtain⟨y',p,e'⟩:=(m2 b).mpr (.inr ⟨y,q,e⟩)
           exact⟨y',(R1 y' p).1,by rw[hv y' (R1 y' p).2.1];exact e'⟩
      | false=>
       rw[qY AI];obtain⟨f1,f2,f3⟩:=hz.h5 qg;rw[f1]
       have up:∀y,sn Qc y->sn z.2.2 y:=λy hy=>hz.h4 y (JM.mpr (.inr hy))
       refine ih2 z.2.2 (λy hy=>hr y (AJ _ hy)) hz.h2 (λy hy=>up y (hs y hy)) ?_ (λy hy=>?_) λy hy=>?_
       ·have h1:∀k∈Qc.map (·.1),k∈z.2.2.map (·.1):=λk hk=>(Cn _ _).mp (up k ((Cn _ _).mpr hk))
        have:=IU tI.nd h1;rw[AC,AC]at this
        lia
       ·rcases f3 y hy with h | h
        ·rcases JM.mp h with rfl | h
         ·exact .inr ⟨a,ha,f2⟩
         ·rcases hc y h with h | ⟨b,e,k⟩
          ·exact .inl h
          ·exact .inr ⟨b,e,λy' sj=>up y' (k y' sj)⟩
        ·exact .inr h
       ·rcases hw y hy with h | h
        ·rcases AV.mp h with rfl | h
         ·exact .inr (hz.h4 _ (JM.mpr (.inl rfl)))
         ·exact .inl h
        ·exact .inr (up y h)
   exact key w Q (λ_ h=>h) hQ (λ_ h=>h) (AK _) (λx hx=>.inl hx) λx hx=>.inl hx
end
def QT(bits:Int):List Int->HL->Option HL
 | [],H=>some H
 | g :: r,H=>if hb bits g=true then(Km H g g).bind λH'=>QT bits r H' else QT bits r H
def Qe(T:Int->List Int)(bits:Int)(n:Nat):List Int->HL->Option Bool
 | [],_=>some true
 | g :: r,H=>if hb bits g=true then Qe T bits n r H else(HF T bits n H g []).bind λz=>if z.1=true then Qe T bits n r z.2.1 else some false
def SX(T:Int->List Int)(bits:Int)(n:Nat)(gs:List Int):Option Bool:=(QT bits gs []).bind λH=>Qe T bits n gs H
def Sdr(T:Int->List Int)(bits:Int)(gs:List Int):Prop:=∃f:Int->Int,(∀g∈gs,f g∈w0 T bits g)/\∀a∈gs,∀b∈gs,f a=f b->a=b
section
variable{T:Int->List Int}{bits:Int}{U:List Int}{Gd:Int->Prop}
theorem Yv(hU:U.length < 1000000):∀(gs:List Int) (H:HL),(∀g∈gs,g∈U)->KOk U H->Ok (QT bits gs H) λH'=>KOk U H'/\∀x,Ag H' x=if x∈gs/\hb bits x=true then some x else Ag H x:=by
 intro gs
 induction gs with
 | nil=>intro H _ h;exact .pure ⟨h,λx=>by rw[qY (by simp)]⟩
 | cons g gs ih=>
  intro H hg h;unfold QT
  cases c:hb bits g with
  | true=>
   rw[qX rfl,Te h hU]
   refine(ih (Bz H g g) (λy hy=>hg y (AJ _ hy)) (h.put (hg g AO) g)).imp λH' ⟨h1,h2⟩=>⟨h1,λx=>?_⟩
   rw[h2 x,Cg]
   by_cases d:x=g
   ·subst d
    rw[qX rfl,qX (show x∈x :: gs/\hb bits x=true from⟨AO,c⟩)]
    split <;> rfl
   ·rw[qY d]
    have:(x∈g :: gs/\hb bits x=true)↔(x∈gs/\hb bits x=true):=by rw[AV];simp[d]
    by_cases q:x∈gs/\hb bits x=true
    ·rw[qX q,qX (this.mpr q)]
    ·rw[qY q,qY λz=>q (this.mp z)]
  | false=>
   rw[qY AI]
   refine(ih H (λy hy=>hg y (AJ _ hy)) h).imp λH' ⟨h1,h2⟩=>⟨h1,λx=>?_⟩
   rw[h2 x]
   have:(x∈g :: gs/\hb bits x=true)↔(x∈gs/\hb bits x=true):=by
    rw[AV];refine⟨λ⟨z,y⟩=>⟨z.elim (λe=>?_) id,y⟩,λ⟨z,y⟩=>⟨.inr z,y⟩⟩;rw[e,c]at y;cases y
   by_cases q:x∈gs/\hb bits x=true
   ·rw[qX q,qX (this.mpr q)]
   ·rw[qY q,qY λz=>q (this.mp z)]
theorem bj{α:Type}:KOk U ([]:List (Int×α)):=⟨Dk,λ_ h=>(nomatch h)⟩
theorem Y9(hT:∀g,Gd g->∀x∈T g,x∈U)(hU:U.length < 1000000)(hn:U.length < n)(hg:∀g∈gs,Gd g)(rJ:gs.Nodup):∀(r pre:List Int) (H:HL),gs=pre++r->KOk U H->(∀x a,Ag H x=some a->Gd a)->MOn T bits (λ_=>True) H->(∀a,(∃x,Ag H x=some a)↔a∈gs/\(a∈pre∨hb bits a=true))->Ok (Qe T bits n r H) λb=>b=true↔Sdr T bits gs:=by
 intro r
 induction r with
 | nil=>
  intro pre H e hH hG hM hI;rw[CL]at e;subst e;refine .pure ⟨λ_=>?_,λ_=>rfl⟩
  have ex:∀a:Int,∃x:Int,a∈gs->Ag H x=some a:=λa=>by
   by_cases c:a∈gs
   ·obtain⟨x,hx⟩:=(hI a).mpr ⟨c,.inl c⟩
    exact⟨x,λ_=>hx⟩
   ·exact⟨0,λz=>zX z c⟩
  refine⟨λa=>Ca (ex a),λa ha=>hM.1 _ trivial a (Da (ex a) ha),λa ha b qg e=>?_⟩;have h1:=Da (ex a) ha;have h2:=Da (ex b) qg;have e:Ca (ex a)=Ca (ex b):=e;rw[e,h2]at h1;cases h1;rfl
 | cons g r ih=>
  intro pre H e hH hG hM hI
  have vg:g∈gs:=by rw[e];simp
  have zS:g∉pre:=λz=>by
   rw[e]at rJ;exact(Ev.mp rJ).2.2 g z g AO rfl
  unfold Qe
  cases c:hb bits g with
  | true=>
   rw[qX rfl]
   refine ih (pre++[g]) H (by rw[e];simp) hH hG hM λa=>?_
   rw[hI a];refine⟨λ⟨z,y⟩=>⟨z,y.elim (λy=>.inl (BF _ y)) .inr⟩,λ⟨z,y⟩=>⟨z,y.elim (λy=>?_) .inr⟩⟩
   rcases BI.mp y with y | y
   ·exact .inl y
   ·rw[Ah.mp y];exact .inr c
  | false=>
   rw[qY AI];obtain⟨z,ez,hz⟩:=Ut (bits:=bits) hT hU n H g [] hH bj hG (hg g vg) (by simpa using hn);rw[ez];show Ok (if z.1=true then _ else _) _
   have no:∀x,¬sn ([]:QL) x:=λx h=>by unfold sn at h;cases h
   have ng:∀x,Ag H x≠some g:=λx q=>by
    have:=((hI g).mp ⟨x,q⟩).2
    rcases this with h | h
    ·exact zS h
    ·rw[c]at h;cases h
   cases qg:z.1 with
   | true=>
    rw[qX rfl];obtain⟨-,g2⟩:=hz.h6 qg
    obtain⟨m1,m2⟩:=g2 ⟨λx _ a q=>hM.1 x trivial a q,λx y a _ _ q q'=>hM.2 x y a trivial trivial q q'⟩ λx _=>ng x
    refine ih (pre++[g]) z.2.1 (by rw[e];simp) hz.h1 hz.h3 ⟨λx _ a q=>m1.1 x (no x) a q,λx y a _ _ q q'=>m1.2 x y a (no x) (no y) q q'⟩ λa=>?_
    constructor
    ·rintro⟨x,hx⟩
     rcases(m2 a).mp ⟨x,no x,hx⟩with rfl | ⟨y,_,hy⟩
     ·exact⟨vg,.inl (by simp)⟩
     ·obtain⟨q1,q2⟩:=(hI a).mp ⟨y,hy⟩
      exact⟨q1,q2.elim (λq=>.inl (BF _ q)) .inr⟩
    ·rintro⟨q1,q2⟩
     have:a=g∨∃x,¬sn ([]:QL) x/\Ag H x=some a:=by
      rcases q2 with q2 | q2
      ·rcases BI.mp q2 with q2 | q2
       ·obtain⟨x,hx⟩:=(hI a).mpr ⟨q1,.inl q2⟩
        exact .inr ⟨x,no x,hx⟩
       ·exact .inl (Ah.mp q2)
      ·obtain⟨x,hx⟩:=(hI a).mpr ⟨q1,.inr q2⟩
       exact .inr ⟨x,no x,hx⟩
     obtain⟨x,_,hx⟩:=(m2 a).mpr this;exact⟨x,hx⟩
   | false=>
    rw[qY AI];obtain⟨f1,f2,f3⟩:=hz.h5 qg;refine .pure ⟨λq=>(by cases q),?_⟩;rintro⟨f,fw,fi⟩
    exfalso
    have X:=z.2.2.map (·.1)
    have hold:∀x∈z.2.2.map (·.1),∃a,Ag H x=some a/\∀y∈w0 T bits a,sn z.2.2 y:=λx hx=>by
     rcases f3 x ((Cn _ _).mpr hx)with h | h
     ·exact zX h (no x)
     ·exact h
    have ex:∀x:Int,∃a:Int,x∈z.2.2.map (·.1)->Ag H x=some a/\∀y∈w0 T bits a,sn z.2.2 y:=λx=>by
     by_cases q:x∈z.2.2.map (·.1)
     ·obtain⟨a,h⟩:=hold x q
      exact⟨a,λ_=>h⟩
     ·exact⟨0,λq'=>zX q' q⟩
    have hc:=λx=>Da (ex x)
    generalize hh:(λx=>Ca (ex x))=h at hc
    have qA:∀x∈z.2.2.map (·.1),Ag H x=some (h x)/\∀y∈w0 T bits (h x),sn z.2.2 y:=λx hx=>by rw[<-hh];exact hc x hx
    have nd:(f g :: (z.2.2.map (·.1)).map λx=>f (h x)).Nodup:=by
     rw[BM]
     have rk:∀x∈z.2.2.map (·.1),h x∈gs:=λx hx=>((hI (h x)).mp ⟨x,(qA x hx).1⟩).1
     refine⟨λq=>?_,?_⟩
     ·obtain⟨x,hx,e1⟩:=Al.mp q
      have:=fi (h x) (rk x hx) g vg e1;exact ng x (by rw[(qA x hx).1,this])
     ·unfold Is
      rw[Bc]
      refine hz.h2.nd.imp_of_mem λ{x y} hx hy ne e1=>ne ?_
      have:=fi (h x) (rk x hx) (h y) (rk y hy) e1;exact hM.2 x y (h x) trivial trivial (qA x hx).1 (by rw[this];exact(qA y hy).1)
    have sub:∀y∈(f g :: (z.2.2.map (·.1)).map λx=>f (h x)),y∈z.2.2.map (·.1):=by
     intro y hy
     rcases AV.mp hy with rfl | hy
     ·exact(Cn _ _).mp (f2 _ (fw g vg))
     ·obtain⟨x,hx,rfl⟩:=Al.mp hy
      exact(Cn _ _).mp ((qA x hx).2 _ (fw _ ((hI (h x)).mp ⟨x,(qA x hx).1⟩).1))
    have:=IU nd sub;rw[Aj,AC]at this;omega
theorem Ze(hT:∀g,Gd g->∀x∈T g,x∈U)(hU:U.length < 1000000)(hn:U.length < n)(hg:∀g∈gs,Gd g/\g∈T g)(rJ:gs.Nodup):Ok (SX T bits n gs) λb=>b=true↔Sdr T bits gs:=by
 unfold SX
 refine(Yv hU gs [] (λg h=>hT g (hg g h).1 g (hg g h).2) bj).bind λH ⟨h1,h2⟩=>?_
 have hv:∀x a,Ag H x=some a->a=x/\x∈gs/\hb bits x=true:=λx a e=>by
  rw[h2 x]at e;split at e
  ·rename_i q;cases e;exact⟨rfl,q⟩
  ·cases e
 refine Y9 hT hU hn (λg h=>(hg g h).1) rJ gs [] H rfl h1 (λx a e=>?_) ⟨λx _ a e=>?_,λx y a _ _ e e'=>?_⟩ λa=>⟨?_,?_⟩
 ·obtain⟨rfl,q,_⟩:=hv x a e;exact(hg _ q).1
 ·obtain⟨rfl,q1,q2⟩:=hv x a e
  exact BN.mpr ⟨(hg _ q1).2,q2⟩
 ·rw[<-(hv x a e).1,<-(hv y a e').1]
 ·rintro⟨x,e⟩
  obtain⟨rfl,q1,q2⟩:=hv x a e;exact⟨q1,.inr q2⟩
 ·rintro⟨q1,q2⟩
  refine⟨a,?_⟩;rw[h2 a,qX ⟨q1,q2.elim (λq=>(nomatch q)) id⟩]
end
section
theorem J2(h:e[i]?=some (some d)):AD i e S=.ok d S:=by unfold AD;rw[h]
end
def gc{α:Type}(l:List α)(i:Int)(x:α):Option (List α):=if 0<=i/\i < 1000000/\l.length < 1000000 then some (l.take i.toNat++[x]++l.drop i.toNat)else none
section
theorem jG(hi:A[i]?=some (.w i (oL enc l)))(h:VE A mi (rV D.int) pi)(hx:VE A mx (rV enc) px)(ht:((A.set i .u).all (Sl.oth i))=true) :
  VS A (HR (bv (AD i) mi mx)) R (pi.bind λk=>px.bind λv=>(gc l k v).bind λl'=>some (.nx l')) (λl'=>A.set i (.w i (oL enc l'))):=λf hf S0 e F S hs=>by
 obtain⟨k,h1,h2⟩:=Av hf;obtain⟨v,h3,h4⟩:=Av h2;obtain⟨l',h5,h6⟩:=Av h4;cases h6;unfold gc at h5;split at h5
 ·rename_i hl
  cases h5;obtain⟨x,g1,n,rfl,g2,g3⟩:=hs.sl i _ hi;obtain⟨d1,S1,c1,k1,rfl⟩:=h k h1 S0 e F S hs;obtain⟨d2,S2,c2,k2,rfl⟩:=hx v h3 S0 e _ S1 (hs.grow k1);have kk:=k1.trans k2;have hg:=hs.grow kk
  have a0:atL (.ref n) S=some (n,l.map enc):=by unfold atL;dsimp only;rw[g3];rfl
  have a2:atL (.ref n) S2=some (n,l.map enc):=by unfold atL;dsimp only;rw[kk.at g3];rfl
  have tj:bv (AD i) mi mx e S=.ok .non (S2.set n (oL enc (l.take k.toNat++[v]++l.drop k.toNat))):=by
   unfold bv;rw[J2 g1];dsimp only[Res.bind];rw[a0];dsimp only;rw[c1];dsimp only[Res.bind];rw[c2];dsimp only[Res.bind];rw[a2];dsimp only;rw[qX ⟨hl.1,hl.2.1,by rw[AC];exact Aw (Nat.succ_le_of_lt hl.2.2) (by decide)⟩];rw[show(l.map enc).take k.toNat++[enc v]++(l.map enc).drop k.toNat=(l.take k.toNat++[v]++l.drop k.toNat).map enc by simp];rfl
  exact⟨_,_,L6 tj,e,_,rfl,hg.put ht hi g1 (by rw[E8 (BG g3)];exact g2),hs.fle S2⟩
 ·cases h5
end
section
variable{F:Fz}
def loF(F:Fz):Nat->Option Ob:=λn=>match F n with
 | .fz o=>some o
 | _=>none
theorem b4(h:F n=.fz o):loF F n=some o:=by unfold loF;rw[h]
theorem LQ(h:loF F n=some o):F n=.fz o:=by
 unfold loF at h;split at h
 ·rename_i o' ho;cases h;exact ho
 ·cases h
end
section
variable{S0 S:Sto}{A:List Sl}{ρ σ:Type}
def whF(c:σ->Option Bool)(q:σ->Option (Fw ρ σ)):Nat->σ->Option (Fw ρ σ)
 | 0,_=>none
 | n+1,s=>(c s).bind λt=>if t=true then match q s with
   | some (.nx s')=>whF c q n s'
   | some (.ct s')=>whF c q n s'
   | some (.bk s')=>some (.nx s')
   | some (.rt r)=>some (.rt r)
   | none=>none
  else some (.nx s)
theorem Yi(hc:∀s,VB (B s) t (c s))(hb:∀s,VS (B s) b R (q s) B):∀(n:Nat) (s:σ),VS (B s) (He t b n) R (whF c q n s) B:=by
 intro n
 induction n with
 | zero=>intro s f hf;cases hf
 | succ n ih=>
  intro s f hf S0 e F S hs;unfold whF at hf;obtain⟨v,h1,h2⟩:=Av hf;obtain⟨S1,h3,h4⟩:=hc s v h1 S0 e F S hs;have rT:=hs.grow h4
  have run:He t b (n+1) e S=if v=true then(b e S1).bind λf S2=>match f with
   | .nx e2=>He t b n e2 S2
   | .ct e2=>He t b n e2 S2
   | .bk e2=>.ok (.nx e2) S2
   | .rt d=>.ok (.rt d) S2
   | .ex c e2=>.ok (.ex c e2) S2
  else .ok (.nx e) S1:=by
   show(t e S).lift e _=_;rw[h3];rfl
  cases v with
  | false=>
   rw[qY AI]at h2;cases h2;exact⟨_,S1,run.trans (qY AI),e,_,rfl,rT,hs.fle S1⟩
  | true=>
   rw[qX rfl]at h2;rw[run,qX rfl];split at h2
   ·rename_i s' hq
    obtain⟨h,S2,g1,e2,F2,rfl,g2,g3⟩:=hb s _ hq S0 e _ S1 rT;rw[g1];obtain⟨h',S3,g4,g5⟩:=ih s' f h2 S0 e2 F2 S2 g2;exact⟨h',S3,g4,g5.up ((hs.fle S1).trans g3)⟩
   ·rename_i s' hq
    obtain⟨h,S2,g1,e2,F2,rfl,g2,g3⟩:=hb s _ hq S0 e _ S1 rT;rw[g1];obtain⟨h',S3,g4,g5⟩:=ih s' f h2 S0 e2 F2 S2 g2;exact⟨h',S3,g4,g5.up ((hs.fle S1).trans g3)⟩
   ·rename_i s' hq
    cases h2;obtain⟨h,S2,g1,e2,F2,rfl,g2,g3⟩:=hb s _ hq S0 e _ S1 rT;rw[g1];exact⟨_,S2,rfl,e2,F2,rfl,g2,(hs.fle S1).trans g3⟩
   ·rename_i r hq
    cases h2;obtain⟨h,S2,g1,d,rfl,g2,g3⟩:=hb s _ hq S0 e _ S1 rT;rw[g1];exact⟨_,S2,rfl,d,rfl,g2,g3⟩
   ·cases h2
theorem Ud(w0:Wk A (B s0))(hc:∀s,VB (B s) t (c s))(hb:∀s,VS (B s) b R (q s) B):VS A (He t b n) R (whF c q n s0) B:=λf hf S0 e F S hs=>
 Yi hc hb n s0 f hf S0 e F S (hs.weak w0)
end
section
variable{S0 S S':Sto}{A B:List Sl}{e:Lo}{F:Fz}{α ρ σ:Type}{a b:ME}{enc:α->D}
def oFK(enc:α->D)(l:List (Int×α)):Ob:=.fK (l.map λx=>(DR x.1,enc x.2))
theorem lZ(h:S[n]?=some (oFK enc l))(k:Int):MD (.ref n) (.int k) S=some ((Ag l k).map enc):=by
 unfold MD;dsimp only;rw[h];show some (Ag _ (DR k))=_;rw[QK Py]
theorem nU(h:S[n]?=some (oFK enc l)):GF (.ref n) S=none:=by unfold GF;dsimp only;rw[h];rfl
theorem Yl(ha:VE A a (rO (oFK enc)) pl)(hb:VE A b (rV D.int) pk):VE A (m2 ixA a b) (rV enc) (pl.bind λl=>pk.bind λx=>Ag l x):=WM ha hb λl x z S n hn q=>RL (nU hn) (by rw[lZ hn x,q];rfl)
theorem gY(h:S[n]?=some (oFK enc l)):Ve (.ref n) S=some ((l.map (·.1)).map D.int):=by
 unfold Ve;dsimp only;rw[h];show some _=_;rw[BC,BC];rfl
theorem jJ(h:A[i]?=some (.y (oFK enc l))):VI A (YD (AD i)) D.int (some (l.map (·.1))):=λ_ hv S0 e F S hs=>by
 cases hv;obtain⟨x,h1,n,rfl,h2,_⟩:=hs.sl i _ h;refine⟨Gs ((l.map (·.1)).map D.int),S,?_,Keeps.refl S,λ_ _ _ _=>rfl⟩;unfold YD;rw[J2 h1];dsimp only[Res.bind];rw[gY (hs.fz _ _ h2)]
theorem nA{b:MS}{R:Rk ρ}{p:Option (Fw ρ σ)}{B:σ->List Sl}{l:List (Int×α)}(i:Nat)(ha:A[i]?=some (.w i (oDK enc l)))(ht:((A.set i .u).all (Sl.oth i))=true)(h:VS (A.set i (.y (oFK enc l))) b R p B):VS A (BO (sFz i) b) R p B:=λf hf S0 e F S hs=>by
 obtain⟨x,h1,n,rfl,h2,h3⟩:=hs.sl i _ ha;have hp:=hs.put (o':=oFK enc l) ht ha h1 h2;have ur:(A.set i (.w i (oFK enc l)))[i]?=some (.w i (oFK enc l)):=Ai (AE.mp ha).1;obtain⟨F',h4,h5⟩:=hp.freeze (by rw[mL];exact ht) ur;rw[mL]at h4;obtain⟨g,S',h6,h7⟩:=h f hf S0 e F' _ h4;refine⟨g,S',?_,h7.up h5⟩
 have:sFz i e S=.ok (.nx e) (S.set n (oFK enc l)):=by
  unfold sFz;rw[h1];dsimp only;rw[h3];rfl
 exact(Bw this).trans h6
theorem aS(ha:VE A a (rO (oDK enc)) pl):VB A (FO a) (pl.bind λl=>some (!l.isEmpty)):=λv hv S0 e F S hs=>by
 obtain⟨l,h1,h2⟩:=Av hv;cases h2;obtain⟨d,S',h3,h4,n,rfl,hn⟩:=ha l h1 S0 e F S hs;refine⟨S',?_,h4⟩;unfold FO;rw[h3];dsimp only[Res.bind];rw[show Ot (.ref n) S'=some (!l.isEmpty) by unfold Ot;dsimp only;rw[hn];show some (!(Xd _ l).isEmpty)=_;rw[List.isEmpty_map]]
end
abbrev Pq:=(Nat->Option Ob)->D->Prop
def AtV(P:Pq)(C:AU)(x:Str)(d0:D):Prop:=∀L d,P L d->∃q fs,d=.ref q/\L q=some (.ins C fs)/\fs.lookup x=some d0
def AtO(P:Pq)(C:AU)(x:Str)(o:Ob):Prop:=∀L d,P L d->∃q fs n,d=.ref q/\L q=some (.ins C fs)/\fs.lookup x=some (.ref n)/\L n=some o
def AtN(P:Pq)(C:AU)(x:Str):Prop:=∀L d,P L d->∃q fs,d=.ref q/\L q=some (.ins C fs)/\fs.lookup x=none
def rQ(P:β->Pq):Rk β:=λv S0 d S=>∀L:Nat->Option Ob,(∀n o,S0.length<=n->S[n]?=some o->L n=some o)->P v L d
section
variable{S0 S S':Sto}{A:List Sl}{e:Lo}{F:Fz}{α β:Type}{enc:α->D}{ob:α->Ob}{i n:Nat}{P:Pq}{Pf Pg:β->Pq}{C:AU}{x:Str}{v:α}{f:β}
theorem Vs.qAt(hs:Vs S0 A e F S)(h:A[i]?=some (.q P)):∃d,e[i]?=some (some d)/\P (loF F) d:=by
 obtain⟨x,h1,d,rfl,h2⟩:=hs.sl i _ h;exact⟨d,h1,h2 _ λn o q=>b4 q⟩
theorem jR(hc:AtV P C x (enc v))(h:A[i]?=some (.q P)):VE A (DJ C x (AD i)) (rV enc) (some v):=λ_ hv S0 e F S hs=>by
 cases hv;obtain⟨d,h1,h2⟩:=Vs.qAt hs h;obtain⟨q,fs,rfl,h3,h4⟩:=hc _ _ h2;exact⟨_,S,JU (J2 h1) (hs.fz _ _ (LQ h3)) h4,Keeps.refl S,rfl⟩
theorem GD(hc:AtO P C x (ob v))(h:A[i]?=some (.q P)):VE A (DJ C x (AD i)) (rO ob) (some v):=λ_ hv S0 e F S hs=>by
 cases hv;obtain⟨d,h1,h2⟩:=Vs.qAt hs h;obtain⟨q,fs,n,rfl,h3,h4,h5⟩:=hc _ _ h2;exact⟨_,S,JU (J2 h1) (hs.fz _ _ (LQ h3)) h4,Keeps.refl S,n,rfl,hs.fz _ _ (LQ h5)⟩
theorem jK(hc:AtO P C x (oL enc l))(h:A[i]?=some (.q P)):VI A (Eo (DJ C x (AD i))) enc (some l):=λ_ hv S0 e F S hs=>by
 cases hv;obtain⟨d,h1,h2⟩:=Vs.qAt hs h;obtain⟨q,fs,n,rfl,h3,h4,h5⟩:=hc _ _ h2;have h6:=LQ h5;have hn:=hs.fz _ _ h6;exact⟨_,S,LR (n:=n) (JU (J2 h1) (hs.fz _ _ (LQ h3)) h4) hn,Keeps.refl S,λF2 S2 hF h=>Dt (h n _ (hF _ _ (by rw[E8 (BG hn)];exact h6)))⟩
theorem eD(hc:AtO P C x (oL enc l))(h:A[i]?=some (.q P)):VI A (LS (DJ C x (AD i))) (eP D.int enc) (some (C0 l)):=λ_ hv S0 e F S hs=>by
 cases hv;obtain⟨d,h1,h2⟩:=Vs.qAt hs h;obtain⟨q,fs,n,rfl,h3,h4,h5⟩:=hc _ _ h2;have h6:=LQ h5;have hn:=hs.fz _ _ h6;refine⟨Op (Ex (.ref n)),S,?_,Keeps.refl S,λF2 S2 hF h=>?_⟩
 ·unfold LS
  rw[JU (C:=C) (f:=x) (J2 (S:=S) h1) (hs.fz _ _ (LQ h3)) h4];dsimp only[Res.bind];rw[Dt hn]
 ·unfold Op
  rw[Dt (h n _ (hF _ _ (by rw[E8 (BG hn)];exact h6)))];exact congrArg some (Sd l)
theorem eR(hp:∀L d,Pf f L d->Pg f L d)(h:A[i]?=some (.q (Pf f)))(hl:VA A ml q ar):VA A (AT (AD i) ml) (q.bind λy=>some (f,y)) (λz=>.q (Pg z.1) :: ar z.2):=λv hv S0 e F S hs=>by
 obtain⟨y,h2,h3⟩:=Av hv;cases h3;obtain⟨x,h4,d,rfl,h5⟩:=hs.sl i _ h;obtain⟨ds,S2,h6,h7,h8⟩:=hl y h2 S0 e F S hs;exact⟨_,S2,CV (J2 h4) h6,h7,λL hL=>hp _ _ (h5 L λn o q=>hL n o (h7.at (hs.fz _ _ q))),h8⟩
theorem NC(hc:AtN (Pf f) C m)(hp:∀L d,Pf f L d->Pg f L d)(h:A[i]?=some (.q (Pf f)))(ha:VA A ml p ar)(hf:∀z,VF g (.q (Pg f) :: ar z) R (q z))(hn:∀z,(ar z).length+1=n)
  (hR:∀v S S1 d S',S.length<=S1.length->R v S1 d S'->R v S d S'):VE A (LP C m n g (AD i) ml) R (p.bind q):=λv hv S0 e F S hs=>by
 obtain⟨z,h1,h2⟩:=Av hv;obtain⟨x,h4,d,rfl,h5⟩:=hs.sl i _ h;obtain⟨k,fs,rfl,h6,h7⟩:=hc _ _ (h5 (loF F) λn o q=>b4 q);obtain⟨ds,S2,q1,q2,q3⟩:=ha z h1 S0 e F S hs;obtain⟨d,S3,r1,r2,r3⟩:=hf z v h2 S2 (.ref k :: ds) ⟨λL hL=>hp _ _ (h5 L λn o q=>hL n o (q2.at (hs.fz _ _ q))),q3⟩;refine⟨d,S3,?_,q2.trans r2,hR _ _ _ _ _ q2.1 r3⟩;unfold LP;rw[J2 h4];dsimp only[Res.bind];rw[hs.fz _ _ (LQ h6)];dsimp only;rw[qX ⟨rfl,h7⟩,q1];dsimp only;rw[qX (by rw[q3.len];exact hn z)];exact r1
theorem du(h:VE A m (rQ Pf) p):VS A (DH i m) R (p.bind λv=>some (.nx v)) (λv=>A.set i (.q (Pf v))):=λf hf S0 e F S hs=>by
 obtain⟨v,h1,h2⟩:=Av hf;cases h2;obtain⟨d,S',h3,h4,h5⟩:=h v h1 S0 e F S hs;exact⟨_,S',K9 h3,_,_,rfl,(hs.grow h4).set (a:=.q (Pf v)) (x:=some d) i ⟨d,rfl,λL hL=>h5 L λn o hn ho=>hL n o (RG hn ho)⟩,hs.fle S'⟩
end
def kR(r:List Int):List Key:=r.map DR
def oDR(enc:α->D)(l:List (List Int×α)):Ob:=.dT (l.map λx=>(kR x.1,enc x.2))
theorem cE(x y:List Int)(h:kR x=kR y):x=y:=by
 have:∀r:List Int,(kR r).map (λk:Key=>match k with | .inl i=>i | .inr _=>0)=r:=λr=>by
  unfold kR;rw[BC]
  conv=>rhs;rw[<-P8 r]
  rfl
 rw[<-this x,h,this y]
theorem ij(r:List Int):MP (r.map D.int)=some (kR r):=by
 induction r with
 | nil=>rfl
 | cons x r ih=>
  rw[A9];unfold MP;rw[ih];rfl
section
variable{S0 S S':Sto}{A:List Sl}{e:Lo}{F:Fz}{α:Type}{enc:α->D}{a b:ME}
theorem pH(h:S[n]?=some (oDR enc l))(k:List Int):MD (.ref n) (eT D.int k) S=some ((Ag l k).map enc):=by
 unfold MD;dsimp only;rw[h];show(match MP (k.map D.int)with | some ks=>some (Ag (l.map λx:List Int×α=>(kR x.1,enc x.2)) ks) | none=>none)=_;rw[ij];dsimp only;rw[QK cE]
theorem seqR(h:S[n]?=some (oDR enc l)):GF (.ref n) S=none:=by unfold GF;dsimp only;rw[h];rfl
theorem aP(ha:VE A a (rO (oDR enc)) pl)(hb:VE A b (rV (eT D.int)) pk):VE A (m2 ixA a b) (rV enc) (pl.bind λl=>pk.bind λx=>Ag l x):=WM ha hb λl x z S n hn q=>RL (seqR hn) (by rw[pH hn x,q];rfl)
theorem lW(l:List (List Int×α))(k:List Int)(v:α)(S:Sto)(n:Nat)(hn:S[n]?=some (oDR enc l))(hl:l.length < 1000000):Pc (.ref n) (eT D.int k) (enc v) S=some (S.set n (oDR enc (Bz l k v))):=by
 unfold Pc;dsimp only;rw[hn];show(match MP (k.map D.int)with | some ks=>if (l.map _).length < sizeLine then some (S.set n (Ob.dT (Bz (l.map λx:List Int×α=>(kR x.1,enc x.2)) ks (enc v))))else none | none=>none)=_;rw[ij];dsimp only;rw[qX (by rw[AC];exact ZP hl),Qg cE];rfl
theorem eN(ha:VE A a (rV D.int) p):VE A (X6 a) (rV D.int) (p.bind λx=>some (DG x:Int)):=λv hv S0 e F S hs=>by
 obtain⟨x,h1,h2⟩:=Av hv;cases h2;obtain⟨d,S',h3,h4,rfl⟩:=ha x h1 S0 e F S hs;refine⟨_,S',?_,h4,rfl⟩;unfold X6;rw[h3];rfl
end
end L4
namespace L2
open PySem PySem.Spec PyProof.Rows
section
variable{P:Ba}{w:Bx}{K:AF}{mg:Str->Option AH}{base:Cu}
theorem BZ{x qual}{st}{f}{fd}{N ps}{k n}(F:Fun K x qual st f fd)(Sc:Bb N ps (Az st))(hn:ps.length=n){mb}
  (qK:∀(qi:AH) (A:CC) (outer:List Env) (s:AL) (H:Hp) (E:XK),Gn k (A.deeper (MV qual (Az st) s.heap.objs.size f qi))->(A.deeper (MV qual (Az st) s.heap.objs.size f qi)).units+64 < Fi->N.Nodup ->
   GSs (XF (CXG P w) P w K mg base N qual (Az st) f qi A outer s H E).q noE (Hs st) mb) :
  Cq P w K mg base (CXG P w) (k+1) f fd ps (spM K n (D7 N.length mb)):=gr F Sc hn λqi A outer s H E hr=>qK qi A outer s H E hr hr.units Sc.nd
end
end L2
namespace M
open PySem PySem.Spec PyProof.Rows L2
def top(i:Nat):DB:=i7.main.body.getD i (.Pass ⟨0,0,0,0⟩)
structure Wd where
 Web:AU
 Field:AU
def Wd.excs(W:Wd):List AU:=[]
abbrev IK:DB:=top 11
abbrev IH:DB:=top 12
abbrev Me:DB:=KP (top 10) 0
abbrev GH:DB:=top 13
abbrev Wl:DB:=top 14
abbrev Mb:DB:=top 16
abbrev OG:DB:=top 17
abbrev OE:DB:=top 18
abbrev QY:DB:=top 19
abbrev Wm:DB:=top 20
abbrev LA:DB:=top 22
abbrev OD:DB:=top 24
abbrev G4:DB:=top 27
abbrev Mc:DB:=top 28
abbrev LB:DB:=top 29
abbrev Ed:DB:=KP (top 31) 3
abbrev Ee:DB:=KP (top 31) 4
abbrev J9:DB:=KP (top 31) 0
abbrev JO:DB:=KP (top 31) 1
abbrev IM:DB:=KP (top 31) 2
abbrev IN:DB:=KP (top 31) 5
abbrev JN:DB:=top 33
abbrev Qa:DB:=top 32
abbrev IJ:DB:=top 34
abbrev OF:DB:=top 35
abbrev Ey:DB:=top 38
abbrev II:DB:=top 39
abbrev QZ:DB:=top 40
abbrev IL:DB:=top 42
abbrev J8:DB:=top 43
abbrev LC:DB:=top 44
abbrev Md:DB:=top 45
abbrev Xs:DB:=top 46
def RU(W:Wd):MS:=
  (BO (DH 2 Tu)
  (BO (Gk (Eo (AD 1)) (Iy 2 (DL (tgN 3) (DL (tgN 4) Jk)))
  (BO (DH 5 (Kp (AT (mQ Os (AT (AD 3) (AT (AD 4) BR))) (AT (mQ NV (AT (AD 3) (AT (AD 4) BR))) BR))))
  (BO (sIf (mB (m2 (eqD false) (m2 ixA (AD 5) (mC (.int 0))) (m2 ixA (AD 5) (mC (.int 1))))) PL sNx)
  (BO (sIf (mOr (mB (m2 ltD (m2 ixA (AD 5) (mC (.int 0))) (mC (.int 0)))) (mB (m2 geD (m2 ixA (AD 5) (mC (.int 1))) (AD 0)))) PL sNx)
  (BO (sIf (mB (m2 (inA false) (AD 5) (AD 2))) PL sNx)
  (Cv (AD 2) (AD 5) (mC (.bl true))))))))
  (DM (Hh (HI (AD 2))))))
def Gb(W:Wd):List D->Sto->Res D:=D7 6 (RU W)
def Lh(W:Wd):MS:=
  (BO (DH 2 (FP (EM 1 (iR1 (AT (AD 0) BR)) (tgN 0) Gx (FP (GV BR)))))
  (BO (Gk (Eo (AD 1)) (Iy 2 (DL (tgN 3) (DL (tgN 4) Jk)))
  (BO (HR (R4 (m2 ixA (AD 2) (AD 3)) (AD 4)))
  (HR (R4 (m2 ixA (AD 2) (AD 4)) (AD 3)))))
  (DM (Hh (FP (EM 1 (Eo (AD 2)) (tgN 0) Gx (Hh (HI (AD 0)))))))))
def Ga(W:Wd):List D->Sto->Res D:=D7 5 (Lh W)
def RV(W:Wd):MS:=
  (BO (sIf (PX (mB (m3 leD leD (mC (.int 1)) (AD 1) (mC (.int 60))))) PL sNx)
  (BO (Iz W.Web "places" (AD 0) (AD 1))
  (BO (Iz W.Web "ties" (AD 0) (CW 2 (Gb W) (AT (AD 1) (AT (AD 2) BR))))
  (Iz W.Web "near_sets" (AD 0) (CW 2 (Ga W) (AT (AD 1) (AT (DJ W.Web "ties" (AD 0)) BR)))))))
def KU(W:Wd):List D->Sto->Res D:=D7 3 (RV W)
def Gf(W:Wd):MS:=
  (sIf (PX (mB (m3 leD ltD (mC (.int 0)) (AD 1) (DJ W.Web "places" (AD 0))))) PL sNx)
def GZ(W:Wd):List D->Sto->Res D:=D7 2 (Gf W)
def XJ(W:Wd):MS:=
  (BO (HR (CW 2 (GZ W) (AT (AD 0) (AT (AD 1) BR))))
  (DM (m2 ixA (DJ W.Web "near_sets" (AD 0)) (AD 1))))
def XC(W:Wd):List D->Sto->Res D:=D7 2 (XJ W)
def Mr(W:Wd):MS:=
  (DM (FP (EM 1 (iR1 (AT (DJ W.Web "places" (AD 0)) BR)) (tgN 0) Gx (Hh (HI (m2 Jr (Kp (AT (AD 0) BR)) (CW 2 (XC W) (AT (AD 1) (AT (AD 0) BR)))))))))
def KR(W:Wd):List D->Sto->Res D:=D7 1 (Mr W)
def Oe(W:Wd):MS:=
  (BO (DH 1 (mC (.int 0)))
  (BO (Gk (Eo (AD 0)) (tgN 2)
  (Qb 1 (λa b=>CJ a b) (m2 O8 (mC (.int 1)) (AD 2))))
  (DM (AD 1))))
def OX(W:Wd):List D->Sto->Res D:=D7 3 (Oe W)
def Oc(W:Wd):MS:=
  (BO (DH 1 (FP (GV BR)))
  (BO (DH 2 (AD 0))
  (BO (He (FO (AD 2)) (BO (HR (R4 (AD 1) (m2 Rs (X6 (m2 RX (AD 2) (bu (AD 2)))) (mC (.int 1)))))
  (Qb 2 (λa b=>BU a b) (m2 Rs (AD 2) (mC (.int 1))))) wN)
  (DM (AD 1)))))
def L5(W:Wd):List D->Sto->Res D:=D7 3 (Oc W)
def Vt(W:Wd)(fr:List D->Sto->Res D):MS:=
  (BO (DH 5 (FP (EM 1 (Eo (m2 ixA (AD 0) (AD 3))) (tgN 0) (NX (FO (m2 RX (m2 Us (AD 2) (AD 0)) (mC (.int 1)))) (mB (m2 (inA true) (AD 0) (AD 5)))) (AD 0))))
  (BO (Gk (Eo (AD 5)) (tgN 6)
  (sIf (mB (m2 (inA true) (AD 6) (AD 2))) (BO (Cv (AD 2) (AD 6) (AD 3))
  (DM (mC (.bl true)))) sNx))
  (BO (Gk (Eo (AD 5)) (tgN 6)
  (sIf (mB (m2 (inA true) (AD 6) (AD 4))) (BO (Cv (AD 4) (AD 6) (mC (.bl true)))
  (sIf (FO (CW 5 fr (AT (AD 0) (AT (AD 1) (AT (AD 2) (AT (m2 ixA (AD 2) (AD 6)) (AT (AD 4) BR))))))) (BO (Cv (AD 2) (AD 6) (AD 3))
  (DM (mC (.bl true)))) sNx)) sNx))
  (DM (mC (.bl false))))))
def Fe(W:Wd):Nat->List D->Sto->Res D
 | 0=>λ_ _=>.bad
 | n+1=>D7 7 (Vt W (Fe W n))
def XM(W:Wd):MS:=
  (BO (DH 3 IV)
  (BO (Gk (Eo (AD 1)) (tgN 4)
  (sIf (FO (m2 RX (m2 Us (AD 2) (AD 4)) (mC (.int 1)))) (Cv (AD 3) (AD 4) (AD 4)) sNx))
  (BO (Gk (Eo (AD 1)) (tgN 4)
  (sIf (NX (PX (FO (m2 RX (m2 Us (AD 2) (AD 4)) (mC (.int 1))))) (PX (FO (CW 5 (Fe W 9) (AT (AD 0) (AT (AD 2) (AT (AD 3) (AT (AD 4) (AT IV BR))))))))) (DM (mC (.bl false))) sNx))
  (DM (mC (.bl true))))))
def UC(W:Wd):List D->Sto->Res D:=D7 5 (XM W)
def Ld(W:Wd):MS:=
  (DM (Hh (FP (EM 1 (Eo (AD 0)) (tgN 0) Gx (VZ (mB (m2 (eqD false) (AD 0) (AD 2))) (AD 3) (AD 0))))))
def LX(W:Wd):List D->Sto->Res D:=D7 3 (Ld W)
def Oa(W:Wd):MS:=
  (BO (DH 2 (FP (GV (AT (Kp BR) BR))))
  (BO (Gk (iR1 (AT (AD 1) BR)) (tgN 3)
  (BO (DH 4 (FP (GV BR)))
  (BO (Gk (Eo (AD 2)) (tgN 5)
  (BO (DH 6 (VZ (FO (AD 5)) (m2 Jr (m2 ixA (AD 5) (bu (mC (.int 1)))) (mC (.int 1))) (mC (.int 0))))
  (Gk (iR2 (AT (AD 6) (AT (m2 Jr (m2 Jr (m2 Rs (AD 0) (AD 1)) (AD 3)) (mC (.int 1))) BR))) (tgN 7)
  (HR (R4 (AD 4) (m2 Jr (AD 5) (Kp (AT (AD 7) BR))))))))
  (DH 2 (AD 4)))))
  (DM (AD 2))))
def OV(W:Wd):List D->Sto->Res D:=D7 8 (Oa W)
def HA(W:Wd):MS:=
  (BO (DH 2 (mC (.int 1)))
  (BO (Gk (iR1 (AT (AD 1) BR)) (tgN 3)
  (DH 2 (m2 Nk (m2 gH (AD 2) (m2 Rs (AD 0) (AD 3))) (m2 Jr (AD 3) (mC (.int 1))))))
  (DM (AD 2))))
def G9(W:Wd):List D->Sto->Res D:=D7 4 (HA W)
def Ms(W:Wd):MS:=
  (BO (sIf (PX (mB (m3 leD leD (mC (.int 1)) (AD 1) (DJ W.Web "places" (AD 0))))) PL sNx)
  (DM (CW 2 (G9 W) (AT (DJ W.Web "places" (AD 0)) (AT (AD 1) BR)))))
def Mn(W:Wd):List D->Sto->Res D:=D7 2 (Ms W)
def Lg(W:Wd):MS:=
  (BO (sIf (mB (m2 gtD (CW 2 (Mn W) (AT (AD 0) (AT (AD 1) BR))) (mC (.int 400)))) PL sNx)
  (DM (CW 2 (OV W) (AT (DJ W.Web "places" (AD 0)) (AT (AD 1) BR)))))
def JE(W:Wd):List D->Sto->Res D:=D7 2 (Lg W)
def Ef(W:Wd):MS:=
  (BO (DH 2 (m2 ixA (DJ W.Field "everything" (AD 0)) (AD 1)))
  (BO (DH 3 (mC (.int 0)))
  (BO (Gk (Eo (AD 2)) (tgN 4)
  (Gk (Eo (m2 ixA (DJ W.Field "takes" (AD 0)) (AD 4))) (tgN 5)
  (sIf (mB (m2 (inA true) (AD 5) (AD 2))) (Qb 3 (λa b=>CJ a b) (m2 O8 (mC (.int 1)) (m2 ixA (DJ W.Field "numbers" (AD 0)) (Hh (HI (CW 3 (LX W) (AT (AD 2) (AT (AD 4) (AT (AD 5) BR))))))))) sNx)))
  (DM (AD 3)))))
def Cw(W:Wd):List D->Sto->Res D:=D7 6 (Ef W)
def Eg(W:Wd):MS:=
  (BO (DH 2 (m2 ixA (DJ W.Field "everything" (AD 0)) (AD 1)))
  (BO (DH 3 (mC (.int 0)))
  (BO (Gk (LS (DJ W.Field "place_bits" (AD 0))) (Iy 2 (DL (tgN 4) (DL (tgN 5) Jk)))
  (sIf (FO (CW 3 (UC W) (AT (DJ W.Field "takes" (AD 0)) (AT (AD 2) (AT (AD 5) BR))))) (Qb 3 (λa b=>CJ a b) (m2 O8 (mC (.int 1)) (AD 4))) sNx))
  (DM (AD 3)))))
def Cy(W:Wd):List D->Sto->Res D:=D7 6 (Eg W)
def Nl(W:Wd):MS:=
  (BO (Iz W.Field "everything" (AD 0) (CW 2 (JE W) (AT (AD 1) (AT (AD 2) BR))))
  (BO (Iz W.Field "kind" (AD 0) (AD 3))
  (BO (Iz W.Field "takes" (AD 0) (CW 1 (KR W) (AT (AD 1) BR)))
  (BO (Iz W.Field "numbers" (AD 0) Tu)
  (BO (Iz W.Field "having" (AD 0) (FP (EM 1 (iR1 (AT (DJ W.Web "places" (AD 1)) BR)) (tgN 0) Gx (mC (.int 0)))))
  (BO (Gk (LS (DJ W.Field "everything" (AD 0))) (Iy 2 (DL (tgN 4) (DL (tgN 5) Jk)))
  (BO (Cv (DJ W.Field "numbers" (AD 0)) (AD 5) (AD 4))
  (Gk (Eo (AD 5)) (tgN 6)
  (U0 (λa b=>CJ a b) (DJ W.Field "having" (AD 0)) (AD 6) (m2 O8 (mC (.int 1)) (AD 4))))))
  (BO (Iz W.Field "place_bits" (AD 0) (FP (EM 1 (Eo (DJ W.Field "everything" (AD 0))) (tgN 0) Gx (CW 1 (OX W) (AT (AD 0) BR)))))
  (Iz W.Field "known" (AD 0) IV))))))))
def JW(W:Wd):List D->Sto->Res D:=D7 7 (Nl W)
def LM(W:Wd)(ds:List D)(S:Sto)(k:Key):Int:=match ds,k with
 | .ref q :: _,.inl n=>lmI (if lR "kind" q S=some ("one" : Str)then Cw W [.ref q,.int n] S else Cy W [.ref q,.int n] S)
 | _,_=>0
def Ge(W:Wd):List D->Sto->Res D:=gM "known" (LM W) (JW W)
def Ja(W:Wd):MS:=
  (BO (DH 2 (m2 ixA (DJ W.Field "everything" (AD 0)) (AD 1)))
  (DM (FP (EM 1 (iR1 (AT (PY (DJ W.Field "takes" (AD 0))) BR)) (tgN 0) (mB (m2 (inA true) (AD 0) (AD 3))) (AD 0)))))
def JV(W:Wd):List D->Sto->Res D:=D7 3 (Ja W)
def Ig(W:Wd):MS:=
  (BO (sIf (mB (m2 (inA true) (AD 1) (DJ W.Field "known" (AD 0)))) (Cv (DJ W.Field "known" (AD 0)) (AD 1) (VZ (mB (m2 (eqD false) (DJ W.Field "kind" (AD 0)) (mC (.str "one")))) (LP W.Field "linked_by_one" 2 (Cw W) (AD 0) (AT (AD 1) BR)) (LP W.Field "linked_by_all" 2 (Cy W) (AD 0) (AT (AD 1) BR)))) sNx)
  (DM (m2 ixA (DJ W.Field "known" (AD 0)) (AD 1))))
def Hi(W:Wd):List D->Sto->Res D:=D7 2 (Ig W)
def Gc(W:Wd):List D->Sto->Res D:=iH "known" (Hi W)
def Ih(W:Wd):MS:=
  (DM (m2 RX (LP W.Field "linked" 2 (Gc W) (AD 0) (AT (AD 1) BR)) (m2 ixA (DJ W.Field "having" (AD 0)) (AD 2))))
def Ia(W:Wd):List D->Sto->Res D:=D7 3 (Ih W)
def JZ(W:Wd):MS:=
  (BO (DH 2 IV)
  (BO (Gk (Eo (CW 1 (L5 W) (AT (AD 1) BR))) (tgN 3)
  (BO (DH 4 (FP (EM 1 (Eo (LP W.Field "calls" 2 (JV W) (AD 0) (AT (AD 3) BR))) (tgN 0) (mB (m2 (eqD false) (m2 RX (LP W.Field "behind" 3 (Ia W) (AD 1) (AT (AD 4) (AT (AD 0) BR))) (AD 2)) (mC (.int 0)))) (AD 0))))
  (sIf (FO (AD 4)) (Cv (AD 2) (AD 3) (m2 ixA (AD 4) (mC (.int 0)))) sNx)))
  (DM (AD 2))))
def HK(W:Wd):List D->Sto->Res D:=D7 5 (JZ W)
def RT(W:Wd):MS:=
  (BO (DH 1 IV)
  (BO (DH 2 (m2 Rs (m2 O8 (mC (.int 1)) (PY (DJ W.Field "everything" (AD 0)))) (mC (.int 1))))
  (BO (DH 3 (mC (.int 1)))
  (BO (DH 4 (CW 2 (HK W) (AT (AD 0) (AT (AD 2) BR))))
  (BO (He (FO (AD 4)) (BO (BO (sFz 4) (Gk (YD (AD 4)) (tgN 5)
  (BO (Cv (AD 1) (AD 5) (Kp (AT (AD 3) (AT (m2 ixA (AD 4) (AD 5)) BR))))
  (Qb 2 (λa b=>EA a b) (m2 O8 (mC (.int 1)) (AD 5))))))
  (BO (Qb 3 (λa b=>a+b) (mC (.int 1)))
  (DH 4 (CW 2 (HK W) (AT (AD 0) (AT (AD 2) BR)))))) wN)
  (DM (AD 1)))))))
def RF(W:Wd):List D->Sto->Res D:=D7 6 (RT W)
def Ic(W:Wd):MS:=
  (DM (gP (FP (EM 1 (iR1 (AT (PY (DJ W.Field "everything" (AD 0))) BR)) (tgN 0) (mB (m2 (inA true) (AD 0) (AD 2))) (m2 O8 (mC (.int 1)) (AD 0))))))
def IZ(W:Wd):List D->Sto->Res D:=D7 2 (Ic W)
def Od(W:Wd):MS:=
  (BO (DH 3 (Ou W.Field 4 (Ge W) (AT (AD 0) (AT (AD 1) (AT (AD 2) BR)))))
  (DM (FP (EM 1 (Eo (CW 1 (L5 W) (AT (CW 2 (IZ W) (AT (AD 3) (AT (CW 1 (RF W) (AT (AD 3) BR)) BR))) BR))) (tgN 0) Gx (m2 ixA (DJ W.Field "everything" (AD 4)) (AD 0))))))
def OW(W:Wd):List D->Sto->Res D:=D7 4 (Od W)
def E9(W:Wd):MS:=
  (sIf (mB (m2 gtD (DJ W.Web "places" (AD 0)) (mC (.int 8)))) PL sNx)
def E6(W:Wd):List D->Sto->Res D:=D7 1 (E9 W)
def Ib(W:Wd):MS:=
  (BO (Gk (iR2 (AT (mC (.int 1)) (AT (DJ W.Web "places" (AD 0)) BR))) (tgN 2)
  (sIf (FO (CW 3 (OW W) (AT (AD 0) (AT (AD 2) (AT (AD 1) BR))))) (DM (AD 2)) sNx))
  (DM (DJ W.Web "places" (AD 0))))
def IY(W:Wd):List D->Sto->Res D:=D7 3 (Ib W)
def RS(W:Wd):MS:=
  (BO (HR (CW 1 (E6 W) (AT (AD 0) BR)))
  (DM (CW 2 (IY W) (AT (AD 0) (AT (AD 1) BR)))))
def RE(W:Wd):List D->Sto->Res D:=D7 2 (RS W)
def Ie(W:Wd):MS:=
  (BO (sIf (mB (m2 ltD (AD 1) (PY (AD 0)))) (DM (m2 ixA (AD 0) (AD 1))) sNx)
  (DM (mC (.int 0))))
def E7(W:Wd):List D->Sto->Res D:=D7 2 (Ie W)
def KZ(W:Wd):MS:=
  (DM (Qs (mIs (isB "int") (λ_=>none) (AD 0)) (X5 (mIs (isB "bool") (λ_=>none) (AD 0)))))
def KS(W:Wd):List D->Sto->Res D:=D7 1 (KZ W)
def Li(W:Wd):MS:=
  (BO (sIf (mB (m2 (eqD false) (AD 0) (mC (.int 0)))) (DM (FP (EM 1 (iR1 (AT (m2 Rs (AD 1) (mC (.int 1))) BR)) (tgN 0) Gx (Kp (AT (AD 0) (AT (m2 Jr (AD 0) (mC (.int 1))) BR)))))) sNx)
  (BO (sIf (mB (m2 (eqD false) (AD 0) (mC (.int 1)))) (DM (FP (EM 1 (iR1 (AT (AD 1) BR)) (tgN 0) Gx (Kp (AT (AD 0) (AT (m2 R3 (m2 Jr (AD 0) (mC (.int 1))) (AD 2)) BR)))))) sNx)
  (BO (sIf (mB (m2 (eqD false) (AD 0) (mC (.int 2)))) (DM (FP (EM 1 (iR2 (AT (mC (.int 1)) (AT (AD 1) BR))) (tgN 0) Gx (Kp (AT (mC (.int 0)) (AT (AD 0) BR)))))) sNx)
  (BO (DH 2 (FP (GV BR)))
  (BO (Gk (iR1 (AT (AD 1) BR)) (tgN 3)
  (HR (NW (AD 2) (FP (EM 1 (iR1 (AT (AD 3) BR)) (tgN 0) Gx (Kp (AT (AD 0) (AT (AD 4) BR))))))))
  (DM (Tt (AD 2) bd (X1 (m2 gH (PY (AD 2)) (ZO (m2 (eqD false) (AD 0) (mC (.int 3)))))))))))))
def LY(W:Wd):List D->Sto->Res D:=D7 4 (Li W)
def Mt(W:Wd):MS:=
  (BO (DH 3 (m2 Nk (m2 Jr (AD 1) (mC (.int 1))) (mC (.int 2))))
  (BO (sIf (mB (m2 (eqD false) (AD 0) (mC (.int 0)))) (DM (AD 3)) sNx)
  (BO (sIf (mB (m2 (eqD false) (AD 0) (mC (.int 1)))) (DM (m2 ixA (FP (GV (AT (m2 Nk (m2 Jr (AD 1) (mC (.int 2))) (mC (.int 3))) (AT (AD 3) BR)))) (ZO (Qs (m2 (eqD false) (AD 2) (mC (.str "one"))) (m2 gtD (AD 1) (mC (.int 3))))))) sNx)
  (BO (sIf (mB (m2 (eqD false) (AD 0) (mC (.int 2)))) (DM (m2 ixA (FP (GV (AT (mQ Os (AT (mC (.int 2)) (AT (mQ NV (AT (mC (.int 1)) (AT (m2 Rs (AD 1) (mC (.int 1))) BR))) BR))) (AT (mQ NV (AT (mC (.int 1)) (AT (m2 Rs (AD 1) (mC (.int 1))) BR))) BR)))) (ZO (m2 (eqD false) (AD 2) (mC (.str "one")))))) sNx)
  (BO (sIf (mB (m2 (eqD false) (AD 0) (mC (.int 3)))) (DM (mC (.int 1))) sNx)
  (DM (AD 1)))))))
def Mo(W:Wd):List D->Sto->Res D:=D7 4 (Mt W)
def dG(W:Wd):MS:=
  (BO (DH 1 (CW 2 (E7 W) (AT (AD 0) (AT (mC (.int 0)) BR))))
  (BO (DH 2 (m2 Jr (mC (.int 1)) (m2 R3 (m2 Nk (AD 1) (mC (.int 5))) (mC (.int 7)))))
  (BO (DH 3 (m2 R3 (AD 1) (mC (.int 5))))
  (BO (sIf (NX (mB (m2 (eqD false) (AD 3) (mC (.int 1)))) (mB (m2 ltD (AD 2) (mC (.int 3))))) (DH 3 (mC (.int 0))) sNx)
  (BO (DH 4 (m2 ixA (FP (GV (AT (mC (.str "one")) (AT (mC (.str "all")) BR)))) (m2 R3 (m2 Nk (AD 1) (mC (.int 35))) (mC (.int 2)))))
  (BO (sIf (NX (mB (m2 (eqD false) (m2 R3 (CW 2 (E7 W) (AT (AD 0) (AT (mC (.int 1)) BR))) (mC (.int 4))) (mC (.int 1)))) (mOr (mB (m2 (eqD false) (AD 3) (mC (.int 0)))) (NX (mB (m2 (eqD false) (AD 3) (mC (.int 1)))) (mB (m2 (eqD false) (AD 4) (mC (.str "all"))))))) (DH 2 (mC (.int 8))) sNx)
  (BO (DH 5 (FP (GV BR)))
  (BO (Gk (iR1 (AT (AD 2) BR)) (tgN 6)
  (HR (bv (AD 5) (m2 R3 (CW 2 (E7 W) (AT (AD 0) (AT (m2 Jr (mC (.int 2)) (AD 6)) BR))) (m2 Jr (AD 6) (mC (.int 1)))) (AD 6))))
  (BO (DH 7 (FP (EM 2 (Eo (CW 2 (LY W) (AT (AD 3) (AT (AD 2) BR)))) (Iy 2 (DL (tgN 0) (DL (tgN 1) Jk))) Gx (Kp (AT (m2 ixA (AD 7) (AD 0)) (AT (m2 ixA (AD 7) (AD 1)) BR))))))
  (BO (DH 8 (CW 2 (RE W) (AT (Ou W.Web 3 (KU W) (AT (AD 2) (AT (AD 7) BR))) (AT (AD 4) BR))))
  (DM (Qs (CW 1 (KS W) (AT (AD 8) BR)) (m2 (eqD false) (AD 8) (CW 3 (Mo W) (AT (AD 3) (AT (AD 2) (AT (AD 4) BR)))))))))))))))))
def YK(W:Wd):List D->Sto->Res D:=D7 9 (dG W)
structure Txt(K:AF)(mg:Str->Option AH)(W:Wd) where
 d_checked_ties:Dfn K mg "checked_ties" "checked_ties" IK ["places", "ties"]
 d_near_sets_of:Dfn K mg "near_sets_of" "near_sets_of" IH ["places", "ties"]
 d_Web_init:Mtd K "__init__" "Web.__init__" Me ["self", "places", "ties"]
 d_refuse_no_place:Dfn K mg "refuse_no_place" "refuse_no_place" GH ["web", "place"]
 d_near:Dfn K mg "near" "near" Wl ["web", "place"]
 d_takes_of:Dfn K mg "takes_of" "takes_of" Mb ["web"]
 d_bits_of:Dfn K mg "bits_of" "bits_of" OG ["some"]
 d_members:Dfn K mg "members" "members" OE ["bits"]
 d_settle:Dfn K mg "settle" "settle" QY ["takes", "bits", "holders", "guard", "seen"]
 d_fits:Dfn K mg "fits" "fits" Wm ["takes", "guards", "bits"]
 d_with_step:Dfn K mg "with_step" "with_step" LA ["standing", "guard", "place"]
 d_sets_of:Dfn K mg "sets_of" "sets_of" OD ["places", "size"]
 d_ways_to_choose:Dfn K mg "ways_to_choose" "ways_to_choose" G4 ["places", "size"]
 d_how_many:Dfn K mg "how_many" "how_many" Mc ["web", "guards"]
 d_standings:Dfn K mg "standings" "standings" LB ["web", "guards"]
 d_Field_linked_by_one:Mtd K "linked_by_one" "Field.linked_by_one" Ed ["self", "number"]
 d_Field_linked_by_all:Mtd K "linked_by_all" "Field.linked_by_all" Ee ["self", "number"]
 d_Field_init:Mtd K "__init__" "Field.__init__" J9 ["self", "web", "guards", "kind"]
 d_Field_calls:Mtd K "calls" "Field.calls" JO ["self", "number"]
 d_Field_linked:Mtd K "linked" "Field.linked" IM ["self", "number"]
 d_Field_behind:Mtd K "behind" "Field.behind" IN ["self", "number", "call"]
 d_falling_now:Dfn K mg "falling_now" "falling_now" JN ["field", "left"]
 d_fallen:Dfn K mg "fallen" "fallen" Qa ["field"]
 d_lasting_bits:Dfn K mg "lasting_bits" "lasting_bits" IJ ["field", "gone"]
 d_lasting:Dfn K mg "lasting" "lasting" OF ["web", "guards", "kind"]
 d_refuse_many_places:Dfn K mg "refuse_many_places" "refuse_many_places" Ey ["web"]
 d_least_guards:Dfn K mg "least_guards" "least_guards" II ["web", "kind"]
 d_fewest:Dfn K mg "fewest" "fewest" QZ ["web", "kind"]
 d__law_cell_at:Dfn K mg "_law_cell_at" "_law_cell_at" IL ["script", "k"]
 d__law_whole:Dfn K mg "_law_whole" "_law_whole" J8 ["found"]
 d__law_ties:Dfn K mg "_law_ties" "_law_ties" LC ["make", "places"]
 d__law_due:Dfn K mg "_law_due" "_law_due" Md ["make", "places", "kind"]
 d_law:Dfn K mg "law" "law" Xs ["script"]
 c_Web:Own K mg "Web" W.Web d_Web_init.f
 n_Web_places:Eh K W.Web "places"
 n_Web_ties:Eh K W.Web "ties"
 n_Web_near_sets:Eh K W.Web "near_sets"
 c_Field:Own K mg "Field" W.Field d_Field_init.f
 n_Field_everything:Eh K W.Field "everything"
 n_Field_kind:Eh K W.Field "kind"
 n_Field_takes:Eh K W.Field "takes"
 n_Field_numbers:Eh K W.Field "numbers"
 n_Field_having:Eh K W.Field "having"
 n_Field_place_bits:Eh K W.Field "place_bits"
 n_Field_known:Eh K W.Field "known"
 m_Field_linked_by_one:UN K W.Field "linked_by_one" d_Field_linked_by_one.f
 m_Field_linked_by_all:UN K W.Field "linked_by_all" d_Field_linked_by_all.f
 m_Field_calls:UN K W.Field "calls" d_Field_calls.f
 m_Field_linked:UN K W.Field "linked" d_Field_linked.f
 m_Field_behind:UN K W.Field "behind" d_Field_behind.f
 b_bool:mg "bool" = none
 b_enumerate:mg "enumerate" = none
 b_int:mg "int" = none
 b_isinstance:mg "isinstance" = none
 b_len:mg "len" = none
 b_max:mg "max" = none
 b_min:mg "min" = none
 b_range:mg "range" = none
 b_sorted:mg "sorted" = none
 b_sum:mg "sum" = none
 b_tuple:mg "tuple" = none
 g_MOST_PLACES:∃tk,mg "MOST_PLACES" = some (.int 60 tk)
 g_MOST_STANDINGS:∃tk,mg "MOST_STANDINGS" = some (.int 400 tk)
 g_MOST_PLACES_GUARDED:∃tk,mg "MOST_PLACES_GUARDED" = some (.int 8 tk)
section
variable{P:Ba}{w:Bx}{K:AF}{mg:Str->Option AH}{base:Cu}{W:Wd}
theorem PF:Bb ["places", "ties", "found", "one", "other", "tie"] ["places", "ties"] (Az IK):=FM
theorem PR(T:Txt K mg W):Cq P w K mg base (CXG P w) 1 T.d_checked_ties.f T.d_checked_ties.fd ["places", "ties"] (spM K 2 (Gb W)):=by
 refine BZ (k:=0) T.d_checked_ties.F PF rfl λ_ _ _ _ _ _ hr hu nd=>?_
 exact(AW (DK 2 nd Vi)
  (AW (D1 (good_none rfl).own rfl (ET (AA (pv 1))) (Q5 rfl (Fb (CY 3 nd) (Fb (CY 4 nd) Nh)))
  (AW (DK 5 nd (JR (AN (YG rfl rfl T.b_min (AN (AA (pv 3)) (AN (AA (pv 4)) Au))) (AN (T9 rfl rfl T.b_max (AN (AA (pv 3)) (AN (AA (pv 4)) Au))) Au))))
  (AW (D5 (DV (Fs hu) (EN hu (AA (pv 5)) ge_int) (EN hu (AA (pv 5)) ge_int) (Cz _)) (Ac HU) CG)
  (AW (D5 (W5 (io (DV X0 (EN hu (AA (pv 5)) ge_int) ge_int (Cz _)) (cO (DV oI (EN hu (AA (pv 5)) ge_int) (AA (pv 0)) (Cz _))))) (Ac HU) CG)
  (AW (D5 (ou hu (AA (pv 5)) (AA (pv 2))) (Ac HU) CG)
  (Ac (Hr (At (CS (by decide:1<=64) _) hu) (AA (pv 2)) (AA (pv 5)) RB rfl)))))))
  (Ac (Br (Jp rfl T.b_tuple (L1 rfl rfl T.b_sorted (AA (pv 2))))))))
theorem O9:Bb ["places", "ties", "rows", "one", "other"] ["places", "ties"] (Az IH):=FM
theorem PN(T:Txt K mg W):Cq P w K mg base (CXG P w) 1 T.d_near_sets_of.f T.d_near_sets_of.fd ["places", "ties"] (spM K 2 (Ga W)):=by
 refine BZ (k:=0) T.d_near_sets_of.F O9 rfl λ_ _ _ _ _ _ hr hu nd=>?_
 exact(AW (Pz (i:=2) (own:=["place"]) (N':=["place", "·1", "·2", "·3", "·4", "·5"]) rfl rfl nd rfl (by first | exact Of rfl | exact M2 rfl) (D9 (by kernel_rfl)) (Du rfl T.b_range (AN (AA (pv 0)) Au)) (λ_ _ _ _ _ _=>(CY 0 (by decide +kernel:(["place", "·1", "·2", "·3", "·4", "·5"]:List Str).Nodup))) (λ_ _ _ _ _ _=>EU) (λ_ _ _ _ _ _=>(D2 (KQ Au))))
  (AW (D1 (good_none rfl).own rfl (ET (AA (pv 1))) (Q5 rfl (Fb (CY 3 nd) (Fb (CY 4 nd) Nh)))
  (AW (JD (L3 (EN hu (AA (pv 2)) (AA (pv 3))) (AA (pv 4))))
  (Ac (JD (L3 (EN hu (AA (pv 2)) (AA (pv 4))) (AA (pv 3)))))))
  (Ac (Br (Jp rfl T.b_tuple (D2 (Fh (own:=["row"]) (N':=["row", "·1", "·2", "·3", "·4", "·5"]) rfl (D9 (by kernel_rfl)) (ET (AA (pv 2))) (λ_ _ _ _ _ _=>(CY 0 (by decide +kernel:(["row", "·1", "·2", "·3", "·4", "·5"]:List Str).Nodup))) (λ_ _ _ _ _ _=>EU) (λ_ _ _ _ _ _=>(Jp rfl T.b_tuple (L1 rfl rfl T.b_sorted (AA (pv 0))))))))))))
theorem Uz:Bb ["self", "places", "ties"] ["self", "places", "ties"] (Az Me):=FM
theorem VQ(T:Txt K mg W):Cq P w K mg base (CXG P w) 2 T.d_Web_init.f T.d_Web_init.fd ["self", "places", "ties"] (spM K 3 (KU W)):=by
 refine BZ (k:=1) T.d_Web_init.F Uz rfl λ_ _ _ _ _ _ hr hu nd=>?_
 exact(AW (D5 (Q3 (Q4 VR VR ge_int (AA (pv 1)) (Q9 rfl T.g_MOST_PLACES.choose_spec))) (Ac HU) CG)
  (AW (JQ T.c_Web.cl T.n_Web_places (AA (pv 0)) (AA (pv 1)) rfl)
  (AW (JQ T.c_Web.cl T.n_Web_ties (AA (pv 0)) (gcl T.d_checked_ties (PR T) hr (AN (AA (pv 1)) (AN (AA (pv 2)) Au))) rfl)
  (Ac (JQ T.c_Web.cl T.n_Web_near_sets (AA (pv 0)) (gcl T.d_near_sets_of (PN T) hr (AN (AA (pv 1)) (AN (Cc T.c_Web.cl T.n_Web_ties (AA (pv 0)) rfl) Au))) rfl)))))
theorem Ma:Bb ["web", "place"] ["web", "place"] (Az GH):=FM
theorem Mi(T:Txt K mg W):Cq P w K mg base (CXG P w) 1 T.d_refuse_no_place.f T.d_refuse_no_place.fd ["web", "place"] (spM K 2 (GZ W)):=by
 refine BZ (k:=0) T.d_refuse_no_place.F Ma rfl λ_ _ _ _ _ _ hr hu nd=>?_
 exact(Ac (D5 (Q3 (Q4 VR X0 ge_int (AA (pv 1)) (Cc T.c_Web.cl T.n_Web_places (AA (pv 0)) rfl))) (Ac HU) CG))
theorem et:Bb ["web", "place"] ["web", "place"] (Az Wl):=FM
theorem ft(T:Txt K mg W):Cq P w K mg base (CXG P w) 2 T.d_near.f T.d_near.fd ["web", "place"] (spM K 2 (XC W)):=by
 refine BZ (k:=1) T.d_near.F et rfl λ_ _ _ _ _ _ hr hu nd=>?_
 exact(AW (JD (gcl T.d_refuse_no_place (Mi T) hr (AN (AA (pv 0)) (AN (AA (pv 1)) Au))))
  (Ac (Br (EN hu (Cc T.c_Web.cl T.n_Web_near_sets (AA (pv 0)) rfl) (AA (pv 1))))))
theorem Uw:Bb ["web"] ["web"] (Az Mb):=FM
theorem VM(T:Txt K mg W):Cq P w K mg base (CXG P w) 3 T.d_takes_of.f T.d_takes_of.fd ["web"] (spM K 1 (KR W)):=by
 refine BZ (k:=2) T.d_takes_of.F Uw rfl λ_ _ _ _ _ _ hr hu nd=>?_
 exact(Ac (Br (D2 (Fh (own:=["place"]) (N':=["place", "web"]) rfl (D9 (by kernel_rfl)) (Du rfl T.b_range (AN (Cc T.c_Web.cl T.n_Web_places (AA (pv 0)) rfl) Au)) (λ_ _ _ _ _ _=>(CY 0 (by decide +kernel:(["place", "web"]:List Str).Nodup))) (λ_ _ _ _ _ _=>EU) (λ_ _ _ _ _ _=>(Jp rfl T.b_tuple (L1 rfl rfl T.b_sorted (BY G7 (JR (AN (AA (pv 0)) Au)) (gcl T.d_near (ft T) hr (AN (AA (pv 1)) (AN (AA (pv 0)) Au)))))))))))
theorem Wj:Bb ["some", "bits", "place"] ["some"] (Az OG):=FM
theorem Ws(T:Txt K mg W):Cq P w K mg base (CXG P w) 1 T.d_bits_of.f T.d_bits_of.fd ["some"] (spM K 1 (OX W)):=by
 refine BZ (k:=0) T.d_bits_of.F Wj rfl λ_ _ _ _ _ _ hr hu nd=>?_
 exact(AW (DK 1 nd ge_int)
  (AW (D1 (good_none rfl).own rfl (ET (AA (pv 0))) (CY 2 nd)
  (Ac (SW 1 nd YC (BY Mj ge_int (AA (pv 2))))))
  (Ac (Br (AA (pv 1))))))
theorem Wh:Bb ["bits", "told", "left"] ["bits"] (Az OE):=FM
theorem Ql(T:Txt K mg W):Cq P w K mg base (CXG P w) 1 T.d_members.f T.d_members.fd ["bits"] (spM K 1 (L5 W)):=by
 refine BZ (k:=0) T.d_members.F Wh rfl λ_ _ _ _ _ _ hr hu nd=>?_
 exact(AW (DK 1 nd (D2 (KQ Au)))
  (AW (DK 2 nd (AA (pv 0)))
  (AW (Vh wN (good_none rfl).own (E5 (AA (pv 2))) (AW (JD (L3 (AA (pv 1)) (BY LL (gm (BY OM (AA (pv 2)) (cT (AA (pv 2))))) ge_int)))
  (Ac (SW 2 nd kx (BY LL (AA (pv 2)) ge_int)))))
  (Ac (Br (AA (pv 1)))))))
theorem Y1:Bb ["takes", "bits", "holders", "guard", "seen", "wanted", "place"] ["takes", "bits", "holders", "guard", "seen"] (Az QY):=FM
theorem SN(T:Txt K mg W):∀n:Nat,Cq P w K mg base (CXG P w) (0+n) T.d_settle.f T.d_settle.fd ["takes", "bits", "holders", "guard", "seen"] (spM K 5 (Fe W n))
 | 0=>lP
 | n+1=>by
  refine BZ (k:=0+n) T.d_settle.F Y1 rfl λ_ _ _ _ _ _ hr hu nd=>?_
  exact(AW (Pz (i:=5) (own:=["place"]) (N':=["place", "·1", "bits", "·3", "·4", "seen", "·6", "·7"]) rfl rfl nd rfl (by first | exact Of rfl | exact M2 rfl) (D9 (by kernel_rfl)) (ET (EN hu (AA (pv 0)) (AA (pv 3)))) (λ_ _ _ _ _ _=>(CY 0 (by decide +kernel:(["place", "·1", "bits", "·3", "·4", "seen", "·6", "·7"]:List Str).Nodup))) (λ_ _ _ _ _ _=>(Ng (W5 (Q2 (E5 (BY OM (BY Wt (AA (pv 2)) (AA (pv 0))) ge_int)) (Nf (IW hu (AA (pv 0)) (AA (pv 5)))))))) (λ_ _ _ _ _ _=>(AA (pv 0))))
  (AW (D1 (good_none rfl).own rfl (ET (AA (pv 5))) (CY 6 nd)
  (Ac (D5 (IW hu (AA (pv 6)) (AA (pv 2))) (AW (Hr (At (CS (by decide:1<=64) _) hu) (AA (pv 2)) (AA (pv 6)) (AA (pv 3)) rfl)
  (Ac (Br RB))) CG)))
  (AW (D1 (good_none rfl).own rfl (ET (AA (pv 5))) (CY 6 nd)
  (Ac (D5 (IW hu (AA (pv 6)) (AA (pv 4))) (AW (Hr (At (CS (by decide:1<=64) _) hu) (AA (pv 4)) (AA (pv 6)) RB rfl)
  (Ac (D5 (E5 (UB (SN T n) (good_none rfl).pass (hr.mono (AK _)) rfl T.d_settle.m T.d_settle.kp T.d_settle.b (AN (AA (pv 0)) (AN (AA (pv 1)) (AN (AA (pv 2)) (AN (EN hu (AA (pv 2)) (AA (pv 6))) (AN (AA (pv 4)) Au))))))) (AW (Hr (At (CS (by decide:1<=64) _) hu) (AA (pv 2)) (AA (pv 6)) (AA (pv 3)) rfl)
  (Ac (Br RB))) CG))) CG)))
  (Ac (Br RB)))))
theorem eu:Bb ["takes", "guards", "bits", "holders", "guard"] ["takes", "guards", "bits"] (Az Wm):=FM
theorem fv(T:Txt K mg W):Cq P w K mg base (CXG P w) 11 T.d_fits.f T.d_fits.fd ["takes", "guards", "bits"] (spM K 3 (UC W)):=by
 refine BZ (k:=10) T.d_fits.F eu rfl λ_ _ _ _ _ _ hr hu nd=>?_
 exact(AW (DK 3 nd LU)
  (AW (D1 (good_none rfl).own rfl (ET (AA (pv 1))) (CY 4 nd)
  (Ac (D5 (E5 (BY OM (BY Wt (AA (pv 2)) (AA (pv 4))) ge_int)) (Ac (Hr (At (CS (by decide:1<=64) _) hu) (AA (pv 3)) (AA (pv 4)) (AA (pv 4)) rfl)) CG)))
  (AW (D1 (good_none rfl).own rfl (ET (AA (pv 1))) (CY 4 nd)
  (Ac (D5 (W5 (Q2 (Q3 (E5 (BY OM (BY Wt (AA (pv 2)) (AA (pv 4))) ge_int))) (Nf (Q3 (E5 (UB (SN T 9) (good_none rfl).pass (hr.mono (by decide)) rfl T.d_settle.m T.d_settle.kp T.d_settle.b (AN (AA (pv 0)) (AN (AA (pv 2)) (AN (AA (pv 3)) (AN (AA (pv 4)) (AN LU Au))))))))))) (Ac (Br RB)) CG)))
  (Ac (Br RB)))))
theorem TX:Bb ["standing", "guard", "place"] ["standing", "guard", "place"] (Az LA):=FM
theorem Tn(T:Txt K mg W):Cq P w K mg base (CXG P w) 1 T.d_with_step.f T.d_with_step.fd ["standing", "guard", "place"] (spM K 3 (LX W)):=by
 refine BZ (k:=0) T.d_with_step.F TX rfl λ_ _ _ _ _ _ hr hu nd=>?_
 exact(Ac (Br (Jp rfl T.b_tuple (D2 (Fh (own:=["other"]) (N':=["other", "·1", "guard", "place"]) rfl (D9 (by kernel_rfl)) (ET (AA (pv 0))) (λ_ _ _ _ _ _=>(CY 0 (by decide +kernel:(["other", "·1", "guard", "place"]:List Str).Nodup))) (λ_ _ _ _ _ _=>EU) (λ_ _ _ _ _ _=>(Q7 (DV (Fs hu) (AA (pv 0)) (AA (pv 2)) (Cz _)) (AA (pv 3)) (AA (pv 0)))))))))
theorem Wg:Bb ["places", "size", "told", "step", "longer", "some", "least", "place"] ["places", "size"] (Az OD):=FM
theorem Wq(T:Txt K mg W):Cq P w K mg base (CXG P w) 1 T.d_sets_of.f T.d_sets_of.fd ["places", "size"] (spM K 2 (OV W)):=by
 refine BZ (k:=0) T.d_sets_of.F Wg rfl λ_ _ _ _ _ _ hr hu nd=>?_
 exact(AW (DK 2 nd (D2 (KQ (AN (JR Au) Au))))
  (AW (D1 (good_none rfl).own rfl (Du rfl T.b_range (AN (AA (pv 1)) Au)) (CY 3 nd)
  (AW (DK 4 nd (D2 (KQ Au)))
  (AW (D1 (good_none rfl).own rfl (ET (AA (pv 2))) (CY 5 nd)
  (AW (DK 6 nd (Q7 (E5 (AA (pv 5))) (BY G7 (EN hu (AA (pv 5)) (cT ge_int)) ge_int) ge_int))
  (Ac (D1 (good_none rfl).own rfl (OS rfl T.b_range (AN (AA (pv 6)) (AN (BY G7 (BY G7 (BY LL (AA (pv 0)) (AA (pv 1))) (AA (pv 3))) ge_int) Au))) (CY 7 nd)
  (Ac (JD (L3 (AA (pv 4)) (BY G7 (AA (pv 5)) (JR (AN (AA (pv 7)) Au))))))))))
  (Ac (DK 2 nd (AA (pv 4)))))))
  (Ac (Br (AA (pv 2))))))
theorem NJ:Bb ["places", "size", "ways", "step"] ["places", "size"] (Az G4):=FM
theorem NS(T:Txt K mg W):Cq P w K mg base (CXG P w) 1 T.d_ways_to_choose.f T.d_ways_to_choose.fd ["places", "size"] (spM K 2 (G9 W)):=by
 refine BZ (k:=0) T.d_ways_to_choose.F NJ rfl λ_ _ _ _ _ _ hr hu nd=>?_
 exact(AW (DK 2 nd ge_int)
  (AW (D1 (good_none rfl).own rfl (Du rfl T.b_range (AN (AA (pv 1)) Au)) (CY 3 nd)
  (Ac (DK 2 nd (BY NT (BY ba (AA (pv 2)) (BY LL (AA (pv 0)) (AA (pv 3)))) (BY G7 (AA (pv 3)) ge_int)))))
  (Ac (Br (AA (pv 2))))))
theorem Ux:Bb ["web", "guards"] ["web", "guards"] (Az Mc):=FM
theorem VN(T:Txt K mg W):Cq P w K mg base (CXG P w) 2 T.d_how_many.f T.d_how_many.fd ["web", "guards"] (spM K 2 (Mn W)):=by
 refine BZ (k:=1) T.d_how_many.F Ux rfl λ_ _ _ _ _ _ hr hu nd=>?_
 exact(AW (D5 (Q3 (Q4 VR VR ge_int (AA (pv 1)) (Cc T.c_Web.cl T.n_Web_places (AA (pv 0)) rfl))) (Ac HU) CG)
  (Ac (Br (gcl T.d_ways_to_choose (NS T) hr (AN (Cc T.c_Web.cl T.n_Web_places (AA (pv 0)) rfl) (AN (AA (pv 1)) Au))))))
theorem TY:Bb ["web", "guards"] ["web", "guards"] (Az LB):=FM
theorem To(T:Txt K mg W):Cq P w K mg base (CXG P w) 3 T.d_standings.f T.d_standings.fd ["web", "guards"] (spM K 2 (JE W)):=by
 refine BZ (k:=2) T.d_standings.F TY rfl λ_ _ _ _ _ _ hr hu nd=>?_
 exact(AW (D5 (DV bb (gcl T.d_how_many (VN T) hr (AN (AA (pv 0)) (AN (AA (pv 1)) Au))) (Q9 rfl T.g_MOST_STANDINGS.choose_spec) (Cz _)) (Ac HU) CG)
  (Ac (Br (gcl T.d_sets_of (Wq T) hr (AN (Cc T.c_Web.cl T.n_Web_places (AA (pv 0)) rfl) (AN (AA (pv 1)) Au))))))
theorem J6:Bb ["self", "number", "standing", "told", "guard", "place"] ["self", "number"] (Az Ed):=FM
theorem KL(T:Txt K mg W):Cq P w K mg base (CXG P w) 2 T.d_Field_linked_by_one.f T.d_Field_linked_by_one.fd ["self", "number"] (spM K 2 (Cw W)):=by
 refine BZ (k:=1) T.d_Field_linked_by_one.F J6 rfl λ_ _ _ _ _ _ hr hu nd=>?_
 exact(AW (DK 2 nd (EN hu (Cc T.c_Field.cl T.n_Field_everything (AA (pv 0)) rfl) (AA (pv 1))))
  (AW (DK 3 nd ge_int)
  (AW (D1 (good_none rfl).own rfl (ET (AA (pv 2))) (CY 4 nd)
  (Ac (D1 (good_none rfl).own rfl (ET (EN hu (Cc T.c_Field.cl T.n_Field_takes (AA (pv 0)) rfl) (AA (pv 4)))) (CY 5 nd)
  (Ac (D5 (IW hu (AA (pv 5)) (AA (pv 2))) (Ac (SW 3 nd YC (BY Mj ge_int (EN hu (Cc T.c_Field.cl T.n_Field_numbers (AA (pv 0)) rfl) (Jp rfl T.b_tuple (L1 rfl rfl T.b_sorted (gcl T.d_with_step (Tn T) hr (AN (AA (pv 2)) (AN (AA (pv 4)) (AN (AA (pv 5)) Au)))))))))) CG)))))
  (Ac (Br (AA (pv 3)))))))
theorem J7:Bb ["self", "number", "standing", "told", "other", "bits"] ["self", "number"] (Az Ee):=FM
theorem KM(T:Txt K mg W):Cq P w K mg base (CXG P w) 12 T.d_Field_linked_by_all.f T.d_Field_linked_by_all.fd ["self", "number"] (spM K 2 (Cy W)):=by
 refine BZ (k:=11) T.d_Field_linked_by_all.F J7 rfl λ_ _ _ _ _ _ hr hu nd=>?_
 exact(AW (DK 2 nd (EN hu (Cc T.c_Field.cl T.n_Field_everything (AA (pv 0)) rfl) (AA (pv 1))))
  (AW (DK 3 nd ge_int)
  (AW (D1 (good_none rfl).own rfl (YF rfl T.b_enumerate (Cc T.c_Field.cl T.n_Field_place_bits (AA (pv 0)) rfl)) (Q5 rfl (Fb (CY 4 nd) (Fb (CY 5 nd) Nh)))
  (Ac (D5 (E5 (gcl T.d_fits (fv T) hr (AN (Cc T.c_Field.cl T.n_Field_takes (AA (pv 0)) rfl) (AN (AA (pv 2)) (AN (AA (pv 5)) Au))))) (Ac (SW 3 nd YC (BY Mj ge_int (AA (pv 4))))) CG)))
  (Ac (Br (AA (pv 3)))))))
theorem Rv:Bb ["self", "web", "guards", "kind", "number", "standing", "place"] ["self", "web", "guards", "kind"] (Az J9):=FM
theorem Qo(T:Txt K mg W):Cq P w K mg base (CXG P w) 13 T.d_Field_init.f T.d_Field_init.fd ["self", "web", "guards", "kind"] (spM K 4 (JW W)):=by
 refine BZ (k:=12) T.d_Field_init.F Rv rfl λ_ _ _ _ _ _ hr hu nd=>?_
 exact(AW (JQ T.c_Field.cl T.n_Field_everything (AA (pv 0)) (gcl T.d_standings (To T) hr (AN (AA (pv 1)) (AN (AA (pv 2)) Au))) rfl)
  (AW (JQ T.c_Field.cl T.n_Field_kind (AA (pv 0)) (AA (pv 3)) rfl)
  (AW (JQ T.c_Field.cl T.n_Field_takes (AA (pv 0)) (gcl T.d_takes_of (VM T) hr (AN (AA (pv 1)) Au)) rfl)
  (AW (JQ T.c_Field.cl T.n_Field_numbers (AA (pv 0)) Vi rfl)
  (AW (JQ T.c_Field.cl T.n_Field_having (AA (pv 0)) (D2 (Fh (own:=["place"]) (N':=["place", "·1", "·2", "·3", "·4", "·5", "·6", "·7"]) rfl (D9 (by kernel_rfl)) (Du rfl T.b_range (AN (Cc T.c_Web.cl T.n_Web_places (AA (pv 1)) rfl) Au)) (λ_ _ _ _ _ _=>(CY 0 (by decide +kernel:(["place", "·1", "·2", "·3", "·4", "·5", "·6", "·7"]:List Str).Nodup))) (λ_ _ _ _ _ _=>EU) (λ_ _ _ _ _ _=>ge_int))) rfl)
  (AW (D1 (good_none rfl).own rfl (YF rfl T.b_enumerate (Cc T.c_Field.cl T.n_Field_everything (AA (pv 0)) rfl)) (Q5 rfl (Fb (CY 4 nd) (Fb (CY 5 nd) Nh)))
  (AW (Hr (At (CS (by decide:1<=64) _) hu) (Cc T.c_Field.cl T.n_Field_numbers (AA (pv 0)) rfl) (AA (pv 5)) (AA (pv 4)) rfl)
  (Ac (D1 (good_none rfl).own rfl (ET (AA (pv 5))) (CY 6 nd)
  (Ac (gd (Cc T.c_Field.cl T.n_Field_having (AA (pv 0)) rfl) (AA (pv 6)) (BY Mj ge_int (AA (pv 4))) YC))))))
  (AW (JQ T.c_Field.cl T.n_Field_place_bits (AA (pv 0)) (D2 (Fh (own:=["standing"]) (N':=["standing", "·1", "·2", "·3", "·4", "·5", "·6", "·7"]) rfl (D9 (by kernel_rfl)) (ET (Cc T.c_Field.cl T.n_Field_everything (AA (pv 0)) rfl)) (λ_ _ _ _ _ _=>(CY 0 (by decide +kernel:(["standing", "·1", "·2", "·3", "·4", "·5", "·6", "·7"]:List Str).Nodup))) (λ_ _ _ _ _ _=>EU) (λ_ _ _ _ _ _=>(gcl T.d_bits_of (Ws T) hr (AN (AA (pv 0)) Au))))) rfl)
  (Ac (JQ T.c_Field.cl T.n_Field_known (AA (pv 0)) LU rfl)))))))))
theorem Ry(T:Txt K mg W):Cq P w K mg base (CXG P w) 13 T.d_Field_init.f T.d_Field_init.fd ["self", "web", "guards", "kind"] (spM K 4 (Ge W)):=gt (Qo T)
theorem QX:Bb ["self", "number", "standing"] ["self", "number"] (Az JO):=FM
theorem Qm(T:Txt K mg W):Cq P w K mg base (CXG P w) 1 T.d_Field_calls.f T.d_Field_calls.fd ["self", "number"] (spM K 2 (JV W)):=by
 refine BZ (k:=0) T.d_Field_calls.F QX rfl λ_ _ _ _ _ _ hr hu nd=>?_
 exact(AW (DK 2 nd (EN hu (Cc T.c_Field.cl T.n_Field_everything (AA (pv 0)) rfl) (AA (pv 1))))
  (Ac (Br (D2 (Fh (own:=["place"]) (N':=["place", "·1", "·2", "standing"]) rfl (D9 (by kernel_rfl)) (Du rfl T.b_range (AN (Q6 rfl T.b_len (Cc T.c_Field.cl T.n_Field_takes (AA (pv 0)) rfl)) Au)) (λ_ _ _ _ _ _=>(CY 0 (by decide +kernel:(["place", "·1", "·2", "standing"]:List Str).Nodup))) (λ_ _ _ _ _ _=>(Ng (IW hu (AA (pv 0)) (AA (pv 3))))) (λ_ _ _ _ _ _=>(AA (pv 0))))))))
theorem PJ:Bb ["self", "number"] ["self", "number"] (Az IM):=FM
theorem OJ(T:Txt K mg W):Cq P w K mg base (CXG P w) 13 T.d_Field_linked.f T.d_Field_linked.fd ["self", "number"] (spM K 2 (Hi W)):=by
 refine BZ (k:=12) T.d_Field_linked.F PJ rfl λ_ _ _ _ _ _ hr hu nd=>?_
 exact(AW (D5 (IW hu (AA (pv 1)) (Cc T.c_Field.cl T.n_Field_known (AA (pv 0)) rfl)) (Ac (Hr (At (CS (by decide:1<=64) _) hu) (Cc T.c_Field.cl T.n_Field_known (AA (pv 0)) rfl) (AA (pv 1)) (Q7 (DV (Fs hu) (Cc T.c_Field.cl T.n_Field_kind (AA (pv 0)) rfl) OT (Cz _)) (Nj (AA (pv 0)) T.c_Field.cl T.m_Field_linked_by_one (KL T) (good_none rfl).pass (hr.mono (by decide)) T.d_Field_linked_by_one.b (AN (AA (pv 1)) Au)) (Nj (AA (pv 0)) T.c_Field.cl T.m_Field_linked_by_all (KM T) (good_none rfl).pass (hr.mono (by decide)) T.d_Field_linked_by_all.b (AN (AA (pv 1)) Au))) rfl)) CG)
  (Ac (Br (EN hu (Cc T.c_Field.cl T.n_Field_known (AA (pv 0)) rfl) (AA (pv 1))))))
theorem PU(T:Txt K mg W):Cq P w K mg base (CXG P w) 13 T.d_Field_linked.f T.d_Field_linked.fd ["self", "number"] (spM K 2 (Gc W)):=lQ (OJ T)
theorem PK:Bb ["self", "number", "call"] ["self", "number", "call"] (Az IN):=FM
theorem PV(T:Txt K mg W):Cq P w K mg base (CXG P w) 14 T.d_Field_behind.f T.d_Field_behind.fd ["self", "number", "call"] (spM K 3 (Ia W)):=by
 refine BZ (k:=13) T.d_Field_behind.F PK rfl λ_ _ _ _ _ _ hr hu nd=>?_
 exact(Ac (Br (BY OM (Nj (AA (pv 0)) T.c_Field.cl T.m_Field_linked (PU T) (good_none rfl).pass (hr.mono (by decide)) T.d_Field_linked.b (AN (AA (pv 1)) Au)) (EN hu (Cc T.c_Field.cl T.n_Field_having (AA (pv 0)) rfl) (AA (pv 2))))))
theorem QW:Bb ["field", "left", "told", "number", "lost"] ["field", "left"] (Az JN):=FM
theorem LK(T:Txt K mg W):Cq P w K mg base (CXG P w) 15 T.d_falling_now.f T.d_falling_now.fd ["field", "left"] (spM K 2 (HK W)):=by
 refine BZ (k:=14) T.d_falling_now.F QW rfl λ_ _ _ _ _ _ hr hu nd=>?_
 exact(AW (DK 2 nd LU)
  (AW (D1 (good_none rfl).own rfl (ET (gcl T.d_members (Ql T) hr (AN (AA (pv 1)) Au))) (CY 3 nd)
  (AW (Pz (i:=4) (own:=["call"]) (N':=["call", "field", "left", "·3", "number", "·5"]) rfl rfl nd rfl (by first | exact Of rfl | exact M2 rfl) (D9 (by kernel_rfl)) (ET (Nj (AA (pv 0)) T.c_Field.cl T.m_Field_calls (Qm T) (good_none rfl).pass (hr.mono (by decide)) T.d_Field_calls.b (AN (AA (pv 3)) Au))) (λ_ _ _ _ _ _=>(CY 0 (by decide +kernel:(["call", "field", "left", "·3", "number", "·5"]:List Str).Nodup))) (λ_ _ _ _ _ _=>(Ng (DV (Fs hu) (BY OM (Nj (AA (pv 1)) T.c_Field.cl T.m_Field_behind (PV T) (good_none rfl).pass (hr.mono (by decide)) T.d_Field_behind.b (AN (AA (pv 4)) (AN (AA (pv 0)) Au))) (AA (pv 2))) ge_int (Cz _)))) (λ_ _ _ _ _ _=>(AA (pv 0))))
  (Ac (D5 (E5 (AA (pv 4))) (Ac (Hr (At (CS (by decide:1<=64) _) hu) (AA (pv 2)) (AA (pv 3)) (EN hu (AA (pv 4)) ge_int) rfl)) CG))))
  (Ac (Br (AA (pv 2))))))
theorem Y3:Bb ["field", "told", "left", "stage", "falling", "number"] ["field"] (Az Qa):=FM
theorem ZJ(T:Txt K mg W):Cq P w K mg base (CXG P w) 16 T.d_fallen.f T.d_fallen.fd ["field"] (spM K 1 (RF W)):=by
 refine BZ (k:=15) T.d_fallen.F Y3 rfl λ_ _ _ _ _ _ hr hu nd=>?_
 exact(AW (DK 1 nd LU)
  (AW (DK 2 nd (BY LL (BY Mj ge_int (Q6 rfl T.b_len (Cc T.c_Field.cl T.n_Field_everything (AA (pv 0)) rfl))) ge_int))
  (AW (DK 3 nd ge_int)
  (AW (DK 4 nd (gcl T.d_falling_now (LK T) hr (AN (AA (pv 0)) (AN (AA (pv 2)) Au))))
  (AW (Vh wN (good_none rfl).own (E5 (AA (pv 4))) (AW (ox (i:=4) (D1 (good_none rfl).own rfl (gg (AA (pv 4))) (CY 5 nd)
  (AW (Hr (At (CS (by decide:1<=64) _) hu) (AA (pv 1)) (AA (pv 5)) (JR (AN (AA (pv 3)) (AN (EN hu (AA (pv 4)) (AA (pv 5))) Au))) rfl)
  (Ac (SW 2 nd ku (BY Mj ge_int (AA (pv 5))))))))
  (AW (SW 3 nd kz ge_int)
  (Ac (DK 4 nd (gcl T.d_falling_now (LK T) hr (AN (AA (pv 0)) (AN (AA (pv 2)) Au))))))))
  (Ac (Br (AA (pv 1)))))))))
theorem PD:Bb ["field", "gone"] ["field", "gone"] (Az IJ):=FM
theorem PQ(T:Txt K mg W):Cq P w K mg base (CXG P w) 1 T.d_lasting_bits.f T.d_lasting_bits.fd ["field", "gone"] (spM K 2 (IZ W)):=by
 refine BZ (k:=0) T.d_lasting_bits.F PD rfl λ_ _ _ _ _ _ hr hu nd=>?_
 exact(Ac (Br (lJ rfl rfl T.b_sum (D2 (Fh (own:=["number"]) (N':=["number", "·1", "gone"]) rfl (D9 (by kernel_rfl)) (Du rfl T.b_range (AN (Q6 rfl T.b_len (Cc T.c_Field.cl T.n_Field_everything (AA (pv 0)) rfl)) Au)) (λ_ _ _ _ _ _=>(CY 0 (by decide +kernel:(["number", "·1", "gone"]:List Str).Nodup))) (λ_ _ _ _ _ _=>(Ng (IW hu (AA (pv 0)) (AA (pv 2))))) (λ_ _ _ _ _ _=>(BY Mj ge_int (AA (pv 0)))))))))
theorem Wi:Bb ["web", "guards", "kind", "field"] ["web", "guards", "kind"] (Az OF):=FM
theorem Wr(T:Txt K mg W):Cq P w K mg base (CXG P w) 17 T.d_lasting.f T.d_lasting.fd ["web", "guards", "kind"] (spM K 3 (OW W)):=by
 refine BZ (k:=16) T.d_lasting.F Wi rfl λ_ _ _ _ _ _ hr hu nd=>?_
 exact(AW (DK 3 nd (YH T.c_Field.mk' (Ry T) (good_none rfl).pass (hr.mono (by decide)) rfl T.c_Field.m T.d_Field_init.b (AN (AA (pv 0)) (AN (AA (pv 1)) (AN (AA (pv 2)) Au)))))
  (Ac (Br (D2 (Fh (own:=["number"]) (N':=["number", "·1", "·2", "·3", "field"]) rfl (D9 (by kernel_rfl)) (ET (gcl T.d_members (Ql T) hr (AN (gcl T.d_lasting_bits (PQ T) hr (AN (AA (pv 3)) (AN (gcl T.d_fallen (ZJ T) hr (AN (AA (pv 3)) Au)) Au))) Au))) (λ_ _ _ _ _ _=>(CY 0 (by decide +kernel:(["number", "·1", "·2", "·3", "field"]:List Str).Nodup))) (λ_ _ _ _ _ _=>EU) (λ_ _ _ _ _ _=>(EN hu (Cc T.c_Field.cl T.n_Field_everything (AA (pv 4)) rfl) (AA (pv 0)))))))))
theorem Kl:Bb ["web"] ["web"] (Az Ey):=FM
theorem Ko(T:Txt K mg W):Cq P w K mg base (CXG P w) 1 T.d_refuse_many_places.f T.d_refuse_many_places.fd ["web"] (spM K 1 (E6 W)):=by
 refine BZ (k:=0) T.d_refuse_many_places.F Kl rfl λ_ _ _ _ _ _ hr hu nd=>?_
 exact(Ac (D5 (DV bb (Cc T.c_Web.cl T.n_Web_places (AA (pv 0)) rfl) (Q9 rfl T.g_MOST_PLACES_GUARDED.choose_spec) (Cz _)) (Ac HU) CG))
theorem PB:Bb ["web", "kind", "guards"] ["web", "kind"] (Az II):=FM
theorem PP(T:Txt K mg W):Cq P w K mg base (CXG P w) 18 T.d_least_guards.f T.d_least_guards.fd ["web", "kind"] (spM K 2 (IY W)):=by
 refine BZ (k:=17) T.d_least_guards.F PB rfl λ_ _ _ _ _ _ hr hu nd=>?_
 exact(AW (D1 (good_none rfl).own rfl (OS rfl T.b_range (AN ge_int (AN (Cc T.c_Web.cl T.n_Web_places (AA (pv 0)) rfl) Au))) (CY 2 nd)
  (Ac (D5 (E5 (gcl T.d_lasting (Wr T) hr (AN (AA (pv 0)) (AN (AA (pv 2)) (AN (AA (pv 1)) Au))))) (Ac (Br (AA (pv 2)))) CG)))
  (Ac (Br (Cc T.c_Web.cl T.n_Web_places (AA (pv 0)) rfl))))
theorem Y2:Bb ["web", "kind"] ["web", "kind"] (Az QZ):=FM
theorem ZI(T:Txt K mg W):Cq P w K mg base (CXG P w) 19 T.d_fewest.f T.d_fewest.fd ["web", "kind"] (spM K 2 (RE W)):=by
 refine BZ (k:=18) T.d_fewest.F Y2 rfl λ_ _ _ _ _ _ hr hu nd=>?_
 exact(AW (JD (gcl T.d_refuse_many_places (Ko T) hr (AN (AA (pv 0)) Au)))
  (Ac (Br (gcl T.d_least_guards (PP T) hr (AN (AA (pv 0)) (AN (AA (pv 1)) Au))))))
theorem PH:Bb ["script", "k"] ["script", "k"] (Az IL):=FM
theorem Hg(T:Txt K mg W):Cq P w K mg base (CXG P w) 1 T.d__law_cell_at.f T.d__law_cell_at.fd ["script", "k"] (spM K 2 (E7 W)):=by
 refine BZ (k:=0) T.d__law_cell_at.F PH rfl λ_ _ _ _ _ _ hr hu nd=>?_
 exact(AW (D5 (DV X0 (AA (pv 1)) (Q6 rfl T.b_len (AA (pv 0))) (Cz _)) (Ac (Br (EN hu (AA (pv 0)) (AA (pv 1))))) CG)
  (Ac (Br ge_int)))
theorem Ru:Bb ["found"] ["found"] (Az J8):=FM
theorem Rx(T:Txt K mg W):Cq P w K mg base (CXG P w) 1 T.d__law_whole.f T.d__law_whole.fd ["found"] (spM K 1 (KS W)):=by
 refine BZ (k:=0) T.d__law_whole.F Ru rfl λ_ _ _ _ _ _ hr hu nd=>?_
 exact(Ac (Br (L2.W9 (cU (c:=.ty "int") (cv:=.type "int") (λ_ r=>r) gb rfl T.b_isinstance (AA (pv 0)) (Xx rfl T.b_int P6 rfl)) (W8 (lK (cU (c:=.ty "bool") (cv:=.type "bool") (λ_ r=>r) cH rfl T.b_isinstance (AA (pv 0)) (Xx rfl T.b_bool pp rfl)))))))
theorem TZ:Bb ["make", "places", "ties", "other"] ["make", "places"] (Az LC):=FM
theorem Tp(T:Txt K mg W):Cq P w K mg base (CXG P w) 1 T.d__law_ties.f T.d__law_ties.fd ["make", "places"] (spM K 2 (LY W)):=by
 refine BZ (k:=0) T.d__law_ties.F TZ rfl λ_ _ _ _ _ _ hr hu nd=>?_
 exact(AW (D5 (DV (Fs hu) (AA (pv 0)) ge_int (Cz _)) (Ac (Br (D2 (Fh (own:=["k"]) (N':=["k", "·1", "·2", "·3", "·4"]) rfl (D9 (by kernel_rfl)) (Du rfl T.b_range (AN (BY LL (AA (pv 1)) ge_int) Au)) (λ_ _ _ _ _ _=>(CY 0 (by decide +kernel:(["k", "·1", "·2", "·3", "·4"]:List Str).Nodup))) (λ_ _ _ _ _ _=>EU) (λ_ _ _ _ _ _=>(JR (AN (AA (pv 0)) (AN (BY G7 (AA (pv 0)) ge_int) Au)))))))) CG)
  (AW (D5 (DV (Fs hu) (AA (pv 0)) ge_int (Cz _)) (Ac (Br (D2 (Fh (own:=["k"]) (N':=["k", "·1", "places", "·3", "·4"]) rfl (D9 (by kernel_rfl)) (Du rfl T.b_range (AN (AA (pv 1)) Au)) (λ_ _ _ _ _ _=>(CY 0 (by decide +kernel:(["k", "·1", "places", "·3", "·4"]:List Str).Nodup))) (λ_ _ _ _ _ _=>EU) (λ_ _ _ _ _ _=>(JR (AN (AA (pv 0)) (AN (BY OK (BY G7 (AA (pv 0)) ge_int) (AA (pv 2))) Au)))))))) CG)
  (AW (D5 (DV (Fs hu) (AA (pv 0)) ge_int (Cz _)) (Ac (Br (D2 (Fh (own:=["k"]) (N':=["k", "·1", "·2", "·3", "·4"]) rfl (D9 (by kernel_rfl)) (OS rfl T.b_range (AN ge_int (AN (AA (pv 1)) Au))) (λ_ _ _ _ _ _=>(CY 0 (by decide +kernel:(["k", "·1", "·2", "·3", "·4"]:List Str).Nodup))) (λ_ _ _ _ _ _=>EU) (λ_ _ _ _ _ _=>(JR (AN ge_int (AN (AA (pv 0)) Au)))))))) CG)
  (AW (DK 2 nd (D2 (KQ Au)))
  (AW (D1 (good_none rfl).own rfl (Du rfl T.b_range (AN (AA (pv 1)) Au)) (CY 3 nd)
  (Ac (JD (Zb (AA (pv 2)) (D2 (Fh (own:=["one"]) (N':=["one", "·1", "·2", "·3", "other"]) rfl (D9 (by kernel_rfl)) (Du rfl T.b_range (AN (AA (pv 3)) Au)) (λ_ _ _ _ _ _=>(CY 0 (by decide +kernel:(["one", "·1", "·2", "·3", "other"]:List Str).Nodup))) (λ_ _ _ _ _ _=>EU) (λ_ _ _ _ _ _=>(JR (AN (AA (pv 0)) (AN (AA (pv 4)) Au))))))))))
  (Ac (Br (cS (AA (pv 2)) gf (ge (BY ba (Q6 rfl T.b_len (AA (pv 2))) (UA rfl T.b_int (RA (Fs hu) (AA (pv 0)) ge_int (Cz _)))))))))))))
theorem Uy:Bb ["make", "places", "kind", "half"] ["make", "places", "kind"] (Az Md):=FM
theorem VP(T:Txt K mg W):Cq P w K mg base (CXG P w) 1 T.d__law_due.f T.d__law_due.fd ["make", "places", "kind"] (spM K 3 (Mo W)):=by
 refine BZ (k:=0) T.d__law_due.F Uy rfl λ_ _ _ _ _ _ hr hu nd=>?_
 exact(AW (DK 3 nd (BY NT (BY G7 (AA (pv 1)) ge_int) ge_int))
  (AW (D5 (DV (Fs hu) (AA (pv 0)) ge_int (Cz _)) (Ac (Br (AA (pv 3)))) CG)
  (AW (D5 (DV (Fs hu) (AA (pv 0)) ge_int (Cz _)) (Ac (Br (EN hu (D2 (KQ (AN (BY NT (BY G7 (AA (pv 1)) ge_int) ge_int) (AN (AA (pv 3)) Au)))) (UA rfl T.b_int (L2.W9 (RA (Fs hu) (AA (pv 2)) OT (Cz _)) (W8 (RA bb (AA (pv 1)) ge_int (Cz _)))))))) CG)
  (AW (D5 (DV (Fs hu) (AA (pv 0)) ge_int (Cz _)) (Ac (Br (EN hu (D2 (KQ (AN (YG rfl rfl T.b_min (AN ge_int (AN (T9 rfl rfl T.b_max (AN ge_int (AN (BY LL (AA (pv 1)) ge_int) Au))) Au))) (AN (T9 rfl rfl T.b_max (AN ge_int (AN (BY LL (AA (pv 1)) ge_int) Au))) Au)))) (UA rfl T.b_int (RA (Fs hu) (AA (pv 2)) OT (Cz _)))))) CG)
  (AW (D5 (DV (Fs hu) (AA (pv 0)) ge_int (Cz _)) (Ac (Br ge_int)) CG)
  (Ac (Br (AA (pv 1)))))))))
theorem jm:Bb ["script", "head", "places", "make", "kind", "called", "place", "pairs", "found"] ["script"] (Az Xs):=FM
theorem kY(T:Txt K mg W):Cq P w K mg base (CXG P w) 20 T.d_law.f T.d_law.fd ["script"] (spM K 1 (YK W)):=by
 refine BZ (k:=19) T.d_law.F jm rfl λ_ _ _ _ _ _ hr hu nd=>?_
 exact(AW (DK 1 nd (gcl T.d__law_cell_at (Hg T) hr (AN (AA (pv 0)) (AN ge_int Au))))
  (AW (DK 2 nd (BY G7 ge_int (BY OK (BY NT (AA (pv 1)) ge_int) ge_int)))
  (AW (DK 3 nd (BY OK (AA (pv 1)) ge_int))
  (AW (D5 (W5 (Q2 (DV (Fs hu) (AA (pv 3)) ge_int (Cz _)) (Nf (DV X0 (AA (pv 2)) ge_int (Cz _))))) (Ac (DK 3 nd ge_int)) CG)
  (AW (DK 4 nd (EN hu (D2 (KQ (AN OT (AN OT Au)))) (BY OK (BY NT (AA (pv 1)) ge_int) ge_int)))
  (AW (D5 (W5 (Q2 (DV (Fs hu) (BY OK (gcl T.d__law_cell_at (Hg T) hr (AN (AA (pv 0)) (AN ge_int Au))) ge_int) ge_int (Cz _)) (Nf (W5 (io (DV (Fs hu) (AA (pv 3)) ge_int (Cz _)) (cO (W5 (Q2 (DV (Fs hu) (AA (pv 3)) ge_int (Cz _)) (Nf (DV (Fs hu) (AA (pv 4)) OT (Cz _))))))))))) (Ac (DK 2 nd ge_int)) CG)
  (AW (DK 5 nd (D2 (KQ Au)))
  (AW (D1 (good_none rfl).own rfl (Du rfl T.b_range (AN (AA (pv 2)) Au)) (CY 6 nd)
  (Ac (JD (lL (AA (pv 5)) (BY OK (gcl T.d__law_cell_at (Hg T) hr (AN (AA (pv 0)) (AN (BY G7 ge_int (AA (pv 6))) Au))) (BY G7 (AA (pv 6)) ge_int)) (AA (pv 6))))))
  (AW (Pz (i:=7) (own:=["one", "other"]) (N':=["one", "other", "·2", "·3", "·4", "·5", "·6", "called", "·8", "·9", "·10"]) rfl rfl nd rfl (by first | exact Of rfl | exact M2 rfl) (D9 (by kernel_rfl)) (ET (gcl T.d__law_ties (Tp T) hr (AN (AA (pv 3)) (AN (AA (pv 2)) Au)))) (λ_ _ _ _ _ _=>(Q5 rfl (Fb (CY 0 (by decide +kernel:(["one", "other", "·2", "·3", "·4", "·5", "·6", "called", "·8", "·9", "·10"]:List Str).Nodup)) (Fb (CY 1 (by decide +kernel:(["one", "other", "·2", "·3", "·4", "·5", "·6", "called", "·8", "·9", "·10"]:List Str).Nodup)) Nh)))) (λ_ _ _ _ _ _=>EU) (λ_ _ _ _ _ _=>(JR (AN (EN hu (AA (pv 7)) (AA (pv 0))) (AN (EN hu (AA (pv 7)) (AA (pv 1))) Au)))))
  (AW (DK 8 nd (gcl T.d_fewest (ZI T) hr (AN (YH T.c_Web.mk' (VQ T) (good_none rfl).pass (hr.mono (by decide)) rfl T.c_Web.m T.d_Web_init.b (AN (AA (pv 2)) (AN (AA (pv 7)) Au))) (AN (AA (pv 4)) Au))))
  (Ac (Br (L2.W9 (gcl T.d__law_whole (Rx T) hr (AN (AA (pv 8)) Au)) (W8 (RA (Fs hu) (AA (pv 8)) (gcl T.d__law_due (VP T) hr (AN (AA (pv 3)) (AN (AA (pv 2)) (AN (AA (pv 4)) Au)))) (Cz _))))))))))))))))
end
open PySem L2
open Srt (ltL)
def pairD(x:Int×Int):D:=.tup [.int x.1,.int x.2]
def nrm(x:Int×Int):Int×Int:=(if x.2 < x.1 then x.2 else x.1,if x.2 > x.1 then x.2 else x.1)
def Tb(x:Int×Int):List Int:=[x.1,x.2]
def Nc(x:Int×Int):List Key:=[.inl x.1,.inl x.2]
theorem Vf(h:Nc x=Nc y):x=y:=by
 unfold Nc at h;simp at h;exact Xa h.1 h.2
theorem Mm:∀ns:List Int,JC (ns.map D.int)=some ns
 | []=>rfl
 | n :: ns=>by
  rw[A9];unfold JC;rw[Mm ns];rfl
theorem Qd:∀rs:List (List Int),(∀r∈rs,r≠[])->SK (rs.map PM)=some rs
 | [],_=>rfl
 | [] :: rs,h=>zX rfl (h [] AO)
 | (n :: ns) :: rs,h=>by
  rw[A9];unfold PM SK;rw[Mm,show Xd (λr:List Int=>D.tup (r.map D.int)) rs=rs.map PM from rfl,Qd rs λr hr=>h r (AJ _ hr)]
theorem Wa(rs:List (List Int))(h:∀r∈rs,r≠[])(hn:rs.length < 64):Ki (rs.map PM)=some ((NG rs).map PM):=by
 unfold Ki;rw[qX (by rw[AC];exact hn)]
 cases rs with
 | nil=>simp[JC,NG]
 | cons r rs=>
  have:JC ((r :: rs).map PM)=none:=rfl;rw[this,Qd _ h]
theorem Wc(ns:List Int)(hn:ns.length < 64):Ki (ns.map D.int)=some ((Bt ns).map D.int):=by
 unfold Ki;rw[qX (by rw[AC];exact hn)];rw[Mm]
def LN(ps:List (Int×Int)):List (List Key×D):=ps.map λx=>(Nc (nrm x),.bl true)
theorem bq(ps:List (Int×Int))(x:Int×Int):(Ag (LN ps) (Nc (nrm x))).isSome=decide (nrm x∈ps.map nrm):=by
 unfold Ag LN
 induction ps with
 | nil=>rfl
 | cons y ps ih=>
  rw[A9,B1]
  by_cases e:Nc (nrm y)=Nc (nrm x)
  ·rw[wX e]
   simp[Vf e]
  ·rw[wY e]
   have e':nrm x≠nrm y:=λz=>e (by rw[z])
   simp only[A9,AV,e',false_or];exact ih
theorem bp(ps:List (Int×Int))(x:Int×Int)(h:nrm x∉ps.map nrm):Bz (LN ps) (Nc (nrm x)) (.bl true)=LN (ps++[x]):=by
 unfold Bz;rw[qY]
 ·simp[LN]
 ·intro z
  obtain⟨y,hy,e⟩:=B9.mp z;obtain⟨a,ha,rfl⟩:=Al.mp hy;exact h (by rw[<-Vf (of_decide_eq_true e)];exact Ct ha)
theorem oh(h:S[n]?=some (.dT f'))(neg:Bool):inA neg (pairD x) (.ref n) S=.ok (.bl (if neg then !(Ag f' (Nc x)).isSome else(Ag f' (Nc x)).isSome)) S:=by
 show JP (inD neg (pairD x) (.ref n) S) (Mp neg (pairD x) (.ref n) S)=_
 have e:inD neg (pairD x) (.ref n) S=.bad:=by
  unfold inD GF;dsimp only;rw[h]
 have e2:MD (.ref n) (pairD x) S=some (Ag f' (Nc x)):=by
  unfold MD pairD;dsimp only;rw[h];rfl
 rw[e];show Mp neg (pairD x) (.ref n) S=_;unfold Mp;rw[e2]
theorem cn(hv:mv e S=.ok v S)(ho:mo e S=.ok (.ref d) S)(hi:mi e S=.ok (pairD x) S)(h:S[d]?=some (.dT f'))(hl:f'.length < sizeLine) :
  Cv mo mi mv e S=.ok (.nx e) (S.set d (.dT (Bz f' (Nc x) v))):=by
 unfold Cv;rw[hv];dsimp only[Res.lift];rw[ho];dsimp only[Res.lift];rw[hi];dsimp only[Res.lift]
 have:Pc (.ref d) (pairD x) v S=some (S.set d (.dT (Bz f' (Nc x) v))):=by
  unfold Pc pairD;dsimp only;rw[h];show(if f'.length < sizeLine then some (S.set d (.dT (Bz f' (Nc x) v)))else none)=_;rw[qX hl]
 rw[this]
theorem ix0(x:Int×Int)(S:Sto):ixA (pairD x) (.int 0) S=.ok (.int x.1) S:=rfl
theorem ix1(x:Int×Int)(S:Sto):ixA (pairD x) (.int 1) S=.ok (.int x.2) S:=rfl
def Fit(p:Int)(x:Int×Int):Prop:=(nrm x).1≠(nrm x).2/\0<=(nrm x).1/\(nrm x).2 < p
abbrev lj(W:Wd):MS:=BO (DH 5 (Kp (AT (mQ Os (AT (AD 3) (AT (AD 4) BR))) (AT (mQ NV (AT (AD 3) (AT (AD 4) BR))) BR))))
  (BO (sIf (mB (m2 (eqD false) (m2 ixA (AD 5) (mC (.int 0))) (m2 ixA (AD 5) (mC (.int 1))))) PL sNx)
  (BO (sIf (mOr (mB (m2 ltD (m2 ixA (AD 5) (mC (.int 0))) (mC (.int 0)))) (mB (m2 geD (m2 ixA (AD 5) (mC (.int 1))) (AD 0)))) PL sNx)
  (BO (sIf (mB (m2 (inA false) (AD 5) (AD 2))) PL sNx)
  (Cv (AD 2) (AD 5) (mC (.bl true))))))
theorem Tq(h:t e S=.ok false S):sIf t a sNx e S=.ok (.nx e) S:=(Gw (a:=a) (b:=sNx) h).trans rfl
theorem aa(hn:S[n]?=some (.dT (LN ps)))(hl:ps.length<=100000)(hf:Fit p x)(f4:nrm x∉ps.map nrm) :
  lj W [sI p,some t,sR n,sI x.1,sI x.2,z5] S=oN [sI p,some t,sR n,sI x.1,sI x.2,some (pairD (nrm x))] (S.set n (.dT (LN (ps++[x])))):=by
 have e0:DH 5 (Kp (AT (mQ Os (AT (AD 3) (AT (AD 4) BR))) (AT (mQ NV (AT (AD 3) (AT (AD 4) BR))) BR))) [sI p,some t,sR n,sI x.1,sI x.2,z5] S =
   oN [sI p,some t,sR n,sI x.1,sI x.2,some (pairD (nrm x))] S:=
  K9 (i:=5) (aX (ds:=[.int (nrm x).1,.int (nrm x).2]) (CV (fD (ds:=[.int x.1,.int x.2]) (S1:=S) rfl rfl) (CV (fD (ds:=[.int x.1,.int x.2]) (S1:=S) rfl rfl) rfl)) (by simp))
 obtain⟨f1,f2,f3⟩:=hf;refine(Bw e0).trans ((Bw (Tq (UO (En (En rfl rfl (ix0 _ _)) (En rfl rfl (ix1 _ _)) (lT (wY f1)))))).trans ((Bw (Tq ((bX (UO (En (En rfl rfl (ix0 _ _)) rfl (ke (wY (by lia)))))).trans (UO (En (En rfl rfl (ix1 _ _)) rfl (lN (wY (by lia)))))))).trans ((Bw (Tq (UO (En rfl rfl ?_)))).trans ?_)))
 ·rw[oh hn,bq,wY f4]
  rfl
 ·rw[cn (x:=nrm x) rfl rfl rfl hn (by unfold LN;rw[AC];exact At hl (by decide)),bp _ _ f4]
theorem ZX(h:m e S=.ok d S1)(hx:Ex d S1=some xs):Eo m e S=.ok (Ex d) S1:=by
 unfold Eo;rw[h];dsimp only[Res.bind];rw[hx]
def FC(p:Int)(ps:List (Int×Int)):Prop:=(∀x∈ps,Fit p x)/\(ps.map nrm).Nodup
theorem FC.snoc:FC p (ps++[x])↔FC p ps/\Fit p x/\nrm x∉ps.map nrm:=by
 unfold FC;rw[Cf,Ev]
 constructor
 ·rintro⟨h1,h2,h3,h4⟩
  exact⟨⟨λy hy=>h1 y (by simp[hy]),h2⟩,h1 x (by simp),λz=>h4 _ z _ (by simp) rfl⟩
 ·rintro⟨⟨h1,h2⟩,h3,h4⟩
  refine⟨λy hy=>?_,h2,by simp,λa ha b hb e=>?_⟩
  ·rcases BI.mp hy with hy | hy
   ·exact h1 y hy
   ·rw[Ah.mp hy];exact h3
  ·simp at hb
   subst hb;subst e;exact h4 ha
theorem FC.take(h:FC p ps)(i:Nat):FC p (ps.take i):=by
 refine⟨λx hx=>h.1 x (List.mem_of_mem_take hx),?_⟩;rw[i8];exact h.2.sublist (Z6 _ _)
theorem take_snoc{α:Type}{l:List α}{i:Nat}{x:α}(h:l[i]?=some x):l.take (i+1)=l.take i++[x]:=by
 rw[Jh,h];rfl
theorem UG(W:Wd){p:Int}{d:D}{S:Sto}{ps:List (Int×Int)}(hv:∀S',Keeps S S'->Ex d S'=some (ps.map pairD))(hl:ps.length<=31)(hf:FC p ps) :
  ∃z3 z4 z5,Gk (Eo (AD 1)) (Iy 2 (DL (tgN 3) (DL (tgN 4) Jk))) (lj W) [sI p,some d,sR S.length,none,none,none] (S++[.dT []])=oN [sI p,some d,sR S.length,z3,z4,z5] (S++[.dT (LN ps)]):=by
 rw[JT (ZX (m:=AD 1) (d:=d) (S1:=S++[.dT []]) rfl (hv _ (Keeps.app _ _)))]
 obtain⟨f,S',h,z3,z4,z5,rfl,rfl⟩:=LV (v:=Ex d) (g:=Iy 2 (DL (tgN 3) (DL (tgN 4) Jk))) (b:=lj W) (xs:=ps.map pairD) (e:=[sI p,some d,sR S.length,none,none,none]) (S:=S++[.dT []]) (λi e S'=>(∃z3 z4 z5,e=[sI p,some d,sR S.length,z3,z4,z5])/\S'=S++[.dT (LN (ps.take i))]) (λf S'=>∃z3 z4 z5,f=.nx [sI p,some d,sR S.length,z3,z4,z5]/\S'=S++[.dT (LN ps)]) ⟨⟨none,none,none,rfl⟩,by simp[LN]⟩ (by rintro i e S' ⟨_,rfl⟩;exact hv _ (Keeps.app _ _))
  (by
   rintro i y e S' hy ⟨⟨z3,z4,z5,rfl⟩,rfl⟩;rw[Aa]at hy
   cases hx:ps[i]? with
   | none=>rw[hx]at hy;cases hy
   | some x=>
    rw[hx]at hy;cases hy;have qt:=(AE.mp hx).1;have af:=hf.take (i+1);rw[take_snoc hx]at af;obtain⟨_,c1,c2⟩:=FC.snoc.mp af;refine⟨[sI p,some d,sR S.length,sI x.1,sI x.2,z5],_,rfl,_,_,aa (W:=W) (p:=p) (t:=d) (z5:=z5) (x:=x) (FQ S (.dT (LN (ps.take i)))) (by rw[EK];lia) c1 c2,⟨_,_,_,rfl⟩,?_⟩;rw[take_snoc hx]
    simp)
  (by
   rintro e S' ⟨⟨z3,z4,z5,rfl⟩,rfl⟩;rw[AC,Kg]
   exact⟨_,_,_,rfl,rfl⟩)
 exact⟨z3,z4,z5,h⟩
def J4(ps:List (Int×Int)):List (List Int):=NG (ps.map λx=>Tb (nrm x))
theorem UH(W:Wd){p:Int}{d:D}{S:Sto}{ps:List (Int×Int)}(hv:∀S',Keeps S S'->Ex d S'=some (ps.map pairD))(hl:ps.length<=31)(hf:FC p ps) :
  ∃S',Gb W [.int p,d] S=.ok (.tup ((J4 ps).map PM)) S'/\Keeps S S':=by
 obtain⟨z3,z4,z5,h1⟩:=UG W hv hl hf
 ·have hi:KO (.ref S.length) (S++[.dT (LN ps)])=some ((ps.map λx=>Tb (nrm x)).map PM):=by
   unfold KO;dsimp only;rw[FQ];dsimp only;unfold LN;rw[BC,BC];rfl
  have hs:=OA (m:=AD 2) (e:=[sI p,some d,sR S.length,z3,z4,z5]) (S:=S++[.dT (LN ps)]) rfl hi (Wa _ (by intro r hr;obtain⟨x,_,rfl⟩:=Al.mp hr;simp[Tb]) (by rw[AC];lia));refine⟨S++[.dT (LN ps)]++[.lst ((J4 ps).map PM)],LD ?_,(Keeps.app S _).trans (Keeps.app _ _)⟩;refine HD (Bw (e:=[sI p,some d,none,none,none,none]) (e1:=[sI p,some d,sR S.length,none,none,none]) (S:=S) (S1:=S++[.dT []]) rfl) ?_;refine HD (Bw h1) ?_;exact LF (NF hs (IG (FQ _ _)))
open PySem L2
def Cp(ts:List (Int×Int))(x:Nat):List Int:=ts.flatMap λt=>(if t.1=(x:Int)then[t.2]else[])++(if t.2=(x:Int)then[t.1]else[])
theorem VW(ts:List (Int×Int))(t:Int×Int)(x:Nat):Cp (ts++[t]) x=Cp ts x++((if t.1=(x:Int)then[t.2]else[])++(if t.2=(x:Int)then[t.1]else[])):=by
 unfold Cp;rw[List.flatMap_append];simp
def GJ(p:Nat)(F:Nat->List Int):Sto:=(C9 p).map λx=>Ob.lst ((F x).map D.int)
def Ez(k p:Nat):List D:=(C9 p).map λx=>D.ref (k+x)
def stN(S:Sto)(p:Nat)(F:Nat->List Int):Sto:=S++GJ p F++[.lst (Ez S.length p)]
theorem IP(p:Nat)(F:Nat->List Int):(GJ p F).length=p:=by simp[GJ]
theorem TQ(S:Sto)(p:Nat)(F:Nat->List Int):(stN S p F).length=S.length+p+1:=by simp[stN,IP];lia
theorem N9(S:Sto)(p:Nat)(F:Nat->List Int):Keeps S (stN S p F):=(Keeps.app S _).trans (Keeps.app _ _)
theorem K5(S:Sto)(p:Nat)(F:Nat->List Int):(stN S p F)[S.length+p]?=some (.lst (Ez S.length p)):=by
 have:S.length+p=(S++GJ p F).length:=by simp[IP]
 unfold stN;rw[this];exact FQ _ _
theorem J5(S:Sto)(F:Nat->List Int)(h:a < p):(stN S p F)[S.length+a]?=some (.lst ((F a).map D.int)):=by
 unfold stN;rw[D4,Bg (by lia),Ao (by rw[IP];lia),show S.length+a - S.length=a by lia];unfold GJ;rw[Aa,DX h];rfl
theorem Xr(S:Sto)(F:Nat->List Int)(ys:List Int)(h:a < p):(stN S p F).set (S.length+a) (.lst (ys.map D.int))=stN S p (λx=>if x=a then ys else F x):=by
 apply Ji
 intro j
 by_cases e:S.length+a=j
 ·subst e
  rw[Ai (by rw[TQ];lia),J5 _ _ h,qX rfl]
 ·rw[AY e]
  by_cases h1:j < S.length
  ·rw[(N9 S p F).2 j h1,(N9 S p _).2 j h1]
  by_cases h2:j - S.length < p
  ·have e2:j=S.length+(j - S.length):=by lia
   rw[e2,J5 S F h2,J5 S _ h2,qY (by lia)]
  by_cases h3:j=S.length+p
  ·subst h3
   rw[K5,K5]
  ·rw[Bp (by rw[TQ];lia),Bp (by rw[TQ];lia)]
theorem YA(F:Nat->List Int)(h:a < p):ixA (.ref (S.length+p)) (.int a) (stN S p F)=.ok (.ref (S.length+a)) (stN S p F):=by
 show JP (ixD _ _ _) _=_;have e1:GF (.ref (S.length+p)) (stN S p F)=some (Ez S.length p):=IG (K5 S p F)
 have e2:atI (Ez S.length p) (a:Int)=some (.ref (S.length+a)):=by
  unfold atI ixN;rw[show(Ez S.length p).length=p by simp[Ez],qX (by lia),qX (by lia)];simp only[AG,Aq];unfold Ez;rw[Aa,DX h];rfl
 have:ixD (.ref (S.length+p)) (.int a) (stN S p F)=.ok (.ref (S.length+a)) (stN S p F):=by
  unfold ixD;rw[e1];dsimp only;rw[e2]
 rw[this];rfl
theorem ak(S:Sto):∀p:Nat,S++GJ (p+1) (λ_=>[])=S++GJ p (λ_=>[])++[.lst []]:=λp=>by
 unfold GJ;rw[Ky,Cf,D4];rfl
theorem Y5(hp:p<=60)(h0:mp e S=.ok (.int p) S) :
  EM 1 (iR1 (AT mp BR)) (tgN 0) Gx (FP (GV BR)) e S=.ok (Ez S.length p) (S++GJ p λ_=>[]):=by
 have hi:iR1 (AT mp BR) e S=.ok (Gs (IQ 0 p)) S:=by
  have:=cK (ml:=AT mp BR) (e:=e) (S:=S) (S1:=S) (j:=p) (CV h0 rfl) (by lia) (by lia);simpa using this
 obtain⟨r,S1,q1,e',⟨z,_⟩,rfl,rfl⟩:=YR (v:=Gs (IQ 0 p)) (g:=tgN 0) (c:=Gx) (m:=FP (GV BR)) (xs:=IQ 0 p) (e:=none :: e) (S:=S)
  (λi e' S' acc=>(∃z,e'=z :: e)/\S'=S++GJ i (λ_=>[])/\acc=Ez S.length i)
  ⟨⟨none,rfl⟩,by simp[GJ],rfl⟩ (λ_ _ _ _ _=>rfl)
  (by
   rintro i d e' S' acc hd ⟨⟨z,rfl⟩,rfl,rfl⟩;obtain⟨hi,rfl⟩:=bA hd;refine⟨by simp[Ez];exact At (m:=60) (by lia) (by decide),some (.int (0+i)) :: e,_,rfl,true,_,rfl,.inl ⟨rfl,.ref (S++GJ i λ_=>[]).length,_,rfl,⟨_,rfl⟩,(ak S i).symm,?_⟩⟩;unfold Ez;rw[Ky,Cf,As,IP]
   rfl)
 rw[Y7]at q1;exact(UE hi).trans q1
abbrev YU:MS:=BO (HR (R4 (m2 ixA (AD 2) (AD 3)) (AD 4))) (HR (R4 (m2 ixA (AD 2) (AD 4)) (AD 3)))
def In(p:Nat)(t:Int×Int):Prop:=0<=t.1/\t.1 < p/\0<=t.2/\t.2 < p/\t.1≠t.2
theorem Y4(ht:In p t)(hF:∀x,(F x).length < 200000) :
  YU [some d0,some d1,sR (S.length+p),sI t.1,sI t.2] (stN S p F)=.ok (.nx [some d0,some d1,sR (S.length+p),sI t.1,sI t.2])
   (stN S p λx=>F x++((if t.1=(x:Int)then[t.2]else[])++(if t.2=(x:Int)then[t.1]else[]))):=by
 obtain⟨a,ha⟩:∃a:Nat,t.1=a:=⟨t.1.toNat,by have:=ht.1;lia⟩
 obtain⟨b,hb⟩:∃b:Nat,t.2=b:=⟨t.2.toNat,by have:=ht.2.2.1;lia⟩
 obtain⟨_,h2,_,h4,h5⟩:=ht
 have zT:a≠b:=λe=>h5 (by rw[ha,hb,e])
 rw[ha,hb]
 have hz:∀x,((F x).map D.int).length < sizeLine:=λx=>by rw[AC];exact me (hF x) (by decide)
 have s1:=XN (mo:=m2 ixA (AD 2) (AD 3)) (ma:=AD 4) (e:=[some d0,some d1,sR (S.length+p),sI a,sI b]) (S:=stN S p F) (S1:=stN S p F) (S2:=stN S p F) (n:=S.length+a) (y:=.int b) (En rfl rfl (YA F (by lia))) (J5 S F (by lia)) rfl (J5 S F (by lia)) (hz a);rw[show(F a).map D.int++[D.int b]=(F a++[(b:Int)]).map D.int by simp,Xr S F _ (by lia)]at s1
 have uu:(stN S p λx=>if x=a then F a++[(b:Int)]else F x)[S.length+b]?=some (.lst ((F b).map D.int)):=by
  rw[J5 S _ (by lia),qY (CF zT)]
 have s2:=XN (mo:=m2 ixA (AD 2) (AD 4)) (ma:=AD 3) (e:=[some d0,some d1,sR (S.length+p),sI a,sI b]) (S:=stN S p λx=>if x=a then F a++[(b:Int)]else F x) (S1:=stN S p λx=>if x=a then F a++[(b:Int)]else F x) (S2:=stN S p λx=>if x=a then F a++[(b:Int)]else F x) (n:=S.length+b) (y:=.int a) (En rfl rfl (YA _ (by lia))) uu rfl uu (hz b);rw[show(F b).map D.int++[D.int a]=(F b++[(a:Int)]).map D.int by simp,Xr S _ _ (by lia)]at s2;unfold YU;rw[Bw (L6 s1),L6 s2]
 congr 2
 funext x
 by_cases e1:x=b
 ·subst e1
  have:¬((a:Int)=(x:Int)):=by lia
  simp[this]
 ·by_cases e2:x=a
  ·subst e2
   have:¬((b:Int)=(x:Int)):=by lia
   simp[e1,this]
  ·have h1:¬((a:Int)=(x:Int)):=by lia
   have h2:¬((b:Int)=(x:Int)):=by lia
   simp[e1,e2,h1,h2]
theorem Qr(ts:List (Int×Int))(x:Nat):(Cp ts x).length<=2 * ts.length:=by
 unfold Cp
 induction ts with
 | nil=>simp
 | cons t ts ih=>
  rw[Z9,As,Aj]
  have:((if t.1=(x:Int)then[t.2]else[])++(if t.2=(x:Int)then[t.1]else[])).length<=2:=by split <;> split <;> simp
  lia
def OC(p:Nat)(ts:List (Int×Int)):List D:=(C9 p).map λx=>.tup ((Bt (Cp ts x)).map D.int)
theorem gB(W:Wd)(hp:p<=60)(ht:∀t∈ts,In p t)(hl:ts.length<=31)(S:Sto) :
  ∃S',Ga W [.int p,.tup (ts.map pairD)] S=.ok (.tup (OC p ts)) S'/\Keeps S S':=by
 have a1:=K9 (i:=2) (Wv (Y5 hp (mp:=AD 0) (e:=[sI p,some (.tup (ts.map pairD)),none,none,none]) (S:=S) rfl));have e1:(S++GJ p λ_=>[])++[.lst (Ez S.length p)]=stN S p (Cp []):=rfl
 have e2:(S++GJ p λ_=>[]).length=S.length+p:=by simp[IP]
 rw[e1,e2]at a1
 obtain⟨f,S1,h1,⟨z3,z4,rfl⟩,rfl⟩:=LV (v:=Gs (ts.map pairD)) (g:=Iy 2 (DL (tgN 3) (DL (tgN 4) Jk))) (b:=YU) (xs:=ts.map pairD) (e:=[sI p,some (.tup (ts.map pairD)),sR (S.length+p),none,none]) (S:=stN S p (Cp []))
  (λi e S'=>(∃z3 z4,e=[sI p,some (.tup (ts.map pairD)),sR (S.length+p),z3,z4])/\S'=stN S p (Cp (ts.take i)))
  (λf S'=>(∃z3 z4,f=.nx [sI p,some (.tup (ts.map pairD)),sR (S.length+p),z3,z4])/\S'=stN S p (Cp ts))
  ⟨⟨none,none,rfl⟩,rfl⟩ (λ_ _ _ _=>rfl)
  (by
   rintro i y e S' hy ⟨⟨z3,z4,rfl⟩,rfl⟩;rw[Aa]at hy
   cases hx:ts[i]? with
   | none=>rw[hx]at hy;cases hy
   | some t=>
    rw[hx]at hy;cases hy;refine⟨[sI p,some (.tup (ts.map pairD)),sR (S.length+p),sI t.1,sI t.2],_,rfl,_,_,Y4 (ht t (BE hx)) (λx=>?_),⟨_,_,rfl⟩,?_⟩
    ·have:=Qr (ts.take i) x
     rw[EK]at this;exact At (Aw this (Nat.mul_le_mul_left 2 (Aw (db _ _) hl))) (by decide)
    ·rw[take_snoc hx,show Cp (ts.take i++[t])=_ from funext λx=>VW _ _ x])
  (by
   rintro e S' ⟨⟨z3,z4,rfl⟩,rfl⟩;rw[AC,Kg]
   exact⟨⟨_,_,rfl⟩,rfl⟩)
 have a2:=(JT (g:=Iy 2 (DL (tgN 3) (DL (tgN 4) Jk))) (b:=YU) (Q0 (m:=AD 1) (e:=[sI p,some (.tup (ts.map pairD)),sR (S.length+p),none,none]) (S:=stN S p (Cp [])) (S1:=stN S p (Cp [])) (xs:=ts.map pairD) rfl)).trans h1
 obtain⟨r,S2,q1,e',⟨z,_⟩,K,rfl⟩:=YR (v:=Ex (.ref (S.length+p))) (g:=tgN 0) (c:=Gx) (m:=Hh (HI (AD 0))) (xs:=Ez S.length p) (e:=[none,sI p,some (.tup (ts.map pairD)),sR (S.length+p),z3,z4]) (S:=stN S p (Cp ts))
  (λi e' S' acc=>(∃z,e'=[z,sI p,some (.tup (ts.map pairD)),sR (S.length+p),z3,z4])/\Keeps (stN S p (Cp ts)) S'/\acc=(C9 i).map λx=>.tup ((Bt (Cp ts x)).map D.int))
  ⟨⟨none,rfl⟩,.refl _,rfl⟩ (λi e' S' acc h=>Dt (h.2.1.at (K5 S p _)))
  (by
   rintro i d e' S' acc hd ⟨⟨z,rfl⟩,K,rfl⟩
   have hi:i < p:=by
    have:=(AE.mp hd).1;simpa[Ez]using this
   unfold Ez at hd;rw[Aa,DX hi]at hd;cases hd;have hit:KO (.ref (S.length+i)) S'=some ((Cp ts i).map D.int):=W3 (K.at (J5 S _ hi));have hs:=OA (m:=AD 0) (e:=[sR (S.length+i),sI p,some (.tup (ts.map pairD)),sR (S.length+p),z3,z4]) (S:=S') (S1:=S') rfl hit (Wc _ (by have:=Qr ts i;lia));refine⟨by simp;exact At (m:=60) (by lia) (by decide),[sR (S.length+i),sI p,some (.tup (ts.map pairD)),sR (S.length+p),z3,z4],_,rfl,true,_,rfl,.inl ⟨rfl,_,_,NF hs (IG (FQ _ _)),⟨_,rfl⟩,K.trans (Keeps.app _ _),?_⟩⟩;rw[Ky,Cf]
   rfl)
 have a3:=(UE (n:=1) (g:=tgN 0) (c:=Gx) (m:=Hh (HI (AD 0))) (LR (m:=AD 2) (e:=[sI p,some (.tup (ts.map pairD)),sR (S.length+p),z3,z4]) (S:=stN S p (Cp ts)) (S1:=stN S p (Cp ts)) rfl (K5 S p _))).trans q1;rw[show(Ez S.length p).length=p by simp[Ez]]at a3;refine⟨S2++[.lst (OC p ts)],LD ?_,((N9 S p _).trans K).trans (Keeps.app _ _)⟩;unfold Lh;refine HD (Bw a1) ?_;refine HD (Bw a2) ?_;exact LF (NF (Wv a3) (IG (FQ _ _)))
open PySem L2
open Srt (ltL)
def toP(r:List Int):Int×Int:=(r.getD 0 0,r.getD 1 0)
def Gj(ps:List (Int×Int)):List (Int×Int):=(J4 ps).map toP
theorem QQ(h:r∈J4 ps):∃x∈ps,r=Tb (nrm x):=by
 have:=(IF _).mem_iff.mp h;obtain⟨x,hx,rfl⟩:=Al.mp this;exact⟨x,hx,rfl⟩
theorem Yr(ps:List (Int×Int)):(Gj ps).map Tb=J4 ps:=by
 unfold Gj;rw[BC]
 conv=>rhs;rw[<-P8 (J4 ps)]
 refine DW λr hr=>?_
 obtain⟨x,_,rfl⟩:=QQ hr;rfl
theorem WW(ps:List (Int×Int)):(J4 ps).map PM=(Gj ps).map pairD:=by
 rw[<-Yr,BC];rfl
theorem aY(h:t∈Gj ps):∃x∈ps,t=nrm x:=by
 obtain⟨r,hr,rfl⟩:=Al.mp h;obtain⟨x,hx,rfl⟩:=QQ hr;exact⟨x,hx,rfl⟩
theorem N8(ps:List (Int×Int)):(Gj ps).Perm (ps.map nrm):=by
 unfold Gj J4;have:=(IF (ps.map λx=>Tb (nrm x))).map toP;refine this.trans ?_;rw[BC];exact List.Perm.of_eq rfl
theorem kZ(x:Int×Int):(nrm x).1<=(nrm x).2:=by
 unfold nrm;dsimp only
 split <;> split <;> lia
theorem Fit.in{p:Nat}{x:Int×Int}(h:Fit p x):In p (nrm x):=by
 obtain⟨h1,h2,h3⟩:=h;have:=kZ x;exact⟨h2,by lia,by lia,h3,h1⟩
theorem oM:¬(("places" : Str) = "ties"):=by decide +kernel
theorem oO:¬(("places" : Str) = "near_sets"):=by decide +kernel
theorem oK:¬(("ties" : Str) = "near_sets"):=by decide +kernel
theorem put2(a b:D):Io "ties" b [(("places" : Str),a)]=([("places",a),("ties",b)]:List (Str×D)):=by
 show(if ("places" : Str) = "ties" then _ else _)=_;rw[qY oM];rfl
theorem put3(a b c:D):Io "near_sets" c [(("places" : Str),a),("ties",b)]=([("places",a),("ties",b),("near_sets",c)]:List (Str×D)):=by
 show(if ("places" : Str) = "near_sets" then _ else _)=_;rw[qY oO]
 have:Io "near_sets" c [(("ties" : Str),b)]=([("ties",b),("near_sets",c)]:List (Str×D)):=by
  show(if ("ties" : Str) = "near_sets" then _ else _)=_;rw[qY oK];rfl
 rw[this]
theorem oU(a b c:D):([("places",a),("ties",b),("near_sets",c)]:List (Str×D)).lookup ("places" : Str)=some a:=by
 rw[BQ,show(("places" : Str)=="places")=true by decide +kernel]
theorem oS(a b c:D):([("places",a),("ties",b),("near_sets",c)]:List (Str×D)).lookup ("near_sets" : Str)=some c:=by
 rw[BQ,show(("near_sets" : Str)=="places")=false by decide +kernel];dsimp only;rw[BQ,show(("near_sets" : Str)=="ties")=false by decide +kernel];dsimp only;rw[BQ,show(("near_sets" : Str)=="near_sets")=true by decide +kernel]
theorem kf(a b:D):([("places",a),("ties",b)]:List (Str×D)).lookup ("ties" : Str)=some b:=by
 rw[BQ,show(("ties" : Str)=="places")=false by decide +kernel];dsimp only;rw[BQ,show(("ties" : Str)=="ties")=true by decide +kernel]
open PySem L2 L4
def FJ(W:Wd)(w:Nat×List (Int×Int)):Ob:=.ins W.Web [("places",.int w.1),("ties",.tup (w.2.map pairD)),("near_sets",.tup (OC w.1 w.2))]
def OO(p:Nat)(ts:List (Int×Int)):List (List Int):=(C9 p).map λx=>Bt (Cp ts x)
theorem bn(p:Nat)(ts:List (Int×Int)):D.tup (OC p ts)=eT (eT D.int) (OO p ts):=by
 unfold OC OO eT;rw[BC];rfl
open Classical in
def Yh(x:Int)(l:List (Int×Int)):Option (Nat×List (Int×Int)):=if 1<=x/\x<=60/\FC x l/\l.length<=31 then some (x.toNat,Gj l)else none
section
variable{W:Wd}{A:List Sl}{a b m:ME}{p:Option (Nat×List (Int×Int))}
theorem Xm{α:Type}{f:Str}{enc:α->D}{g:Nat×List (Int×Int)->α}(h:VE A m (rO (FJ W)) p)(hl:∀w,([("places",D.int w.1),("ties",.tup (w.2.map pairD)),("near_sets",.tup (OC w.1 w.2))]:List (Str×D)).lookup f=some (enc (g w))):VE A (DJ W.Web f m) (rV enc) (p.bind λw=>some (g w)):=λv hv S0 e F S hs=>by
 obtain⟨w,h1,h2⟩:=Av hv;cases h2;obtain⟨d,S',h3,h4,n,rfl,hn⟩:=h w h1 S0 e F S hs;exact⟨_,S',JU h3 hn (hl w),h4,rfl⟩
theorem FG(h:VE A m (rO (FJ W)) p):VE A (DJ W.Web "places" m) (rV D.int) (p.bind λw=>some (w.1:Int)):=Xm h λw=>oU _ _ _
theorem eE(h:VE A m (rO (FJ W)) p):VE A (DJ W.Web "near_sets" m) (rV (eT (eT D.int))) (p.bind λw=>some (OO w.1 w.2)):=Xm h λw=>by rw[<-bn];exact oS _ _ _
theorem jF(W:Wd){p:Nat}(h1:1<=p)(hp:p<=60){d:D}{S:Sto}{ps:List (Int×Int)}(hv:∀S',Keeps S S'->Ex d S'=some (ps.map pairD))(hl:ps.length<=31)(hf:FC p ps){e:Lo}{ml:ML}{S0:Sto}(ha:ml e S0=.ok [.int p,d] S) :
  ∃S',Ou W.Web 3 (KU W) ml e S0=.ok (.ref S.length) S'/\Keeps S S'/\S'[S.length]?=some (FJ W (p,Gj ps)):=by
 have t0:PX (mB (m3 leD leD (mC (.int 1)) (AD 1) (mC (.int 60)))) [sR S.length,sI p,some d] (S++[.ins W.Web []])=.ok false (S++[.ins W.Web []]):=
  Ml (b:=true) (UO (ii (S3:=S++[.ins W.Web []]) rfl rfl (b7 (wX (by lia))) rfl (b7 (wX (by lia)))))
 have t8:(S++[Ob.ins W.Web []])[S.length]?=some (.ins W.Web []):=FQ _ _;have e1:=Ps (C:=W.Web) (f:="places") (mo:=AD 0) (mv:=AD 1) (e:=[sR S.length,sI p,some d]) (S:=S++[.ins W.Web []]) (v:=.int p) rfl rfl t8 (by decide);have K1:Keeps S ((S++[Ob.ins W.Web []]).set S.length (.ins W.Web (Io "places" (.int p) []))):=(Keeps.app S _).set (AK _) _;generalize hS1:(S++[Ob.ins W.Web []]).set S.length (.ins W.Web (Io "places" (.int p) []))=S1 at e1 K1
 have rW:S1[S.length]?=some (.ins W.Web [("places",.int p)]):=by rw[<-hS1];exact Ai (by simp)
 obtain⟨S2,c2,K2⟩:=UH W (p:=p) (d:=d) (S:=S1) (ps:=ps) (λS' k=>hv S' (K1.trans k)) hl hf;rw[WW]at c2;have e2:=Ps (C:=W.Web) (f:="ties") (mo:=AD 0) (mv:=CW 2 (Gb W) (AT (AD 1) (AT (AD 2) BR))) (e:=[sR S.length,sI p,some d]) (S:=S1) ((KY rfl rfl).trans c2) rfl (K2.at rW) (by simp);have K3:Keeps S (S2.set S.length (.ins W.Web (Io "ties" (.tup ((Gj ps).map pairD)) [("places",.int p)]))):=(K1.trans K2).set (AK _) _;rw[put2]at e2 K3;have wd:S.length < S2.length:=(AE.mp (K2.at rW)).1;generalize hS3:S2.set S.length (.ins W.Web [("places",.int p),("ties",.tup ((Gj ps).map pairD))])=S3 at e2 K3
 have tq:S3[S.length]?=some (.ins W.Web [("places",.int p),("ties",.tup ((Gj ps).map pairD))]):=by rw[<-hS3];exact Ai wd
 obtain⟨S4,c4,K4⟩:=gB W hp (ts:=Gj ps) (λt ht=>by
  obtain⟨x,hx,rfl⟩:=aY ht
  exact(hf.1 x hx).in) (by rw[(N8 ps).length_eq,AC];exact hl) S3
 have e3:=Ps (C:=W.Web) (f:="near_sets") (mo:=AD 0) (mv:=CW 2 (Ga W) (AT (AD 1) (AT (DJ W.Web "ties" (AD 0)) BR))) (e:=[sR S.length,sI p,some d]) (S:=S3)
  ((KY (CV (S1:=S3) rfl (CV (JU rfl tq (kf _ _)) rfl)) rfl).trans c4) rfl (K4.at tq) (by simp)
 have we:S.length < S4.length:=(AE.mp (K4.at tq)).1;rw[put3]at e3;refine⟨_,X4 ha rfl (Wn (e:=[sR S.length,sI p,some d]) ?_),(K3.trans K4).set (AK _) _,Ai we⟩;unfold RV;refine HD (Bw (e:=[sR S.length,sI p,some d]) (e1:=[sR S.length,sI p,some d]) (S1:=S++[.ins W.Web []]) (HD (Gw t0) rfl)) ?_;rw[Bw e1,Bw e2];exact e3
theorem jL{pa:Option Int}{pl:Option (List (Int×Int))}(ha:VE A a (rV D.int) pa)(hb:VE A b (rO (oL (eP D.int D.int))) pl):VE A (Ou W.Web 3 (KU W) (AT a (AT b BR))) (rN (FJ W)) (pa.bind λx=>pl.bind λl=>Yh x l):=λv hv S0 e F S hs=>by
 obtain⟨x,h1,hv⟩:=Av hv;obtain⟨l,h2,h3⟩:=Av hv;obtain⟨d1,S1,q1,k1,rfl⟩:=ha x h1 S0 e F S hs;obtain⟨d2,S2,q2,k2,n,rfl,hn⟩:=hb l h2 S0 e _ S1 (hs.grow k1);unfold Yh at h3;split at h3
 ·rename_i hc
  cases h3;obtain⟨c1,c2,c3,c4⟩:=hc;have hx:((x.toNat:Nat):Int)=x:=BD (by lia);obtain⟨S3,h5,h6,h7⟩:=jF W (p:=x.toNat) (d:=.ref n) (S:=S2) (ps:=l) (by lia) (by lia) (λS' k=>Dt (k.at hn)) c4 (by rw[hx];exact c3) (ml:=AT a (AT b BR)) (e:=e) (S0:=S) (by rw[hx];exact CV q1 (CV q2 rfl));exact⟨_,S3,h5,(k1.trans k2).trans h6,_,rfl,(k1.trans k2).1,h7⟩
 ·cases h3
end
def K2(h s:Nat)(S S':Sto):Prop:=S.length<=S'.length/\∀j,j < S.length->j≠h->j≠s->S'[j]?=S[j]?
theorem K2.trans(a:K2 h s S S1)(b:K2 h s S1 S2):K2 h s S S2:=⟨Aw a.1 b.1,λj q q1 q2=>(b.2 j (AS q a.1) q1 q2).trans (a.2 j q q1 q2)⟩
theorem K2.of{h s:Nat}{S S1:Sto}(a:Keeps S S1):K2 h s S S1:=⟨a.1,λj q _ _=>a.2 j q⟩
theorem K2.seth(a:K2 h s S S1)(o:Ob):K2 h s S (S1.set h o):=⟨by rw[DS];exact a.1,λj q q1 q2=>by rw[AY (CF q1)];exact a.2 j q q1 q2⟩
theorem K2.sets(a:K2 h s S S1)(o:Ob):K2 h s S (S1.set s o):=⟨by rw[DS];exact a.1,λj q q1 q2=>by rw[AY (CF q2)];exact a.2 j q q1 q2⟩
theorem K2.at(a:K2 h s S S1)(hj:S[j]?=some o)(h1:j≠h)(h2:j≠s):S1[j]?=some o:=by rw[a.2 j (BG hj) h1 h2];exact hj
def Tk(ξ:List (List Int))(g:Int):List Int:=(atI ξ g).getD []
theorem lX{κv}{enc}{l}{S}{n}(hn:S[n]?=some (oDK enc l))(hl:l.length < 1000000)(k:Int)(v:κv):Pc (.ref n) (.int k) (enc v) S=some (S.set n (oDK enc (Bz l k v))):=by
 unfold Pc;dsimp only;rw[hn];show(if (l.map _).length < sizeLine then some (S.set n (.dK (Bz (l.map λx=>(DR x.1,enc x.2)) (DR k) (enc v))))else none)=_;rw[qX (by rw[AC];exact ZP hl),Qg Py];rfl
theorem P1{κv:Type}{enc:κv->D}{l:List (Int×κv)}{mo mi mv:ME}{e:Lo}{S:Sto}{n:Nat}{k:Int}{v:κv}(hv:mv e S=.ok (enc v) S)(ho:mo e S=.ok (.ref n) S)(hi:mi e S=.ok (.int k) S)(hn:S[n]?=some (oDK enc l))(hl:l.length < 1000000):Cv mo mi mv e S=.ok (.nx e) (S.set n (oDK enc (Bz l k v))):=by
 unfold Cv;rw[hv];dsimp only[Res.lift];rw[ho];dsimp only;rw[hi];dsimp only;rw[lX hn hl]
theorem KC{κ α:Type}[DecidableEq κ]{l l':List (κ×α)}{k:κ}{v:α}(h:Km l k v=some l'):l.length < 1000000/\l'=Bz l k v:=by
 unfold Km at h;split at h
 ·rename_i c;cases h;exact⟨c,rfl⟩
 ·cases h
theorem Yj(ht:S[tN]?=some (oL (eT D.int) ξ))(hh:S[hN]?=some (oDK D.int H))(hs:S[sN]?=some (oDK D.bl Q))(qp:hN≠sN) :
  ∃F,Vs [] [.z (oL (eT D.int) ξ),.v (D.int bits),.w 2 (oDK D.int H),.v (D.int g),.w 4 (oDK D.bl Q),.u,.u] [sR tN,sI bits,sR hN,sI g,sR sN,none,none] F S:=by
 have t1:tN≠hN:=λc=>by rw[c,hh]at ht;cases ht
 have t2:tN≠sN:=λc=>by rw[c,hs]at ht;cases ht
 refine⟨λn=>if n=hN then .ow 2 else if n=sN then .ow 4 else match S[n]? with | some o=>.fz o | none=>.no,⟨Dc _,λj h=>(nomatch h)⟩,λn o q=>?_,λn i q=>?_,λn hn=>?_,λi a ha=>?_⟩
 ·split at q
  ·cases q
  ·split at q
   ·cases q
   ·cases w:S[n]? with
    | none=>rw[w]at q;cases q
    | some o'=>rw[w]at q;cases q;rfl
 ·refine⟨Dc _,?_⟩
  split at q
  ·rename_i c;rw[c];exact BG hh
  ·split at q
   ·rename_i c;rw[c];exact BG hs
   ·cases w:S[n]? with
    | none=>rw[w]at q;cases q
    | some o'=>rw[w]at q;cases q
 ·show(if n=hN then Cel.ow 2 else if n=sN then .ow 4 else match S[n]? with | some o=>.fz o | none=>.no)=_
  rw[qY λc=>zX (BG hh) (by rw[<-c];lia),qY λc=>zX (BG hs) (by rw[<-c];lia),Bp hn]
 ·match i,ha with
  | 0,ha=>cases ha;exact⟨_,rfl,tN,rfl,by show(if tN=hN then Cel.ow 2 else if tN=sN then .ow 4 else match S[tN]? with | some o=>.fz o | none=>.no)=_;rw[qY t1,qY t2,ht]⟩
  | 1,ha=>cases ha;exact⟨_,rfl,rfl⟩
  | 2,ha=>cases ha;exact⟨_,rfl,hN,rfl,qX rfl,hh⟩
  | 3,ha=>cases ha;exact⟨_,rfl,rfl⟩
  | 4,ha=>cases ha;exact⟨_,rfl,sN,rfl,by show(if sN=hN then Cel.ow 2 else if sN=sN then .ow 4 else match S[sN]? with | some o=>.fz o | none=>.no)=_;rw[qY (CF qp),qX rfl],hs⟩
  | 5,ha=>cases ha;exact⟨_,rfl,trivial⟩
  | 6,ha=>cases ha;exact⟨_,rfl,trivial⟩
  | i+7,ha=>cases ha
abbrev ie:ME:=FP (EM 1 (Eo (m2 ixA (AD 0) (AD 3))) (tgN 0) (NX (FO (m2 RX (m2 Us (AD 2) (AD 0)) (mC (.int 1)))) (mB (m2 (inA true) (AD 0) (AD 5)))) (AD 0))
theorem dm{S:Sto}{tN hN sN:Nat}{ξ:List (List Int)}{bits g:Int}{H:HL}{Q:QL}(ht:S[tN]?=some (oL (eT D.int) ξ))(hh:S[hN]?=some (oDK D.int H))(hs:S[sN]?=some (oDK D.bl Q))(qp:hN≠sN)(hg:0<=g/\g < ξ.length)(hT:∀t∈ξ,t.length<=1000/\∀x∈t,0<=x) :
  ∃n S',ie [sR tN,sI bits,sR hN,sI g,sR sN,none,none] S=.ok (.ref n) S'/\Keeps S S'/\S.length<=n/\S'[n]?=some (oL D.int ((Tk ξ g).filter λx=>hb bits x&&!(Ag Q x).isSome)):=by
 obtain⟨F,V⟩:=Yj (bits:=bits) (g:=g) ht hh hs qp;obtain⟨t,e1,-⟩:=ll (l:=ξ) hg.1 hg.2;have tm:=hT t (iC e1)
 have key:=Dq (ED (enc:=D.int) (eb:=D.int) (A:=[.z (oL (eT D.int) ξ),.v (D.int bits),.w 2 (oDK D.int H),.v (D.int g),.w 4 (oDK D.bl Q),.u,.u]) (VI.k (QH (G3 (DU (v:=ξ) (i:=0) rfl) (AQ (v:=g) (i:=3) rfl))))
  (λx=>TJ (Xp (Pp (jN (AQ (v:=bits) (i:=2) rfl) (AQ (v:=x) (i:=0) rfl)) (CK (v:=1) rfl))) (Ha (Ug (AQ (v:=x) (i:=0) rfl) (Lq (v:=Q) (i:=5) rfl)))) (λx=>AQ (v:=x) (i:=0) rfl))
 simp only[AG]at key;rw[e1]at key;simp only[AG]at key
 have ec:EV t (λx=>((ei bits x).bind λzU=>some (BU zU 1)).bind (λx=>some (x != 0)) |>.bind λb=>if b=true then some (!(Ag Q x).isSome)else some false) (λx=>some x)=some (t.filter λx=>hb bits x&&!(Ag Q x).isSome):=Mq (by lia) λx hx=>by
  rw[show ei bits x=some (bits / 2 ^ x.toNat)from qX (tm.2 x hx)];show(if (BU (bits / 2 ^ x.toNat) 1 != 0)=true then _ else _)=_;show(if hb bits x=true then _ else _)=_
  cases hb bits x <;> rfl
 obtain⟨d,S',h1,h2,n,rfl,h3,h4⟩:=key _ ec [] _ F S V;refine⟨n,S',h1,h2,h3,?_⟩;unfold Tk;rw[e1];exact h4
theorem gw{w:List Int}{p:Int->Bool}{i:Nat}{x:Int}(h:∀j,j < i->∀y,w[j]?=some y->p y=false)(hx:w[i]?=some x)(hp:p x=true):w.find? p=some x:=by
 rw[List.find?_eq_some_iff_getElem];obtain⟨hi,e⟩:=AE.mp hx;refine⟨hp,i,hi,e,λj hj=>?_⟩;rw[h j hj _ (AZ (by lia))];rfl
theorem gv{w:List Int}{p:Int->Bool}(h:∀j,j < w.length->∀y,w[j]?=some y->p y=false):w.find? p=none:=by
 rw[Ir];intro x hx hp;obtain⟨i,hi,e⟩:=CQ hx;rw[h i hi x (by rw[AZ hi,e])]at hp;cases hp
abbrev e7(tN:Nat)(bits:Int)(hN:Nat)(g:Int)(sN:Nat)(z5 z6:Option D):Lo:=[sR tN,sI bits,sR hN,sI g,sR sN,z5,z6]
abbrev bS1:MS:=sIf (mB (m2 (inA true) (AD 6) (AD 2))) (BO (Cv (AD 2) (AD 6) (AD 3)) (DM (mC (.bl true)))) sNx
abbrev bS2(fr:List D->Sto->Res D):MS:=sIf (mB (m2 (inA true) (AD 6) (AD 4))) (BO (Cv (AD 4) (AD 6) (mC (.bl true)))
  (sIf (FO (CW 5 fr (AT (AD 0) (AT (AD 1) (AT (AD 2) (AT (m2 ixA (AD 2) (AD 6)) (AT (AD 4) BR))))))) (BO (Cv (AD 2) (AD 6) (AD 3)) (DM (mC (.bl true)))) sNx)) sNx
theorem il(hn:S[n]?=some (oDK enc l))(x:Int):inA true (.int x) (.ref n) S=.ok (.bl (!(Ag l x).isSome)) S:=by
 rw[XE (jk hn) (cq hn x)];simp
theorem oa(hn:S[n]?=some (oDK enc l))(hv:Ag l x=some v):ixA (.ref n) (.int x) S=.ok (enc v) S:=RL (jk hn) (by rw[cq hn x,hv];rfl)
theorem Yz(W:Wd){ξ:List (List Int)}{bits:Int}(hT:∀t∈ξ,t.length<=1000/\∀x∈t,0<=x):∀(n:Nat) (H:HL) (g:Int) (Q:QL) (z:Bool×HL×QL),HF (Tk ξ) bits n H g Q=some z->0<=g/\g < ξ.length->(∀x a,Ag H x=some a->0<=a/\a < ξ.length)->(∀x a,Ag z.2.1 x=some a->0<=a/\a < ξ.length) /\
  ∀(S:Sto) (tN hN sN:Nat),S[tN]?=some (oL (eT D.int) ξ)->S[hN]?=some (oDK D.int H)->S[sN]?=some (oDK D.bl Q)->hN≠sN->∃S',Fe W n [.ref tN,.int bits,.ref hN,.int g,.ref sN] S=.ok (.bl z.1) S'/\S'[hN]?=some (oDK D.int z.2.1)/\S'[sN]?=some (oDK D.bl z.2.2)/\K2 hN sN S S':=by
 intro n
 induction n with
 | zero=>intro H g Q z hz;cases hz
 | succ n ih=>
  intro H g Q z hz hg hG;unfold HF at hz
  have rl:∀(H:HL) (x:Int),(∀x a,Ag H x=some a->0<=a/\a < ξ.length)->∀y a,Ag (Bz H x g) y=some a->0<=a/\a < ξ.length:=λH x hG y a e=>by
   rw[Cg]at e;split at e
   ·cases e;exact hg
   ·exact hG y a e
  have lp:∀(r:List Int) (Hc:HL) (Qc:QL),(∀x a,Ag Hc x=some a->0<=a/\a < ξ.length)->MN (HF (Tk ξ) bits n) g r Hc Qc=some z->∀x a,Ag z.2.1 x=some a->0<=a/\a < ξ.length:=by
   intro r
   induction r with
   | nil=>intro Hc Qc hc e;cases e;exact hc
   | cons x r ih2=>
    intro Hc Qc hc e;unfold MN at e;split at e
    ·exact ih2 Hc Qc hc e
    ·obtain⟨Q1,-,e⟩:=Av e
     obtain⟨g2,e2,e⟩:=Av e;obtain⟨z2,e3,e⟩:=Av e;have:=(ih Hc g2 Q1 z2 e3 (hc x g2 e2) hc).1;split at e
     ·obtain⟨H',e4,e5⟩:=Av e
      cases e5;rw[(KC e4).2];exact rl _ x this
     ·exact ih2 _ _ this e
  refine⟨?_,λS tN hN sN ht hh hs qp=>?_⟩
  ·split at hz
   ·obtain⟨H',e4,e5⟩:=Av hz
    cases e5;rw[(KC e4).2];exact rl _ _ hG
   ·exact lp _ _ _ hG hz
  ·have t1:tN≠hN:=λc=>by rw[c,hh]at ht;cases ht
   have t2:tN≠sN:=λc=>by rw[c,hs]at ht;cases ht
   obtain⟨wN,S1,w1,w2,w3,w4⟩:=dm (bits:=bits) ht hh hs qp hg hT;generalize (Tk ξ g).filter (λx=>hb bits x&&!(Ag Q x).isSome)=w at hz w4
   have wh:wN≠hN:=λc=>zX (BG hh) (by lia)
   have ws:wN≠sN:=λc=>zX (BG hs) (by lia)
   have s5:DH 5 ie (Hd 7 [.ref tN,.int bits,.ref hN,.int g,.ref sN]) S=.ok (.nx (e7 tN bits hN g sN (some (.ref wN)) none)) S1:=K9 (i:=5) w1;have vh:=w2.at hh;have rT:=w2.at hs;have ht1:=w2.at ht;have k1:K2 hN sN S S1:=K2.of w2
   have it:∀z6 S',S'[wN]?=some (oL D.int w)->Eo (AD 5) (e7 tN bits hN g sN (some (.ref wN)) z6) S'=.ok (Ex (.ref wN)) S':=λz6 S' h=>LR (n:=wN) rfl h
   obtain⟨f,S2,q1,q2⟩:=LV (v:=Ex (.ref wN)) (g:=tgN 6) (b:=bS1) (xs:=w.map D.int) (e:=e7 tN bits hN g sN (some (.ref wN)) none) (S:=S1)
    (λi e S'=>(∃z6,e=e7 tN bits hN g sN (some (.ref wN)) z6)/\S'=S1/\∀j,j < i->∀y,w[j]?=some y->(!(Ag H y).isSome)=false)
    (λf S'=>((∃z6,f=.nx (e7 tN bits hN g sN (some (.ref wN)) z6))/\S'=S1/\w.find? (λx=>!(Ag H x).isSome)=none)∨∃x,w.find? (λx=>!(Ag H x).isSome)=some x/\f=.rt (.bl true)/\S'=S1.set hN (oDK D.int (Bz H x g)))
    ⟨⟨none,rfl⟩,rfl,λj hj=>zX hj (Lm j)⟩ (by rintro i e S' ⟨_,rfl,_⟩;exact Dt w4)
    (by
     rintro i d e S' hd ⟨⟨z6,rfl⟩,rfl,qg⟩;rw[Aa]at hd
     cases hx:w[i]? with
     | none=>rw[hx]at hd;cases hd
     | some x=>
      rw[hx]at hd;cases hd;refine⟨e7 tN bits hN g sN (some (.ref wN)) (some (.int x)),S',rfl,?_⟩;have qw:mB (m2 (inA true) (AD 6) (AD 2)) (e7 tN bits hN g sN (some (.ref wN)) (some (.int x))) S'=.ok (!(Ag H x).isSome) S':=UO (En rfl rfl (il vh x))
      cases c:(Ag H x).isSome with
      | true=>
       rw[c]at qw;refine⟨_,S',(Gw qw).trans rfl,⟨_,rfl⟩,rfl,λj hj y hy=>?_⟩
       by_cases q:j=i
       ·subst q;rw[hx]at hy;cases hy;rw[c];rfl
       ·exact qg j (by lia) y hy
      | false=>
       rw[c]at qw;have hf:w.find? (λx=>!(Ag H x).isSome)=some x:=gw qg hx (by rw[c];rfl);rw[hf]at hz;obtain⟨H',e4,e5⟩:=Av hz;obtain⟨hl,-⟩:=KC e4;have dp:=P1 (mo:=AD 2) (mi:=AD 6) (mv:=AD 3) (e:=e7 tN bits hN g sN (some (.ref wN)) (some (.int x))) (k:=x) (v:=g) rfl rfl rfl vh hl
       exact⟨.rt (.bl true),_,(Gw qw).trans ((qX rfl).trans ((Bw dp).trans rfl)),.inr ⟨x,hf,rfl,rfl⟩⟩)
    (by
     rintro e S' ⟨⟨z6,rfl⟩,rfl,qg⟩;rw[AC]at qg
     exact .inl ⟨⟨z6,rfl⟩,rfl,gv qg⟩)
   have run:∀{S':Sto} {d:D},Vt W (Fe W n) (Hd 7 [.ref tN,.int bits,.ref hN,.int g,.ref sN]) S=.ok (.rt d) S'->Fe W (n+1) [.ref tN,.int bits,.ref hN,.int g,.ref sN] S=.ok d S':=λh=>LD h
   rcases q2 with⟨⟨z6,rfl⟩,rfl,hf⟩ | ⟨x,hf,rfl,rfl⟩
   ·rw[hf]at hz
    dsimp only at hz
    obtain⟨f,S3,p1,p2⟩:=LV (v:=Ex (.ref wN)) (g:=tgN 6) (b:=bS2 (Fe W n)) (xs:=w.map D.int) (e:=e7 tN bits hN g sN (some (.ref wN)) z6) (S:=S2)
     (λi e S'=>(∃z6,e=e7 tN bits hN g sN (some (.ref wN)) z6)/\S'[wN]?=some (oL D.int w)/\K2 hN sN S S'/\∃Hc Qc,S'[hN]?=some (oDK D.int Hc)/\S'[sN]?=some (oDK D.bl Qc)/\(∀x a,Ag Hc x=some a->0<=a/\a < ξ.length)/\MN (HF (Tk ξ) bits n) g (w.drop i) Hc Qc=some z)
     (λf S'=>K2 hN sN S S'/\S'[hN]?=some (oDK D.int z.2.1)/\S'[sN]?=some (oDK D.bl z.2.2)/\((f=.rt (.bl true)/\z.1=true)∨((∃z6,f=.nx (e7 tN bits hN g sN (some (.ref wN)) z6))/\z.1=false)))
     ⟨⟨z6,rfl⟩,w4,k1,H,Q,vh,rT,hG,hz⟩ (by rintro i e S' ⟨_,h,_⟩;exact Dt h)
     (by
      rintro i d e S' hd ⟨⟨z6,rfl⟩,a1,a2,Hc,Qc,a3,a4,a5,a6⟩;rw[Aa]at hd
      cases hx:w[i]? with
      | none=>rw[hx]at hd;cases hd
      | some x=>
       rw[hx]at hd;cases hd;obtain⟨hi,ex⟩:=AE.mp hx;rw[Jc hi,ex]at a6;unfold MN at a6;refine⟨e7 tN bits hN g sN (some (.ref wN)) (some (.int x)),S',rfl,?_⟩;have qw:mB (m2 (inA true) (AD 6) (AD 4)) (e7 tN bits hN g sN (some (.ref wN)) (some (.int x))) S'=.ok (!(Ag Qc x).isSome) S':=UO (En rfl rfl (il a4 x))
       cases c:(Ag Qc x).isSome with
       | true=>
        rw[c]at qw;rw[qX c]at a6;exact⟨_,S',(Gw qw).trans rfl,⟨_,rfl⟩,a1,a2,Hc,Qc,a3,a4,a5,a6⟩
       | false=>
        rw[c]at qw;rw[qY (by rw[c];exact AI)]at a6;obtain⟨Q1,b1,a7⟩:=Av a6;obtain⟨g2,b2,a8⟩:=Av a7;obtain⟨z2,b3,a9⟩:=Av a8;obtain⟨hl,rfl⟩:=KC b1
        clear a6 a7 a8
        have dp:=P1 (enc:=D.bl) (mo:=AD 4) (mi:=AD 6) (mv:=mC (.bl true)) (e:=e7 tN bits hN g sN (some (.ref wN)) (some (.int x))) (k:=x) (v:=true) rfl rfl rfl a4 hl;have ya:=BG a4
        have c3:(S'.set sN (oDK D.bl (Bz Qc x true)))[hN]?=some (oDK D.int Hc):=by rw[AY (CF qp)];exact a3
        have c4:(S'.set sN (oDK D.bl (Bz Qc x true)))[sN]?=some (oDK D.bl (Bz Qc x true)):=Ai ya
        have c5:(S'.set sN (oDK D.bl (Bz Qc x true)))[tN]?=some (oL (eT D.int) ξ):=by rw[AY (CF t2)];exact a2.at ht t1 t2
        have c1:(S'.set sN (oDK D.bl (Bz Qc x true)))[wN]?=some (oL D.int w):=by rw[AY (CF ws)];exact a1
        have c2:=a2.sets (oDK D.bl (Bz Qc x true));generalize S'.set sN (oDK D.bl (Bz Qc x true))=S4 at dp c1 c2 c3 c4 c5;obtain⟨r1,r2⟩:=ih Hc g2 (Bz Qc x true) z2 b3 (a5 x g2 b2) a5;obtain⟨S5,r3,r4,r5,r6⟩:=r2 S4 tN hN sN c5 c3 c4 qp;have arg:AT (AD 0) (AT (AD 1) (AT (AD 2) (AT (m2 ixA (AD 2) (AD 6)) (AT (AD 4) BR)))) (e7 tN bits hN g sN (some (.ref wN)) (some (.int x))) S4=.ok [.ref tN,.int bits,.ref hN,.int g2,.ref sN] S4:=CV rfl (CV rfl (CV rfl (CV (En (x:=.ref hN) (y:=.int x) rfl rfl (oa c3 b2)) (CV rfl rfl))))
        have sk:FO (CW 5 (Fe W n) (AT (AD 0) (AT (AD 1) (AT (AD 2) (AT (m2 ixA (AD 2) (AD 6)) (AT (AD 4) BR)))))) (e7 tN bits hN g sN (some (.ref wN)) (some (.int x))) S4=.ok z2.1 S5:=by
         unfold FO;rw[(KY (n:=5) arg rfl).trans r3];rfl
        have d1:=r6.at c1 wh ws;have d2:=c2.trans r6
        cases hb2:z2.1 with
        | true=>
         rw[hb2]at sk;rw[qX hb2]at a9;obtain⟨H',e4,e5⟩:=Av a9;obtain⟨qW,rfl⟩:=KC e4;cases e5;have zV:=P1 (mo:=AD 2) (mi:=AD 6) (mv:=AD 3) (e:=e7 tN bits hN g sN (some (.ref wN)) (some (.int x))) (k:=x) (v:=g) rfl rfl rfl r4 qW;refine⟨.rt (.bl true),_,(Gw qw).trans ((qX rfl).trans ((Bw dp).trans ((Gw sk).trans ((qX rfl).trans ((Bw zV).trans rfl))))),d2.seth _,Ai (BG r4),?_,.inl ⟨rfl,rfl⟩⟩;rw[AY qp];exact r5
        | false=>
         rw[hb2]at sk;rw[qY (by rw[hb2];exact AI)]at a9
         exact⟨_,S5,(Gw qw).trans ((qX rfl).trans ((Bw dp).trans ((Gw sk).trans rfl))),⟨_,rfl⟩,d1,d2,z2.2.1,z2.2.2,r4,r5,r1,a9⟩)
     (by
      rintro e S' ⟨⟨z6,rfl⟩,a1,a2,Hc,Qc,a3,a4,a5,a6⟩;rw[AC,Gp (AK _)]at a6;unfold MN at a6;cases a6
      exact⟨a2,a3,a4,.inr ⟨⟨z6,rfl⟩,rfl⟩⟩)
    obtain⟨p3,p4,p5,p6⟩:=p2;have l1:=(JT (g:=tgN 6) (b:=bS1) (it none S2 w4)).trans q1;have l2:=(JT (g:=tgN 6) (b:=bS2 (Fe W n)) (it z6 S2 w4)).trans p1
    rcases p6 with⟨rfl,p6⟩ | ⟨⟨z7,rfl⟩,p6⟩
    ·rw[p6]
     exact⟨S3,run ((Bw s5).trans ((Bw l1).trans (TV l2))),p4,p5,p3⟩
    ·rw[p6]
     exact⟨S3,run ((Bw s5).trans ((Bw l1).trans ((Bw l2).trans rfl))),p4,p5,p3⟩
   ·rw[hf]at hz
    obtain⟨H',e4,e5⟩:=Av hz;obtain⟨hl,rfl⟩:=KC e4;cases e5;have l1:=(JT (g:=tgN 6) (b:=bS1) (it none S1 w4)).trans q1;refine⟨_,run ((Bw s5).trans (TV l1)),Ai (BG vh),?_,k1.seth _⟩;rw[AY qp];exact rT
abbrev e5(tN:Nat)(gs:List Int)(bits:Int)(hN:Nat)(z:Option D):Lo:=[sR tN,some (eT D.int gs),sI bits,sR hN,z]
abbrev kc:MT:=FO (m2 RX (m2 Us (AD 2) (AD 4)) (mC (.int 1)))
theorem nF(h:m e S=.ok (.bl b) S1):FO m e S=.ok b S1:=by
 unfold FO;rw[h];rfl
theorem nE(h:m e S=.ok (.int i) S1):FO m e S=.ok (i != 0) S1:=by
 unfold FO;rw[h];rfl
theorem dD(h:0<=g):kc (e5 tN gs bits hN (some (.int g))) S=.ok (hb bits g) S:=by
 have h1:m2 Us (AD 2) (AD 4) (e5 tN gs bits hN (some (.int g))) S=.ok (.int (bits / 2 ^ g.toNat)) S:=En rfl rfl (qX h);exact nE (En (f:=RX) (mb:=mC (.int 1)) (y:=.int 1) h1 rfl rfl)
abbrev bF1:MS:=sIf kc (Cv (AD 3) (AD 4) (AD 4)) sNx
abbrev oQ(W:Wd)(n:Nat):ME:=CW 5 (Fe W n) (AT (AD 0) (AT (AD 2) (AT (AD 3) (AT (AD 4) (AT IV BR)))))
abbrev bF2(W:Wd)(n:Nat):MS:=sIf (NX (PX kc) (PX (FO (oQ W n)))) (DM (mC (.bl false))) sNx
theorem gu(W:Wd)(hT:∀t∈ξ,t.length<=1000/\∀x∈t,0<=x)(hg:∀g∈gs,0<=g/\g < ξ.length)(qg:SX (Tk ξ) bits 9 gs=some b)(ht:S[tN]?=some (oL (eT D.int) ξ)) :
  ∃S',UC W [.ref tN,eT D.int gs,.int bits] S=.ok (.bl b) S'/\Keeps S S':=by
 unfold SX at qg;obtain⟨Hf,hs,hr⟩:=Av qg;have s3:DH 3 IV (Hd 5 [.ref tN,eT D.int gs,.int bits]) S=.ok (.nx (e5 tN gs bits S.length none)) (S++[.dK []]):=rfl;have h0:(S++[Ob.dK []])[S.length]?=some (oDK D.int []):=FQ _ _;have k0:=Keeps.app S [.dK []];have tl:=BG ht;generalize S++[Ob.dK []]=S0 at s3 h0 k0
 obtain⟨f,S1,q1,⟨z1,rfl⟩,q2,q3,q4⟩:=LV (v:=Gs (gs.map D.int)) (g:=tgN 4) (b:=bF1) (xs:=gs.map D.int) (e:=e5 tN gs bits S.length none) (S:=S0)
  (λi e S'=>(∃z,e=e5 tN gs bits S.length z)/\Keeps S S'/\∃Hc,S'[S.length]?=some (oDK D.int Hc)/\(∀x a,Ag Hc x=some a->0<=a/\a < ξ.length)/\QT bits (gs.drop i) Hc=some Hf)
  (λf S'=>(∃z,f=.nx (e5 tN gs bits S.length z))/\Keeps S S'/\S'[S.length]?=some (oDK D.int Hf)/\∀x a,Ag Hf x=some a->0<=a/\a < ξ.length)
  ⟨⟨none,rfl⟩,k0,[],h0,λx a e=>(nomatch e),hs⟩ (λ_ _ _ _=>rfl)
  (by
   rintro i d e S' hd ⟨⟨z,rfl⟩,a1,Hc,a2,a3,a4⟩;rw[Aa]at hd
   cases hx:gs[i]? with
   | none=>rw[hx]at hd;cases hd
   | some g=>
    rw[hx]at hd;cases hd;have uv:=hg g (BE hx);obtain⟨hi,ex⟩:=AE.mp hx;rw[Jc hi,ex]at a4;unfold QT at a4;refine⟨e5 tN gs bits S.length (some (.int g)),S',rfl,?_⟩;have qw:=dD (tN:=tN) (hN:=S.length) (gs:=gs) (bits:=bits) (S:=S') uv.1
    cases c:hb bits g with
    | true=>
     rw[c]at qw;rw[qX c]at a4;obtain⟨H',e1,e2⟩:=Av a4;obtain⟨hl,rfl⟩:=KC e1;have dp:=P1 (mo:=AD 3) (mi:=AD 4) (mv:=AD 4) (e:=e5 tN gs bits S.length (some (.int g))) (k:=g) (v:=g) rfl rfl rfl a2 hl;refine⟨_,_,(Gw qw).trans ((qX rfl).trans dp),⟨_,rfl⟩,a1.set (AK _) _,_,Ai (BG a2),λx a e=>?_,e2⟩;rw[Cg]at e;split at e
     ·cases e;exact uv
     ·exact a3 x a e
    | false=>
     rw[c]at qw;rw[qY (by rw[c];exact AI)]at a4
     exact⟨_,S',(Gw qw).trans rfl,⟨_,rfl⟩,a1,Hc,a2,a3,a4⟩)
  (by
   rintro e S' ⟨⟨z,rfl⟩,a1,Hc,a2,a3,a4⟩;rw[AC,Gp (AK _)]at a4;cases a4
   exact⟨⟨z,rfl⟩,a1,a2,a3⟩)
 obtain⟨f,S2,p1,p2,p3⟩:=LV (v:=Gs (gs.map D.int)) (g:=tgN 4) (b:=bF2 W 9) (xs:=gs.map D.int) (e:=e5 tN gs bits S.length z1) (S:=S1)
  (λi e S'=>(∃z,e=e5 tN gs bits S.length z)/\Keeps S S'/\∃Hc,S'[S.length]?=some (oDK D.int Hc)/\(∀x a,Ag Hc x=some a->0<=a/\a < ξ.length)/\Qe (Tk ξ) bits 9 (gs.drop i) Hc=some b)
  (λf S'=>Keeps S S'/\((f=.rt (.bl false)/\b=false)∨((∃z,f=.nx (e5 tN gs bits S.length z))/\b=true)))
  ⟨⟨z1,rfl⟩,q2,Hf,q3,q4,hr⟩ (λ_ _ _ _=>rfl)
  (by
   rintro i d e S' hd ⟨⟨z,rfl⟩,a1,Hc,a2,a3,a4⟩;rw[Aa]at hd
   cases hx:gs[i]? with
   | none=>rw[hx]at hd;cases hd
   | some g=>
    rw[hx]at hd;cases hd;have uv:=hg g (BE hx);obtain⟨hi,ex⟩:=AE.mp hx;rw[Jc hi,ex]at a4;unfold Qe at a4;refine⟨e5 tN gs bits S.length (some (.int g)),S',rfl,?_⟩;have qw:=dD (tN:=tN) (hN:=S.length) (gs:=gs) (bits:=bits) (S:=S') uv.1
    cases c:hb bits g with
    | true=>
     rw[c]at qw;rw[qX c]at a4;exact⟨_,S',(Gw (YW (Ml qw))).trans rfl,⟨_,rfl⟩,a1,Hc,a2,a3,a4⟩
    | false=>
     rw[c]at qw;rw[qY (by rw[c];exact AI)]at a4;obtain⟨w,e1,e2⟩:=Av a4
     clear a4
     have hl:=BG a2;have b0:(S'++[Ob.dK []])[S'.length]?=some (oDK D.bl []):=FQ _ _;have kk:=Keeps.app S' [.dK []];have arg:AT (AD 0) (AT (AD 2) (AT (AD 3) (AT (AD 4) (AT IV BR)))) (e5 tN gs bits S.length (some (.int g))) S'=.ok [.ref tN,.int bits,.ref S.length,.int g,.ref S'.length] (S'++[.dK []]):=rfl;generalize S'++[Ob.dK []]=S4 at b0 kk arg;obtain⟨r1,r2⟩:=Yz W (bits:=bits) hT 9 Hc g [] w e1 uv a3;obtain⟨S5,r3,r4,r5,r6⟩:=r2 S4 tN S.length S'.length (kk.at (a1.at ht)) (kk.at a2) b0 (by lia);have sk:FO (oQ W 9) (e5 tN gs bits S.length (some (.int g))) S'=.ok w.1 S5:=nF ((KY (n:=5) arg rfl).trans r3)
     have kS:Keeps S S5:=⟨Aw (Aw a1.1 kk.1) r6.1,λj hj=>by
      have h4:j < S4.length:=AS hj (Aw a1.1 kk.1)
      rw[r6.2 j h4 (by lia) (by have:=a1.1;lia),kk.2 j (AS hj a1.1),a1.2 j hj]⟩
     cases hw:w.1 with
     | true=>
      rw[hw]at sk;rw[qX hw]at e2;exact⟨_,S5,(Gw ((UJ (Ml qw)).trans (Ml sk))).trans rfl,⟨_,rfl⟩,kS,w.2.1,r4,r1,e2⟩
     | false=>
      rw[hw]at sk;rw[qY (by rw[hw];exact AI)]at e2;cases e2
      exact⟨.rt (.bl false),S5,(Gw ((UJ (Ml qw)).trans (Ml sk))).trans rfl,kS,.inl ⟨rfl,rfl⟩⟩)
  (by
   rintro e S' ⟨⟨z,rfl⟩,a1,Hc,a2,a3,a4⟩;rw[AC,Gp (AK _)]at a4;cases a4
   exact⟨a1,.inr ⟨⟨z,rfl⟩,rfl⟩⟩)
 have it:∀z S',Eo (AD 1) (e5 tN gs bits S.length z) S'=.ok (Gs (gs.map D.int)) S':=λz S'=>Q0 (xs:=gs.map D.int) rfl
 have l1:=(JT (g:=tgN 4) (b:=bF1) (it none S0)).trans q1;have l2:=(JT (g:=tgN 4) (b:=bF2 W 9) (it z1 S1)).trans p1;refine⟨S2,LD (n:=5) (mb:=XM W) ?_,p2⟩;unfold XM
 rcases p3 with⟨rfl,rfl⟩ | ⟨⟨z,rfl⟩,rfl⟩
 ·exact(Bw s3).trans ((Bw l1).trans (TV l2))
 ·exact(Bw s3).trans ((Bw l1).trans ((Bw l2).trans rfl))
open Classical in
def Qk(ξ:List (List Int))(gs:List Int)(bits:Int):Option Bool:=if (∀t∈ξ,t.length<=1000/\∀x∈t,0<=x)/\∀g∈gs,0<=g/\g < ξ.length then SX (Tk ξ) bits 9 gs else none
theorem jU(W:Wd)(ξ:List (List Int))(gs:List Int)(bits:Int):VF (UC W) [.z (oL (eT D.int) ξ),.v (eT D.int gs),.v (D.int bits)] (rV D.bl) (Qk ξ gs bits):=λv hv S ds ha=>by
 unfold Qk at hv;split at hv
 ·rename_i hc
  match ds,ha with
  | [d1,d2,d3],⟨⟨n,h1,h2⟩,h3,h4,_⟩=>
   cases h1;cases h3;cases h4;obtain⟨S',h5,h6⟩:=gu W hc.1 hc.2 hv h2;exact⟨_,S',h5,h6,rfl⟩
 ·cases hv
def GN(CB:(List Int))(dP:Int):Option (Fw Int Unit):=
 BV (((some dP).bind λx1=>((some CB).bind λx3=>some (x3.length:Int)).bind λx2=>some (decide (x1 < x2))).bind λx7=>if x7=true then((some CB).bind λl4=>(some dP).bind λx5=>atI l4 x5).bind λx6=>some (.rt x6)else some (.nx ())) λ_=>(some (0:Int)).bind λqS=>some (.rt qS)
def Co(CB:(List Int))(dP:Int):Option Int:=Gm (GN CB dP)
theorem IE(W:Wd)(CB:(List Int))(dP:Int):VF (E7 W) [.v (eF CB),.v (D.int dP)] (rV D.int) (Co CB dP):=by
 refine Ek (n:=2) (b:=Ie W) (p:=GN CB dP) (B:=λ_=>[]) ?_;show VS [.v (eF CB),.v (D.int dP)] _ _ _ _;unfold Ie GN;exact(BK (Gr (B:=(λ(_:Unit)=>[.v (eF CB),.v (D.int dP)])) (Ha (iU (AQ rfl) (eJ (AQ rfl)))) (Dz (jP (AQ rfl) (AQ rfl))) (Gq (.refl _))) (λ_=>(Dz (CK rfl))))
def KB(Ht:Int):Option (Fw Bool Unit):=
 (((some Ht).bind λx1=>some true).bind λx4=>if x4=true then((some Ht).bind λx2=>some false).bind λx3=>some (!x3)else some false).bind λx5=>some (.rt x5)
def KH(Ht:Int):Option Bool:=Gm (KB Ht)
theorem TK(W:Wd)(Ht:Int):VF (KS W) [.v (D.int Ht)] (rV D.bl) (KH Ht):=by
 refine Ek (n:=1) (b:=KZ W) (p:=KB Ht) (B:=λ_=>[]) ?_;show VS [.v (D.int Ht)] _ _ _ _;unfold KZ KB;exact(Dz (TH (iV (T:="int") (AQ rfl) (λ_ _=>rfl) (by decide +kernel)) (eG (iV (T:="int") (AQ rfl) (λ_ _=>rfl) (by decide +kernel)))))
def LH(Cd:Int)(Ap:Int):Option (Fw (List (Int×Int)) Unit):=
 BV (((some Cd).bind λx1=>(some (0:Int)).bind λx2=>some (decide (x1=x2))).bind λuw=>if uw=true then((((some Ap).bind λx4=>(some (1:Int)).bind λx5=>some (x4 - x5)).bind Mf).bind λzW=>EV zW (λx6=>some true) (λx6=>(some x6).bind λqS=>((some x6).bind λx8=>(some (1:Int)).bind λx9=>some (x8+x9)).bind λzY=>some (qS,zY))).bind λsr=>some (.rt sr)else some (.nx ())) λ_=>BV (((some Cd).bind λrX=>(some (1:Int)).bind λux=>some (decide (rX=ux))).bind λzZ=>if zZ=true then(((some Ap).bind Mf).bind λA'=>EV A' (λrK=>some true) (λrK=>(some rK).bind λuy=>(((some rK).bind λrY=>(some (1:Int)).bind λvi=>some (rY+vi)).bind λuz=>(some Ap).bind λqy=>bo uz qy).bind λuA=>some (uy,uA))).bind λqT=>some (.rt qT)else some (.nx ())) λ_=>BV (((some Cd).bind λwg=>(some (2:Int)).bind λwj=>some (decide (wg=wj))).bind λvj=>if vj=true then(((some (1:Int)).bind λB'=>(some Ap).bind λwk=>Y8 B' wk).bind λwo=>EV wo (λqM=>some true) (λqM=>(some (0:Int)).bind λwt=>(some qM).bind λuB=>some (wt,uB))).bind λvk=>some (.rt vk)else some (.nx ())) λ_=>BV (((some []).bind Kr).bind λwu=>some (.nx wu)) λwz=>BV (((some Ap).bind Mf).bind λCs=>Fd Cs wz λ(yb:(List (Int×Int))) tK=>Fn (λyc=>yc) ((((some tK).bind Mf).bind λD'=>EV D' (λtL=>some true) (λtL=>(some tL).bind λE'=>(some tK).bind λuC=>some (E',uC))).bind λwA=>(Vl yb wA).bind λwB=>some (.nx wB))) λwC=>((some wC).bind λwD=>(some none).bind λG'=>((((some wC).bind λwF=>some (wF.length:Int)).bind λsH=>(((some Cd).bind λwG=>(some (3:Int)).bind λwH=>some (decide (wG=wH))).bind λJ'=>some (if J'=true then 1 else 0)).bind λwI=>gF sH wI).bind λwJ=>some (some wJ)).bind λMy=>some (OZ wD G' My)).bind λwK=>some (.rt wK)
def HS(Cd:Int)(Ap:Int):Option (List (Int×Int)):=Gm (LH Cd Ap)
theorem Um(W:Wd)(Cd:Int)(Ap:Int):VF (LY W) [.v (D.int Cd),.v (D.int Ap)] (rN (oL (eP D.int D.int))) (HS Cd Ap):=by
 refine Ek (n:=4) (b:=Li W) (p:=LH Cd Ap) (B:=λ_=>[]) ?_;show VS [.v (D.int Cd),.v (D.int Ap),.u,.u] _ _ _ _;unfold Li LH;exact(BK (Gr (B:=(λ(_:Unit)=>[.v (D.int Cd),.v (D.int Ap),.u,.u])) (Ha (GC Dy Fm (AQ rfl) (CK rfl))) (Iw (Dq (ED (VI.k (EE (Kz (AQ rfl) (CK rfl)))) (λx6=>HE) (λx6=>(Lr (AQ rfl) (ID (AQ rfl) (CK rfl))))))) (Gq (.refl _))) (λ_=>(BK (Gr (B:=(λ(_:Unit)=>[.v (D.int Cd),.v (D.int Ap),.u,.u])) (Ha (GC Dy Fm (AQ rfl) (CK rfl))) (Iw (Dq (ED (VI.k (EE (AQ rfl))) (λrK=>HE) (λrK=>(Lr (AQ rfl) (aL (ID (AQ rfl) (CK rfl)) (AQ rfl))))))) (Gq (.refl _))) (λ_=>(BK (Gr (B:=(λ(_:Unit)=>[.v (D.int Cd),.v (D.int Ap),.u,.u])) (Ha (GC Dy Fm (AQ rfl) (CK rfl))) (Iw (Dq (ED (VI.k (N3 (CK rfl) (AQ rfl))) (λqM=>HE) (λqM=>(Lr (CK rfl) (AQ rfl)))))) (Gq (.refl _))) (λ_=>(BK (Iv (Dq (HP IB))) (λwz=>(BK (G2 (s0:=wz) (B:=(λ(sJ:(List (Int×Int)))=>[.v (D.int Cd),.v (D.int Ap),.w 2 ((oL (eP D.int D.int)) sJ),.u])) (EE (AQ rfl)) Fg (.refl _) (λyb tK=>(EC (jI rfl (Dq (ED (VI.k (EE (AQ rfl))) (λtL=>HE) (λtL=>(Lr (AQ rfl) (AQ rfl))))) rfl) (λyc=>(.same (.same (.same (.drop .nil)))))))) (λwC=>(Iw (eM (Lq rfl) eA (dz (aK (Po (Lq rfl)) (WL (GC Dy Fm (AQ rfl) (CK rfl)))))))))))))))))
def Mh(Cd:Int)(Ap:Int)(Bl:Str):Option (Fw Int Unit):=
 BV ((((some Ap).bind λx3=>(some (1:Int)).bind λx4=>some (x3+x4)).bind λx5=>some (x5 / 2)).bind λx6=>some (.nx x6)) λv1=>BV (((some Cd).bind λx7=>(some (0:Int)).bind λx8=>some (decide (x7=x8))).bind λqS=>if qS=true then(some v1).bind λx9=>some (.rt x9)else some (.nx ())) λ_=>BV (((some Cd).bind λsr=>(some (1:Int)).bind λuw=>some (decide (sr=uw))).bind λwg=>if wg=true then((((((some Ap).bind λuD=>(some (2:Int)).bind λrX=>some (uD+rX)).bind λux=>some (ux / 3)).bind λrY=>((some v1).bind λrK=>(some []).bind λM'=>some (rK :: M')).bind λwL=>some (rY :: wL)).bind Kr).bind λU'=>((((some Bl).bind λuz=>(some ("one" : Str)).bind λqy=>some (decide (uz=qy))).bind λV'=>if V'=true then(some Ap).bind λuy=>(some (3:Int)).bind λuA=>some (decide (uA < uy))else some false).bind λqT=>some (if qT=true then 1 else 0)).bind λsu=>atI U' su).bind λvm=>some (.rt vm)else some (.nx ())) λ_=>BV (((some Cd).bind λwk=>(some (2:Int)).bind λqM=>some (decide (wk=qM))).bind λwG=>if wG=true then(((((some (2:Int)).bind λyd=>((some (1:Int)).bind λvk=>((some Ap).bind λuB=>(some (1:Int)).bind λW'=>some (uB - W')).bind λvj=>some (if vj > vk then vj else vk)).bind λye=>some (if ye < yd then ye else yd)).bind λtL=>(((some (1:Int)).bind λtK=>((some Ap).bind λwu=>(some (1:Int)).bind λY'=>some (wu - Y')).bind λsL=>some (if sL > tK then sL else tK)).bind λwA=>(some []).bind λwB=>some (wA :: wB)).bind λZ'=>some (tL :: Z')).bind Kr).bind λΑ=>(((some Bl).bind λuC=>(some ("one" : Str)).bind λΒ=>some (decide (uC=Β))).bind λΓ=>some (if Γ=true then 1 else 0)).bind λΔ=>atI Α Δ).bind λwF=>some (.rt wF)else some (.nx ())) λ_=>BV (((some Cd).bind λsH=>(some (3:Int)).bind λwI=>some (decide (sH=wI))).bind λΕ=>if Ε=true then(some (1:Int)).bind λwJ=>some (.rt wJ)else some (.nx ())) λ_=>(some Ap).bind λwK=>some (.rt wK)
def KI(Cd:Int)(Ap:Int)(Bl:Str):Option Int:=Gm (Mh Cd Ap Bl)
theorem WP(W:Wd)(Cd:Int)(Ap:Int)(Bl:Str):VF (Mo W) [.v (D.int Cd),.v (D.int Ap),.v (D.str Bl)] (rV D.int) (KI Cd Ap Bl):=by
 refine Ek (n:=4) (b:=Mt W) (p:=Mh Cd Ap Bl) (B:=λ_=>[]) ?_;show VS [.v (D.int Cd),.v (D.int Ap),.v (D.str Bl),.u] _ _ _ _;unfold Mt Mh;exact(BK (EB (ND rfl (ID (AQ rfl) (CK rfl)))) (λv1=>(BK (Gr (B:=(λ(_:Unit)=>[.v (D.int Cd),.v (D.int Ap),.v (D.str Bl),.v (D.int v1)])) (Ha (GC Dy Fm (AQ rfl) (CK rfl))) (Dz (AQ rfl)) (Gq (.refl _))) (λ_=>(BK (Gr (B:=(λ(_:Unit)=>[.v (D.int Cd),.v (D.int Ap),.v (D.str Bl),.v (D.int v1)])) (Ha (GC Dy Fm (AQ rfl) (CK rfl))) (Dz (G3 (MK (Dq (HP (Hq (ND rfl (ID (AQ rfl) (CK rfl))) (Hq (AQ rfl) IB))))) (WL (TH (GC P0 Tr (AQ rfl) (CK rfl)) (aO (AQ rfl) (CK rfl)))))) (Gq (.refl _))) (λ_=>(BK (Gr (B:=(λ(_:Unit)=>[.v (D.int Cd),.v (D.int Ap),.v (D.str Bl),.v (D.int v1)])) (Ha (GC Dy Fm (AQ rfl) (CK rfl))) (Dz (G3 (MK (Dq (HP (Hq (eI (CK rfl) (Xl (CK rfl) (Kz (AQ rfl) (CK rfl)))) (Hq (Xl (CK rfl) (Kz (AQ rfl) (CK rfl))) IB))))) (WL (GC P0 Tr (AQ rfl) (CK rfl))))) (Gq (.refl _))) (λ_=>(BK (Gr (B:=(λ(_:Unit)=>[.v (D.int Cd),.v (D.int Ap),.v (D.str Bl),.v (D.int v1)])) (Ha (GC Dy Fm (AQ rfl) (CK rfl))) (Dz (CK rfl)) (Gq (.refl _))) (λ_=>(Dz (AQ rfl))))))))))))
def Em(Ay:(Nat×List (Int×Int)))(By:Int):Option (Fw Unit Unit):=
 ((if decide ((0:Int)<=By)=true then some (decide (By < (Ay.1:Int)))else some false).bind λx5=>some (!x5)).bind λx6=>if x6=true then none else some (.nx ())
def GR(Ay:(Nat×List (Int×Int)))(By:Int):Option Unit:=bT (Em Ay By)
theorem NE(W:Wd)(Ay:(Nat×List (Int×Int)))(By:Int):VF (GZ W) [.z ((FJ W) Ay),.v (D.int By)] (rV eU) (GR Ay By):=by
 refine aI (n:=2) (b:=Gf W) (p:=Em Ay By) (B:=λ_=>[.z ((FJ W) Ay),.v (D.int By)]) ?_;show VS [.z ((FJ W) Ay),.v (D.int By)] _ _ _ _;unfold Gf Em;exact(Gr (B:=(λ(_:Unit)=>[.z ((FJ W) Ay),.v (D.int By)])) (aT (Ha (Ui c8 pK (CK rfl) (AQ rfl) (FG (DU rfl))))) TD (Gq (.refl _)))
def Td(Ay:(Nat×List (Int×Int)))(By:Int):Option (Fw (List Int) Unit):=
 BV ((GR Ay By).bind λ_=>some (.nx ())) λ_=>(atI (OO Ay.1 Ay.2) By).bind λx9=>some (.rt x9)
def Ti(Ay:(Nat×List (Int×Int)))(By:Int):Option (List Int):=Gm (Td Ay By)
theorem jT(W:Wd)(Ay:(Nat×List (Int×Int)))(By:Int):VF (XC W) [.z ((FJ W) Ay),.v (D.int By)] (rV (eT D.int)) (Ti Ay By):=by
 refine Ek (n:=2) (b:=XJ W) (p:=Td Ay By) (B:=λ_=>[]) ?_;show VS [.z ((FJ W) Ay),.v (D.int By)] _ _ _ _;unfold XJ Td;exact(BK (Xi (Ch (Rq (DU rfl) (EF (AQ rfl) Ci)) (λz5=>NE W z5.1 z5.2.1) (λ_=>rfl) E0)) (λ_=>(Dz (aN (eE (DU rfl)) (AQ rfl)))))
def KA(Ay:(Nat×List (Int×Int))):Option (Fw (List (List Int)) Unit):=
 (((some (Ay.1:Int)).bind Mf).bind λwM=>EV wM (λx2=>some true) (λx2=>(((some (x2 :: [])).bind Kr).bind λtw=>(Ti Ay x2).bind λuD=>Vl tw uD).bind λrX=>SY rX (Bt rX))).bind λrK=>some (.rt rK)
def KF(Ay:(Nat×List (Int×Int))):Option (List (List Int)):=Gm (KA Ay)
theorem WN(W:Wd)(Ay:(Nat×List (Int×Int))):VF (KR W) [.z ((FJ W) Ay)] (rN (oL (eT D.int))) (KF Ay):=by
 refine Ek (n:=1) (b:=Mr W) (p:=KA Ay) (B:=λ_=>[]) ?_;show VS [.z ((FJ W) Ay)] _ _ _ _;unfold Mr KA;exact(Iw (Dq (ED (VI.k (EE (FG (DU rfl)))) (λx2=>HE) (λx2=>(N4 (MK (SE (Xn (WJ (Hq (AQ rfl) IB)) (Ch (Rq (DU rfl) (EF (AQ rfl) Ci)) (λuE=>jT W uE.1 uE.2.1) (λ_=>rfl) E0)))))))))
def Lx(Kb:(List Int)):Option (Fw Int Unit):=
 BV (some (.nx (0:Int))) λv1=>BV (Fd Kb v1 λ(s3:Int) x4=>Fn (λv7=>v7) ((NI (1:Int) x4).bind λx8=>some (.nx (CJ s3 x8)))) λyf=>some (.rt yf)
def Fq(Kb:(List Int)):Option Int:=Gm (Lx Kb)
theorem Yo(W:Wd)(Kb:(List Int)):VF (OX W) [.v ((eT D.int) Kb)] (rV D.int) (Fq Kb):=by
 refine Ek (n:=3) (b:=Oe W) (p:=Lx Kb) (B:=λ_=>[]) ?_;show VS [.v ((eT D.int) Kb),.u,.u] _ _ _ _;unfold Oe Lx;exact(BK (EB (CK rfl)) (λv1=>(BK (G2 (s0:=v1) (B:=(λ(uF:Int)=>[.v ((eT D.int) Kb),.v (D.int uF),.u])) (QH (AQ rfl)) Fg (.refl _) (λs3 x4=>(EC (N2 rfl (N5 (CK rfl) (AQ rfl))) (λv7=>(.same (.same (.drop .nil))))))) (λyf=>(Dz (AQ rfl))))))
def Lv(Kc:Int):Option (Fw (List Int) Unit):=
 BV (((some []).bind Kr).bind λx2=>some (.nx x2)) λv1=>BV (some (.nx Kc)) λv3=>BV (whF (λ(s5:(List Int)×Int)=>some (s5.2 != 0)) (λ(s5:(List Int)×Int)=>BV ((Zt s5.1 ((DG (BU s5.2 (-s5.2)):Int) - (1:Int))).bind λΖ=>some (.nx Ζ)) λv8=>Fn (λyg=>(v8,yg)) (some (.nx (BU s5.2 (s5.2 - (1:Int)))))) wN (v1,v3)) λs6=>some (.rt s6.1)
def Jm(Kc:Int):Option (List Int):=Gm (Lv Kc)
theorem SG(W:Wd)(Kc:Int):VF (L5 W) [.v (D.int Kc)] (rN (oL D.int)) (Jm Kc):=by
 refine Ek (n:=3) (b:=Oc W) (p:=Lv Kc) (B:=λ_=>[]) ?_;show VS [.v (D.int Kc),.u,.u] _ _ _ _;unfold Oc Lv;exact(BK (Iv (Dq (HP IB))) (λv1=>(BK (EB (AQ rfl)) (λv3=>(BK (Ud (s0:=(v1,v3)) (B:=(λ(qL:(List Int)×Int)=>[.v (D.int Kc),.w 1 ((oL D.int) qL.1),.v (D.int qL.2)])) (.refl _) (λs5=>(Xp (AQ rfl))) (λs5=>(BK (aF rfl (Kz (eN (Pp (AQ rfl) (aJ (AQ rfl)))) (CK rfl)) rfl) (λv8=>(EC (N2 rfl (Kz (AQ rfl) (CK rfl))) (λyg=>(.refl _))))))) (λs6=>(TC rfl)))))))
def JA(FA:(List Int))(JG:Int)(By:Int):Option (Fw (List Int) Unit):=
 (EV FA (λx1=>some true) (λx1=>if (decide (x1=JG))=true then some By else some x1)).bind λx6=>some (.rt x6)
def JB(FA:(List Int))(JG:Int)(By:Int):Option (List Int):=Gm (JA FA JG By)
theorem Uk(W:Wd)(FA:(List Int))(JG:Int)(By:Int):VF (LX W) [.v ((eT D.int) FA),.v (D.int JG),.v (D.int By)] (rV (eT D.int)) (JB FA JG By):=by
 refine Ek (n:=3) (b:=Ld W) (p:=JA FA JG By) (B:=λ_=>[]) ?_;show VS [.v ((eT D.int) FA),.v (D.int JG),.v (D.int By)] _ _ _ _;unfold Ld JA;exact(Dz (N4 (MK (Dq (ED (VI.k (QH (AQ rfl))) (λx1=>HE) (λx1=>(WK (Ha (GC Dy Fm (AQ rfl) (AQ rfl))) (AQ rfl) (AQ rfl) E0)))))))
def OH(Ap:Int)(Dr:Int):Option (Fw (List (List Int)) Unit):=
 BV (((((some []).bind Kr).bind λx2=>some (x2 :: [])).bind Kr).bind λx4=>some (.nx x4)) λv1=>BV (((some Dr).bind Mf).bind λΗ=>Fd Η v1 λ(s5:(List (List Int))) x6=>BV (((some []).bind Kr).bind λx8=>some (.nx x8)) λv7=>BV (Fd s5 v7 λ(s9:(List (List Int))) qS=>BV ((if (!qS.isEmpty)=true then(atI qS (-(1:Int))).bind λrX=>some (rX+(1:Int))else some (0:Int)).bind λuG=>some (.nx uG)) λv11=>Fn (λyh=>yh) ((Y8 v11 (((Ap - Dr)+x6)+(1:Int))).bind λwo=>Fd wo s9 λ(uH:(List (List Int))) vm=>Fn (λyi=>yi) ((((some (vm :: [])).bind Kr).bind λuB=>Vl qS uB).bind λwj=>(Zt uH wj).bind λtx=>some (.nx tx)))) λyj=>Fn (λ_=>yj) (some (.nx ()))) λyk=>some (.rt yk)
def OI(Ap:Int)(Dr:Int):Option (List (List Int)):=Gm (OH Ap Dr)
theorem Ym(W:Wd)(Ap:Int)(Dr:Int):VF (OV W) [.v (D.int Ap),.v (D.int Dr)] (rN (oL (eT D.int))) (OI Ap Dr):=by
 refine Ek (n:=8) (b:=Oa W) (p:=OH Ap Dr) (B:=λ_=>[]) ?_;show VS [.v (D.int Ap),.v (D.int Dr),.u,.u,.u,.u,.u,.u] _ _ _ _;unfold Oa OH;exact(BK (TB (Dq (HP (Hq (WJ IB) IB)))) (λv1=>(BK (G2 (s0:=v1) (B:=(λ(Θ:(List (List Int)))=>[.v (D.int Ap),.v (D.int Dr),.y ((oL (eT D.int)) Θ),.u,.u,.u,.u,.u])) (EE (AQ rfl)) Fg (.refl _) (λs5 x6=>(BK (Iv (Dq (HP IB))) (λv7=>(BK (G2 (s0:=v7) (B:=(λ(Ι:(List (List Int)))=>[.v (D.int Ap),.v (D.int Dr),.y ((oL (eT D.int)) s5),.v (D.int x6),.w 4 ((oL (eT D.int)) Ι),.u,.u,.u])) (eC rfl) Fg (.refl _) (λs9 qS=>(BK (EB (WK (eO (AQ rfl)) (ID (aN (AQ rfl) (aJ (CK rfl))) (CK rfl)) (CK rfl) E0)) (λv11=>(EC (G2 (s0:=s9) (B:=(λ(Κ:(List (List Int)))=>[.v (D.int Ap),.v (D.int Dr),.y ((oL (eT D.int)) s5),.v (D.int x6),.w 4 ((oL (eT D.int)) Κ),.v ((eT D.int) qS),.v (D.int v11),.u])) (N3 (AQ rfl) (ID (ID (Kz (AQ rfl) (AQ rfl)) (AQ rfl)) (CK rfl))) Fg (.refl _) (λuH vm=>(EC (aF rfl (Xn (AQ rfl) (WJ (Hq (AQ rfl) IB))) rfl) (λyi=>(.same (.same (.same (.same (.same (.same (.same (.drop .nil)))))))))))) (λyh=>(.same (.same (.same (.same (.same (.drop (.drop (.same .nil)))))))))))))) (λyj=>(EC (jH 4 rfl rfl (Yk rfl)) (λ_=>(.same (.same (.same (.drop (.drop (.same (.same (.same .nil)))))))))))))))) (λyk=>(dv rfl)))))
def G5(Ap:Int)(Dr:Int):Option (Fw Int Unit):=
 BV (some (.nx (1:Int))) λv1=>BV (((some Dr).bind Mf).bind λΛ=>Fd Λ v1 λ(s3:Int) x4=>Fn (λv5=>v5) (((gF s3 (Ap - x4)).bind λsr=>ca sr (x4+(1:Int))).bind λtw=>some (.nx tw))) λym=>some (.rt ym)
def Jl(Ap:Int)(Dr:Int):Option Int:=Gm (G5 Ap Dr)
theorem N6(W:Wd)(Ap:Int)(Dr:Int):VF (G9 W) [.v (D.int Ap),.v (D.int Dr)] (rV D.int) (Jl Ap Dr):=by
 refine Ek (n:=4) (b:=HA W) (p:=G5 Ap Dr) (B:=λ_=>[]) ?_;show VS [.v (D.int Ap),.v (D.int Dr),.u,.u] _ _ _ _;unfold HA G5;exact(BK (EB (CK rfl)) (λv1=>(BK (G2 (s0:=v1) (B:=(λ(Μ:Int)=>[.v (D.int Ap),.v (D.int Dr),.v (D.int Μ),.u])) (EE (AQ rfl)) Fg (.refl _) (λs3 x4=>(EC (EB (eL (aK (AQ rfl) (Kz (AQ rfl) (AQ rfl))) (ID (AQ rfl) (CK rfl)))) (λv5=>(.same (.same (.same (.drop .nil)))))))) (λym=>(Dz (AQ rfl))))))
def Mg(Ay:(Nat×List (Int×Int)))(Be:Int):Option (Fw Int Unit):=
 BV (((if decide ((1:Int)<=Be)=true then some (decide (Be<=(Ay.1:Int)))else some false).bind λx5=>some (!x5)).bind λx6=>if x6=true then none else some (.nx ())) λ_=>(Jl (Ay.1:Int) Be).bind λtw=>some (.rt tw)
def Qj(Ay:(Nat×List (Int×Int)))(Be:Int):Option Int:=Gm (Mg Ay Be)
theorem WO(W:Wd)(Ay:(Nat×List (Int×Int)))(Be:Int):VF (Mn W) [.z ((FJ W) Ay),.v (D.int Be)] (rV D.int) (Qj Ay Be):=by
 refine Ek (n:=2) (b:=Ms W) (p:=Mg Ay Be) (B:=λ_=>[]) ?_;show VS [.z ((FJ W) Ay),.v (D.int Be)] _ _ _ _;unfold Ms Mg;exact(BK (Gr (B:=(λ(_:Unit)=>[.z ((FJ W) Ay),.v (D.int Be)])) (aT (Ha (Ui c8 c8 (CK rfl) (AQ rfl) (FG (DU rfl))))) TD (Gq (.refl _))) (λ_=>(Dz (Ch (EF (FG (DU rfl)) (EF (AQ rfl) Ci)) (λuE=>N6 W uE.1 uE.2.1) (λ_=>rfl) E0))))
def LG(Ay:(Nat×List (Int×Int)))(Be:Int):Option (Fw (List (List Int)) Unit):=
 BV (((Qj Ay Be).bind λx1=>some (decide ((400:Int) < x1))).bind λx8=>if x8=true then none else some (.nx ())) λ_=>(OI (Ay.1:Int) Be).bind λrX=>some (.rt rX)
def E1(Ay:(Nat×List (Int×Int)))(Be:Int):Option (List (List Int)):=Gm (LG Ay Be)
theorem Ul(W:Wd)(Ay:(Nat×List (Int×Int)))(Be:Int):VF (JE W) [.z ((FJ W) Ay),.v (D.int Be)] (rN (oL (eT D.int))) (E1 Ay Be):=by
 refine Ek (n:=2) (b:=Lg W) (p:=LG Ay Be) (B:=λ_=>[]) ?_;show VS [.z ((FJ W) Ay),.v (D.int Be)] _ _ _ _;unfold Lg LG;exact(BK (Gr (B:=(λ(_:Unit)=>[.z ((FJ W) Ay),.v (D.int Be)])) (Ha (aO (Ch (Rq (DU rfl) (EF (AQ rfl) Ci)) (λz7=>WO W z7.1 z7.2.1) (λ_=>rfl) E0) (CK rfl))) TD (Gq (.refl _))) (λ_=>(Iw (Ch (EF (FG (DU rfl)) (EF (AQ rfl) Ci)) (λtM=>Ym W tM.1 tM.2.1) (λ_=>rfl) NN))))
structure Fp where
 ev:List (List Int)
 kd:Str
 tk:List (List Int)
 nu:List (List Int×Int)
 hv:List Int
 pb:List Int
abbrev fdF(a b c h k m:Nat)(kd:Str):List (Str×D):=[("everything",.ref a),("kind",.str kd),("takes",.ref b),("numbers",.ref c),("having",.ref h),("place_bits",.ref k),("known",.ref m)]
def Vw(W:Wd)(f:Fp)(L:Nat->Option Ob)(q m:Nat):Prop:=∃a b c h k,L q=some (.ins W.Field (fdF a b c h k m f.kd))/\L a=some (oL (eT D.int) f.ev)/\L b=some (oL (eT D.int) f.tk)/\L c=some (oDR D.int f.nu)/\L h=some (oL D.int f.hv)/\L k=some (oL D.int f.pb)
def HB(W:Wd)(f:Fp)(L:Nat->Option Ob)(d:D):Prop:=∃q m,d=.ref q/\Vw W f L q m
section
variable{W:Wd}{f:Fp}{P P':Pq}{C:AU}{x:Str}{d:D}{o:Ob}
theorem AtO.of(h:∀L d,P L d->P' L d)(z:AtO P' C x o):AtO P C x o:=λL d q=>z L d (h L d q)
theorem AtN.of(h:∀L d,P L d->P' L d)(z:AtN P' C x):AtN P C x:=λL d q=>z L d (h L d q)
theorem gn:AtV (HB W f) W.Field "kind" (D.str f.kd):=λL d ⟨q,m,e,a,b,c,h,k,g,_⟩=>⟨q,_,e,g,rfl⟩
theorem HJ:AtO (HB W f) W.Field "everything" (oL (eT D.int) f.ev):=λL d ⟨q,m,e,a,b,c,h,k,g,g1,_⟩=>⟨q,_,a,e,g,rfl,g1⟩
theorem RC:AtO (HB W f) W.Field "takes" (oL (eT D.int) f.tk):=λL d ⟨q,m,e,a,b,c,h,k,g,g1,g2,_⟩=>⟨q,_,b,e,g,rfl,g2⟩
theorem XA:AtO (HB W f) W.Field "numbers" (oDR D.int f.nu):=λL d ⟨q,m,e,a,b,c,h,k,g,g1,g2,g3,_⟩=>⟨q,_,c,e,g,rfl,g3⟩
theorem Zc:AtO (HB W f) W.Field "having" (oL D.int f.hv):=λL d ⟨q,m,e,a,b,c,h,k,g,g1,g2,g3,g4,_⟩=>⟨q,_,h,e,g,rfl,g4⟩
theorem R6:AtO (HB W f) W.Field "place_bits" (oL D.int f.pb):=λL d ⟨q,m,e,a,b,c,h,k,g,g1,g2,g3,g4,g5⟩=>⟨q,_,k,e,g,rfl,g5⟩
theorem cW(hx:∀a b c h k m kd,(fdF a b c h k m kd).lookup x=none):AtN (HB W f) W.Field x:=λL d ⟨q,m,e,a,b,c,h,k,g,_⟩=>⟨q,_,e,g,hx ..⟩
end
def HH(Bd:Fp)(BH:Int):Option (Fw (List Int) Unit):=
 BV ((atI Bd.ev BH).bind λx4=>some (.nx x4)) λv1=>(((some (Bd.tk.length:Int)).bind Mf).bind λl9=>EV l9 (λx6=>some (!decide (x6∈v1))) (λx6=>some x6)).bind λqS=>some (.rt qS)
def FZ(Bd:Fp)(BH:Int):Option (List Int):=Gm (HH Bd BH)
theorem Rr(W:Wd)(Bd:Fp)(BH:Int):VF (JV W) [.q (HB W Bd),.v (D.int BH)] (rN (oL D.int)) (FZ Bd BH):=by
 refine Ek (n:=3) (b:=Ja W) (p:=HH Bd BH) (B:=λ_=>[]) ?_;show VS [.q (HB W Bd),.v (D.int BH),.u] _ _ _ _;unfold Ja HH;exact(BK (EB (G3 (GD HJ rfl) (AQ rfl))) (λv1=>(Iw (Dq (ED (VI.k (EE (Po (GD RC rfl)))) (λx6=>(Ha (Xk Dy (AQ rfl) (AQ rfl)))) (λx6=>(AQ rfl)))))))
def Dg(Bd:Fp)(BH:Int):Option (Fw Int Unit):=
 BV ((atI Bd.ev BH).bind λx4=>some (.nx x4)) λv1=>BV (some (.nx (0:Int))) λv5=>BV (Fd v1 v5 λ(s7:Int) x8=>Fn (λvn=>vn) ((atI Bd.tk x8).bind λsv=>Fd sv s7 λ(uF:Int) rZ=>Fn (λuH=>uH) (if (!decide (rZ∈v1))=true then Fn (λrq=>rq) (((((JB v1 x8 rZ).bind λvi=>SY vi (Bt vi)).bind λqy=>Ag Bd.nu qy).bind λuA=>NI (1:Int) uA).bind λqT=>some (.nx (CJ uF qT)))else some (.nx uF)))) λvp=>some (.rt vp)
def Di(Bd:Fp)(BH:Int):Option Int:=Gm (Dg Bd BH)
theorem Gu(W:Wd)(Bd:Fp)(BH:Int):VF (Cw W) [.q (HB W Bd),.v (D.int BH)] (rV D.int) (Di Bd BH):=by
 refine Ek (n:=6) (b:=Ef W) (p:=Dg Bd BH) (B:=λ_=>[]) ?_;show VS [.q (HB W Bd),.v (D.int BH),.u,.u,.u,.u] _ _ _ _;unfold Ef Dg;exact(BK (EB (G3 (GD HJ rfl) (AQ rfl))) (λv1=>(BK (EB (CK rfl)) (λv5=>(BK (G2 (s0:=v5) (B:=(λ(Ν:Int)=>[.q (HB W Bd),.v (D.int BH),.v ((eT D.int) v1),.v (D.int Ν),.u,.u])) (QH (AQ rfl)) Fg (.refl _) (λs7 x8=>(EC (G2 (s0:=s7) (B:=(λ(Ξ:Int)=>[.q (HB W Bd),.v (D.int BH),.v ((eT D.int) v1),.v (D.int Ξ),.v (D.int x8),.u])) (QH (G3 (GD RC rfl) (AQ rfl))) Fg (.refl _) (λuF rZ=>(EC (Gr (B:=(λ(Ο:Int)=>[.q (HB W Bd),.v (D.int BH),.v ((eT D.int) v1),.v (D.int Ο),.v (D.int x8),.v (D.int rZ)])) (Ha (Xk Dy (AQ rfl) (AQ rfl))) (EC (N2 rfl (N5 (CK rfl) (aP (GD XA rfl) (N4 (MK (SE (Ch (EF (AQ rfl) (EF (AQ rfl) (EF (AQ rfl) Ci))) (λwO=>Uk W wO.1 wO.2.1 wO.2.2.1) (λ_=>rfl) E0))))))) (λrq=>(.refl _))) (Gq (.refl _))) (λuH=>(.same (.same (.same (.same (.same (.drop .nil)))))))))) (λvn=>(.same (.same (.same (.same (.drop (.same .nil)))))))))) (λvp=>(Dz (AQ rfl))))))))
def Dh(Bd:Fp)(BH:Int):Option (Fw Int Unit):=
 BV ((atI Bd.ev BH).bind λx4=>some (.nx x4)) λv1=>BV (some (.nx (0:Int))) λv5=>BV (Fd (C0 Bd.pb) v5 λ(s8:Int) x9=>Fn (λyn=>yn) ((Qk Bd.tk v1 x9.2).bind λrY=>if rY=true then Fn (λyo=>yo) ((NI (1:Int) x9.1).bind λuG=>some (.nx (CJ s8 uG)))else some (.nx s8))) λsd=>some (.rt sd)
def Dj(Bd:Fp)(BH:Int):Option Int:=Gm (Dh Bd BH)
theorem Gv(W:Wd)(Bd:Fp)(BH:Int):VF (Cy W) [.q (HB W Bd),.v (D.int BH)] (rV D.int) (Dj Bd BH):=by
 refine Ek (n:=6) (b:=Eg W) (p:=Dh Bd BH) (B:=λ_=>[]) ?_;show VS [.q (HB W Bd),.v (D.int BH),.u,.u,.u,.u] _ _ _ _;unfold Eg Dh;exact(BK (EB (G3 (GD HJ rfl) (AQ rfl))) (λv1=>(BK (EB (CK rfl)) (λv5=>(BK (G2 (s0:=v5) (B:=(λ(wQ:Int)=>[.q (HB W Bd),.v (D.int BH),.v ((eT D.int) v1),.v (D.int wQ),.u,.u])) (eD R6 rfl) dr (.refl _) (λs8 x9=>(EC (Gr (B:=(λ(qL:Int)=>[.q (HB W Bd),.v (D.int BH),.v ((eT D.int) v1),.v (D.int qL),.v (D.int x9.1),.v (D.int x9.2)])) (jS (Ch (Rq (GD RC rfl) (EF (AQ rfl) (EF (AQ rfl) Ci))) (λtM=>jU W tM.1 tM.2.1 tM.2.2.1) (λ_=>rfl) E0)) (EC (N2 rfl (N5 (CK rfl) (AQ rfl))) (λyo=>(.refl _))) (Gq (.refl _))) (λyn=>(.same (.same (.same (.same (.drop (.drop .nil)))))))))) (λsd=>(Dz (AQ rfl))))))))
def KG(f:Fp)(n:Int):Option Int:=if decide (f.kd = "one")=true then Di f n else Dj f n
def Ei(W:Wd)(f:Fp)(L:Nat->Option Ob)(d:D):Prop:=∃q m lk,d=.ref q/\Vw W f L q m/\L m=some (.mem lk)/\∀n z:Int,0<=n->n < 1000->KG f n=some z->lk (.inl n)=z
section
variable{W:Wd}{f:Fp}{x:Str}{L L':Nat->Option Ob}{qn m:Nat}
theorem Ei.q:∀L d,Ei W f L d->HB W f L d:=λL d ⟨q,m,lk,e,h,_⟩=>⟨q,m,e,h⟩
theorem JS:AtO (Ei W f) W.Field "everything" (oL (eT D.int) f.ev):=AtO.of Ei.q HJ
theorem Zd:AtO (Ei W f) W.Field "having" (oL D.int f.hv):=AtO.of Ei.q Zc
theorem cX(hx:∀a b c h k m kd,(fdF a b c h k m kd).lookup x=none):AtN (Ei W f) W.Field x:=AtN.of Ei.q (cW hx)
theorem Vw.mono(h:∀n o,L n=some o->L' n=some o):Vw W f L qn m->Vw W f L' qn m:=λ⟨a,b,c,d,k,g0,g1,g2,g3,g4,g5⟩=>⟨a,b,c,d,k,h _ _ g0,h _ _ g1,h _ _ g2,h _ _ g3,h _ _ g4,h _ _ g5⟩
end
abbrev Wz(W:Wd):ME:=VZ (mB (m2 (eqD false) (DJ W.Field "kind" (AD 0)) (mC (.str "one")))) (LP W.Field "linked_by_one" 2 (Cw W) (AD 0) (AT (AD 1) BR)) (LP W.Field "linked_by_all" 2 (Cy W) (AD 0) (AT (AD 1) BR))
theorem aM(W:Wd)(f:Fp)(n:Int):VE [.q (HB W f),.v (D.int n)] (Wz W) (rV D.int) (KG f n):=
 WK (Ha (GC P0 Tr (jR gn rfl) (CK rfl)))
  (NC (Pf:=HB W) (Pg:=HB W) (cW λ_ _ _ _ _ _ _=>rfl) (λ_ _ h=>h) rfl (EF (AQ rfl) Ci) (λz=>Gu W f z.1) (λ_=>rfl) E0)
  (NC (Pf:=HB W) (Pg:=HB W) (cW λ_ _ _ _ _ _ _=>rfl) (λ_ _ h=>h) rfl (EF (AQ rfl) Ci) (λz=>Gv W f z.1) (λ_=>rfl) E0) E0
def E3(f:Fp)(n:Int):Option Int:=if 0<=n/\n < 1000 then KG f n else none
theorem eQ{κ α:Type}[DecidableEq κ]{l:List (κ×α)}{k:κ}{v:α}(h:Ag l k=some v):(k,v)∈l:=by
 unfold Ag at h
 cases hf:l.find? λkv=>decide (kv.1=k)with
 | none=>rw[hf]at h;cases h
 | some x=>
  rw[hf]at h;cases h
  have h1:x.1=k:=by have:=di hf;exact of_decide_eq_true this
  subst h1;exact Sy hf
theorem W0{W:Wd}{f:Fp}{n z:Int}{S:Sto}{q m:Nat}{lk:Key->Int}(u9:0<=n)(sG:n < 1000)(hz:KG f n=some z)(hl:lk (.inl n)=z)(hC:Vw W f (λk=>S[k]?) q m)(hm:S[m]?=some (.mem lk)):ir (Hi W) [.ref q,.int n] S m lk z:=by
 intro f' hk;obtain⟨a,b,c,h,k,g0,g1,g2,g3,g4,g5⟩:=hC
 have ne:∀j o,S[j]?=some o->o≠Ob.mem lk->j≠m:=λj o h1 h2 e=>by
  subst e;rw[hm]at h1;cases h1;exact h2 rfl
 have sM:(S.set m (.dK f'))[m]?=some (.dK f'):=Ai (BG hm)
 have tO:∀j o,S[j]?=some o->o≠Ob.mem lk->(S.set m (.dK f'))[j]?=some o:=λj o h1 h2=>by rw[AY (CF (ne j o h1 h2))];exact h1
 have rW:=tO q _ g0 (λz=>nomatch z);have C1:Vw W f (λk=>(S.set m (.dK f'))[k]?) q m:=⟨a,b,c,h,k,rW,tO a _ g1 (λz=>nomatch z),tO b _ g2 (λz=>nomatch z),tO c _ g3 (λz=>nomatch z),tO h _ g4 (λz=>nomatch z),tO k _ g5 (λz=>nomatch z)⟩
 have st:∀j,j < S.length->j≠m->(S.set m (.dK f'))[j]?=S[j]?:=λj _ hj=>AY (CF hj)
 generalize hS1:S.set m (.dK f')=S1 at sM rW C1 st
 have fk:∀S2:Sto,S2[q]?=some (.ins W.Field (fdF a b c h k m f.kd))->DJ W.Field "known" (AD 0) [sR q,sI n] S2=.ok (.ref m) S2:=λS2 h2=>JU (n:=q) (by rfl) h2 rfl
 have sq:∀(S2:Sto) l,S2[m]?=some (.dK l)->GF (.ref m) S2=none:=λS2 l h2=>by unfold GF;dsimp only;rw[h2];try rfl
 have dg:∀(S2:Sto) l,S2[m]?=some (.dK l)->MD (.ref m) (.int n) S2=some (Ag l (.inl n)):=λS2 l h2=>by unfold MD;dsimp only;rw[h2];try rfl
 have qw:mB (m2 (inA true) (AD 1) (DJ W.Field "known" (AD 0))) [sR q,sI n] S1=.ok (!(Ag f' (.inl n)).isSome) S1:=
  UO (En (x:=.int n) (S1:=S1) (by rfl) (fk S1 rW) (XE (sq S1 f' sM) (dg S1 f' sM) true))
 cases hv:Ag f' (.inl n)with
 | some d=>
  have hd:d=.int z:=by rw[<-hl];exact(hk.2 _ (eQ hv)).2
  subst hd;rw[hv]at qw;refine⟨S1,f',?_,sM,hk,st⟩;refine _root_.M.LD ?_;unfold Ig;refine HD (Bw (e1:=[sR q,sI n]) (S1:=S1) (HD (Gw qw) rfl)) ?_;exact LF (En (fk S1 rW) (y:=.int n) (by rfl) (RL (sq S1 f' sM) (by rw[dg S1 f' sM,hv])))
 | none=>
  rw[hv]at qw;have hQ:Kk S1 [.q (HB W f),.v (D.int n)] [.ref q,.int n]:=⟨λL hL=>⟨q,m,rfl,C1.mono hL⟩,rfl,trivial⟩;obtain⟨d,S2,hE,kS,rfl⟩:=aM W f n z hz S1 _ _ S1 (Vs.start (n:=2) hQ);have p9:=kS.at sM;have yp:=kS.at rW
  have hlen:f'.length < sizeLine:=by
   have h1:=IU hk.1 (k:=Ts) λx hx=>by
    obtain⟨y,hy,rfl⟩:=Al.mp hx;exact(hk.2 y hy).1
   rw[AC]at h1
   have h2:Ts.length=1000:=by unfold Ts;rw[AC,Z8]
   rw[h2]at h1;exact ZP (At h1 (by decide))
  have nk:DR n∉f'.map (·.1):=λhx=>by
   have:=(Cn f' (.inl n)).mpr hx;rw[hv]at this;cases this
  have pe:Bz f' (.inl n) (D.int z)=f'++[(.inl n,D.int z)]:=by
   unfold Bz;rw[qY];intro c;obtain⟨y,hy,h2⟩:=B9.mp c;exact nk (Al.mpr ⟨y,hy,of_decide_eq_true h2⟩)
  have Ρ:iJ lk (f'++[(.inl n,D.int z)]):=by
   refine⟨?_,λx hx=>?_⟩
   ·rw[Cf]
    exact Ev.mpr ⟨hk.1,(BM.mpr ⟨EJ,Dk⟩),λx hx y hy=>by
     rw[Ah.mp hy];intro e;subst e
     exact nk hx⟩
   ·rcases BI.mp hx with h1 | h1
    ·exact hk.2 x h1
    ·rw[Ah.mp h1]
     refine⟨?_,by rw[hl]⟩;unfold Ts;exact Al.mpr ⟨n.toNat,Iq.mpr (by lia),by show DR ((n.toNat:Nat):Int)=_;rw[BD u9]⟩
  have rl:Cv (DJ W.Field "known" (AD 0)) (AD 1) (Wz W) [sR q,sI n] S1=oN [sR q,sI n] (S2.set m (.dK (f'++[(.inl n,D.int z)]))):=by
   unfold Cv;rw[show Wz W [sR q,sI n] S1=.ok (.int z) S2 from hE];dsimp only[Res.lift];rw[fk S2 yp];dsimp only;rw[show AD 1 [sR q,sI n] S2=.ok (.int n) S2 from rfl];dsimp only
   rw[show Pc (.ref m) (.int n) (.int z) S2=some (S2.set m (.dK (f'++[(.inl n,D.int z)]))) by
    unfold Pc;dsimp only;rw[p9];show(if f'.length < sizeLine then some (S2.set m (.dK (Bz f' (DR n) (D.int z))))else none)=_
    rw[qX hlen,pe]]
  have uI:(S2.set m (.dK (f'++[(.inl n,D.int z)])))[m]?=some (.dK (f'++[(.inl n,D.int z)])):=Ai (BG p9)
  have tq:(S2.set m (.dK (f'++[(.inl n,D.int z)])))[q]?=some (.ins W.Field (fdF a b c h k m f.kd)):=by
   rw[AY]
   ·exact yp
   ·intro e
    subst e;rw[sM]at rW;cases rW
  have se:∀j,j < S.length->j≠m->(S2.set m (.dK (f'++[(.inl n,D.int z)])))[j]?=S[j]?:=λj hj qp=>by
   rw[AY (CF qp),kS.2 j (by rw[<-hS1,DS];exact hj)];exact st j hj qp
  refine⟨_,f'++[(.inl n,D.int z)],?_,uI,Ρ,se⟩;refine LD ?_;unfold Ig;refine HD (Bw (e1:=[sR q,sI n]) (HD (Gw qw) rl)) ?_;refine LF (En (fk _ tq) (y:=.int n) (by rfl) (RL (sq _ _ uI) ?_));rw[dg _ _ uI,<-pe,Cg,qX rfl]
theorem QO(W:Wd)(f:Fp)(n:Int):VF (Gc W) [.q (Ei W f),.v (D.int n)] (rV D.int) (E3 f n):=λz hz S ds ha=>by
 match ds,ha with
 | [d,x],⟨h1,h2,_⟩=>
  cases h2
  obtain⟨q,m,lk,rfl,hC,hm,xP⟩:=h1 (λk=>S[k]?) λ_ _ h=>h
  unfold E3 at hz;split at hz
  ·rename_i hn
   have key:=W0 hn.1 hn.2 hz (xP n z hn.1 hn.2 hz) hC hm;refine⟨.int z,S,?_,Keeps.refl S,rfl⟩;unfold Gc iH
   rw[show SS "known" [.ref q,.int n] S=some m by
    obtain⟨a,b,c,h,k,g0,_⟩:=hC;unfold SS;dsimp only;rw[show S[q]?=_ from g0]
    rfl]
   dsimp only;rw[show S[m]?=_ from hm];dsimp only;obtain⟨S0,k0,e0,_⟩:=key [] ⟨Dk,λ_ hx=>nomatch hx⟩;rw[e0];dsimp only;rw[qX key]
  ·cases hz
def nuS(l:List (List Int×Int))(x:Int×List Int):List (List Int×Int):=Bz l x.2 x.1
def hvP(k:Int)(h:List Int)(p:Int):List Int:=h.set p.toNat (CJ (h.getD p.toNat 0) (1 * 2 ^ k.toNat))
def hvS(h:List Int)(x:Int×List Int):List Int:=x.2.foldl (hvP x.1) h
def nuF(ev:List (List Int)):List (List Int×Int):=(C0 ev).foldl nuS []
def hv0(n:Nat):List Int:=(DI 0 n).map λ_=>0
def hvF(n:Nat)(ev:List (List Int)):List Int:=(C0 ev).foldl hvS (hv0 n)
def Ly(w:Nat×List (Int×Int))(g:Int)(kd:Str):Option Fp:=
 (E1 w g).bind λev=>(KF w).bind λtk=>(EV ev (λ_=>some true) Fq).bind λpb=>
  if ev.length<=1000/\w.1<=1000/\∀r∈ev,∀x∈r,0<=x/\x < (w.1:Int)then some ⟨ev,kd,tk,nuF ev,hvF w.1 ev,pb⟩else none
structure Fc(W:Wd)(S1:Sto)(fs:List (Str×D))(T:Sto):Prop where
 kp:Keeps S1 T
 at':T[S1.length]?=some (.ins W.Field fs)
section
variable{W:Wd}{S1 T T':Sto}{fs:List (Str×D)}{x:Str}{d:D}{e:Lo}{m:ME}{j:Nat}{o:Ob}
theorem Fc.put(h:Fc W S1 fs T)(k:Keeps T T'):Fc W S1 (Io x d fs) (T'.set S1.length (.ins W.Field (Io x d fs))):=⟨(h.kp.trans k).set (AK _) _,Ai (BG (k.at h.at'))⟩
theorem Fc.set(h:Fc W S1 fs T)(hj:S1.length < j):Fc W S1 fs (T.set j o):=⟨h.kp.set (Kx hj) _,by rw[AY (Ec hj)];exact h.at'⟩
theorem Fc.step(h:Fc W S1 fs T)(he:e[0]?=some (some (.ref S1.length)))(hm:m e T=.ok d T')(k:Keeps T T')(hl:fs.length < 1000):Iz W.Field x (AD 0) m e T=.ok (.nx e) (T'.set S1.length (.ins W.Field (Io x d fs))):=Ps hm (J2 he) (k.at h.at') hl
theorem El(h:T[j]?=some o)(hq:q < j):(T.set q o')[j]?=some o:=by rw[AY (BB hq)];exact h
theorem Vs.all(h:∀(i:Nat) (a:Sl),A[i]?=some a->∃x,e[i]?=some x/\a.ok T (Jq T) T x):Vs T A e (Jq T) T:=by
 refine⟨Keeps.refl T,λn o q=>?_,λn i q=>?_,λn hn=>by unfold Jq;rw[Bp hn],h⟩
 ·unfold Jq at q
  split at q
  ·rename_i o' ho;cases q;exact ho
  ·cases q
 ·unfold Jq at q
  split at q <;> cases q
theorem XQ(h:T[j]?=some o):Jq T j=.fz o:=by unfold Jq;rw[h]
theorem hZ(ho:mo e T=.ok (.ref n) T)(hi:mi e T=.ok (.int p) T)(hv:mv e T=.ok (.int y) T)(hn:T[n]?=some (.lst xs))(hp:0<=p)(hx:xs[p.toNat]?=some (.int z)):U0 g mo mi mv e T=.ok (.nx e) (T.set n (.lst (xs.set p.toNat (.int (g z y))))):=by
 have ha:atL (.ref n) T=some (n,xs):=by unfold atL;dsimp only;rw[hn]
 unfold U0;rw[ho];dsimp only[Res.lift];rw[hi];dsimp only;rw[ha];dsimp only;rw[qX hp,hx];dsimp only;rw[hv];dsimp only;rw[ha];dsimp only;rw[qX (AE.mp hx).1]
end
theorem Tx(k:Int):∀(r h:List Int),(r.foldl (hvP k) h).length=h.length
 | [],h=>rfl
 | p :: r,h=>by
  show(r.foldl (hvP k) (hvP k h p)).length=_;rw[Tx k r];exact DS
theorem cL:∀(l:List (Int×List Int)) (h:List Int),(l.foldl hvS h).length=h.length
 | [],h=>rfl
 | x :: l,h=>by
  show(l.foldl hvS (hvS h x)).length=_;rw[cL l];exact Tx _ _ _
theorem be:∀(l:List (Int×List Int)) (h:List (List Int×Int)),(l.foldl nuS h).length<=h.length+l.length
 | [],h=>AK _
 | x :: l,h=>by
  have h1:=be l (nuS h x)
  have h2:(nuS h x).length<=h.length+1:=by
   unfold nuS Bz;split
   ·rw[AC];exact MY _
   ·rw[As];exact AK _
  show(l.foldl nuS (nuS h x)).length<=_;rw[Aj]
  lia
theorem Zi(ev:List α)(i:Nat):(C0 ev)[i]?=(ev[i]?).map λr=>((i:Int),r):=by
 unfold C0;rw[Aa,Hl]
 cases ev[i]? <;> simp
abbrev eF7(q wn:Nat)(g:Int)(kd:Str)(a b c:Option D):Lo:=[sR q,sR wn,sI g,some (.str kd),a,b,c]
abbrev nlA(W:Wd):MS:=U0 (λa b=>CJ a b) (DJ W.Field "having" (AD 0)) (AD 6) (m2 O8 (mC (.int 1)) (AD 4))
abbrev nlB(W:Wd):MS:=BO (Cv (DJ W.Field "numbers" (AD 0)) (AD 5) (AD 4)) (Gk (Eo (AD 5)) (tgN 6) (nlA W))
abbrev nlG:MG:=Iy 2 (DL (tgN 4) (DL (tgN 5) Jk))
abbrev eF8(q wn:Nat)(g:Int)(kd:Str)(i:Nat)(r:List Int)(z:Option D):Lo:=eF7 q wn g kd (some (.int (i:Int))) (some (eT D.int r)) z
theorem VU(W:Wd)(hF:Fc W S1 fs T)(fa:fs.lookup ("everything" : Str)=some (.ref a)) (fc:fs.lookup ("numbers" : Str)=some (.ref c)) (fh:fs.lookup ("having" : Str)=some (.ref h)) (ha:S1.length < a) (vU:a < c) (rn:c < h) (Ta:T[a]?=some (oL (eT D.int) ev)) (Tc:T[c]?=some (oDR D.int ([]:List (List Int×Int)))) (Th:T[h]?=some (oL D.int (hv0 n))) (yq:ev.length<=1000) (hr:∀r∈ev,∀x∈r,0<=x/\x < (n:Int)) :
  ∃e4 e5 e6 T',Gk (LS (DJ W.Field "everything" (AD 0))) nlG (nlB W) (eF7 S1.length wn g kd none none none) T=.ok (.nx (eF7 S1.length wn g kd e4 e5 e6)) T' /\
   Fc W S1 fs T'/\T'[c]?=some (oDR D.int (nuF ev))/\T'[h]?=some (oL D.int (hvF n ev))/\∀j,j≠c->j≠h->T'[j]?=T[j]?:=by
 have hi:LS (DJ W.Field "everything" (AD 0)) (eF7 S1.length wn g kd none none none) T=.ok (Op (Ex (.ref a))) T:=by
  unfold LS;rw[JU (C:=W.Field) (f:="everything") (m:=AD 0) (n:=S1.length) (by rfl) hF.at' fa];dsimp only[Res.bind];rw[Dt Ta]
 have uJ:(hv0 n).length=n:=by unfold hv0;rw[AC,CA]
 obtain⟨f,T',h1,h2⟩:=LV (v:=Op (Ex (.ref a))) (g:=nlG) (b:=nlB W) (xs:=(C0 ev).map (eP D.int (eT D.int))) (e:=eF7 S1.length wn g kd none none none) (S:=T)
  (λi e S=>(∃e4 e5 e6,e=eF7 S1.length wn g kd e4 e5 e6)/\Fc W S1 fs S/\S[c]?=some (oDR D.int (((C0 ev).take i).foldl nuS []))/\S[h]?=some (oL D.int (((C0 ev).take i).foldl hvS (hv0 n)))/\∀j,j≠c->j≠h->S[j]?=T[j]?)
  (λf S=>∃e4 e5 e6,f=.nx (eF7 S1.length wn g kd e4 e5 e6)/\Fc W S1 fs S/\S[c]?=some (oDR D.int (nuF ev))/\S[h]?=some (oL D.int (hvF n ev))/\∀j,j≠c->j≠h->S[j]?=T[j]?)
  ⟨⟨_,_,_,rfl⟩,hF,Tc,Th,λ_ _ _=>rfl⟩
  (λi e S hI=>by
   obtain⟨_,_,_,_,h5⟩:=hI;unfold Op;rw[Dt (xs:=ev.map (eT D.int)) (show S[a]?=_ from(h5 a (by lia) (by lia)).trans Ta)]
   exact congrArg some (Sd ev))
  (λi d e S hd hI=>by
   obtain⟨⟨e4,e5,e6,rfl⟩,hS,Sc,Sh,So⟩:=hI;rw[Aa]at hd;obtain⟨⟨k,r⟩,hx,rfl⟩:=Gg.mp hd;have tj:=hx;rw[Zi]at tj;obtain⟨r0,yr,Τ⟩:=Gg.mp tj;cases Τ;have Υ:r∈ev:=BE yr;have rR:i < ev.length:=(AE.mp yr).1
   have tk:(C0 ev).take (i+1)=(C0 ev).take i++[((i:Int),r)]:=by
    rw[Jh,hx];rfl
   refine⟨eF8 S1.length wn g kd i r e6,S,rfl,?_⟩
   have hp:Cv (DJ W.Field "numbers" (AD 0)) (AD 5) (AD 4) (eF8 S1.length wn g kd i r e6) S=.ok (.nx (eF8 S1.length wn g kd i r e6)) (S.set c (oDR D.int (Bz (((C0 ev).take i).foldl nuS []) r (i:Int)))):=by
    unfold Cv;rw[show AD 4 (eF8 S1.length wn g kd i r e6) S=.ok (.int (i:Int)) S from rfl];dsimp only[Res.lift];rw[JU (C:=W.Field) (f:="numbers") (m:=AD 0) (n:=S1.length) (by rfl) hS.at' fc];dsimp only;rw[show AD 5 (eF8 S1.length wn g kd i r e6) S=.ok (eT D.int r) S from rfl];dsimp only
    rw[lW (enc:=D.int) _ r (i:Int) S c Sc (by
     have:=be ((C0 ev).take i) [];rw[EK]at this;show(((C0 ev).take i).foldl nuS []).length < _;have h0:([]:List (List Int×Int)).length=0:=rfl
     lia)]
   have yt:Fc W S1 fs (S.set c (oDR D.int (Bz (((C0 ev).take i).foldl nuS []) r (i:Int)))):=hS.set (by lia);have wR:(S.set c (oDR D.int (Bz (((C0 ev).take i).foldl nuS []) r (i:Int))))[h]?=some (oL D.int (((C0 ev).take i).foldl hvS (hv0 n))):=El Sh rn;have yu:(S.set c (oDR D.int (Bz (((C0 ev).take i).foldl nuS []) r (i:Int))))[c]?=some (oDR D.int (Bz (((C0 ev).take i).foldl nuS []) r (i:Int))):=Ai (BG Sc)
   have yw:∀j,j≠c->j≠h->(S.set c (oDR D.int (Bz (((C0 ev).take i).foldl nuS []) r (i:Int))))[j]?=T[j]?:=λj h1 h2=>by rw[AY (CF h1)];exact So j h1 h2
   generalize S.set c (oDR D.int (Bz (((C0 ev).take i).foldl nuS []) r (i:Int)))=S2 at hp yt wR yu yw;generalize hH:((C0 ev).take i).foldl hvS (hv0 n)=H at wR
   have Φ:H.length=n:=by rw[<-hH,cL,uJ]
   obtain⟨f,S3,q1,q2⟩:=LV (v:=Ex (eT D.int r)) (g:=tgN 6) (b:=nlA W) (xs:=r.map D.int) (e:=eF8 S1.length wn g kd i r e6) (S:=S2)
    (λj e S=>(∃z,e=eF8 S1.length wn g kd i r z)/\Fc W S1 fs S/\S[h]?=some (oL D.int ((r.take j).foldl (hvP (i:Int)) H))/\∀j,j≠h->S[j]?=S2[j]?)
    (λf S=>∃z,f=.nx (eF8 S1.length wn g kd i r z)/\Fc W S1 fs S/\S[h]?=some (oL D.int (r.foldl (hvP (i:Int)) H))/\∀j,j≠h->S[j]?=S2[j]?)
    ⟨⟨_,rfl⟩,yt,wR,λ_ _=>rfl⟩ (λ_ _ _ _=>rfl)
    (λj d e S hd hJ=>by
     obtain⟨⟨z,rfl⟩,hS3,Sh3,So3⟩:=hJ;rw[Aa]at hd;obtain⟨p,hp,rfl⟩:=Gg.mp hd;have Χ:=hr r Υ p (BE hp);refine⟨eF8 S1.length wn g kd i r (some (.int p)),S,rfl,?_⟩
     have Ψ:p.toNat < ((r.take j).foldl (hvP (i:Int)) H).length:=by rw[Tx,Φ];lia
     have vK:m2 O8 (mC (.int 1)) (AD 4) (eF8 S1.length wn g kd i r (some (.int p))) S=.ok (.int (1 * 2 ^ (i:Int).toNat)) S:=by
      refine En (x:=.int 1) (y:=.int (i:Int)) rfl rfl ?_;unfold O8 L2.intOp;dsimp only;rw[qX (show dI 1 (i:Int)from⟨by lia,by lia,by decide⟩)]
     have ha:=hZ (g:=λa b=>CJ a b) (mo:=DJ W.Field "having" (AD 0)) (mi:=AD 6) (p:=p) (z:=((r.take j).foldl (hvP (i:Int)) H).getD p.toNat 0) (JU (C:=W.Field) (f:="having") (m:=AD 0) (n:=S1.length) (e:=eF8 S1.length wn g kd i r (some (.int p))) (by rfl) hS3.at' fh) (by rfl) vK Sh3 Χ.1 (by
      rw[Aa,Bs,AZ Ψ]
      rfl)
     refine⟨_,_,ha,⟨_,rfl⟩,hS3.set (by lia),?_,λk hk=>by rw[AY (CF hk)];exact So3 k hk⟩;rw[Ai (BG Sh3),Jh,hp];show some (Ob.lst _)=some (Ob.lst _);rw[show(some p).toList=[p]from rfl,Go,List.foldl_cons,SB];unfold hvP
     rw[List.map_set])
    (λe S hJ=>by
     obtain⟨⟨z,rfl⟩,hS3,Sh3,So3⟩:=hJ;rw[AC,Kg]at Sh3
     exact⟨z,rfl,hS3,Sh3,So3⟩)
   obtain⟨z,rfl,Ω,δ,yx⟩:=q2;refine⟨_,S3,(Bw hp).trans (HD (JT (v:=Ex (eT D.int r)) (S1:=S2) (by rfl)) q1),⟨_,_,_,rfl⟩,Ω,?_,?_,λj h1 h2=>(yx j h2).trans (yw j h1 h2)⟩
   ·rw[yx c (by lia),yu,tk,Go]
    rfl
   ·rw[δ,tk,Go,hH]
    rfl)
  (λe S hI=>by
   obtain⟨⟨e4,e5,e6,rfl⟩,hS,Sc,Sh,So⟩:=hI;rw[AC,Kg]at Sc Sh
   exact⟨e4,e5,e6,rfl,hS,Sc,Sh,So⟩)
 obtain⟨e4,e5,e6,rfl,h3⟩:=h2;exact⟨e4,e5,e6,T',(JT hi).trans h1,h3⟩
abbrev y1(a:Nat):List (Str×D):=Io "everything" (.ref a) []
abbrev y2(a:Nat)(kd:Str):List (Str×D):=Io "kind" (.str kd) (y1 a)
abbrev y3(a:Nat)(kd:Str)(b:Nat):List (Str×D):=Io "takes" (.ref b) (y2 a kd)
abbrev y4(a:Nat)(kd:Str)(b c:Nat):List (Str×D):=Io "numbers" (.ref c) (y3 a kd b)
abbrev y5(a:Nat)(kd:Str)(b c h:Nat):List (Str×D):=Io "having" (.ref h) (y4 a kd b c)
abbrev y6(a:Nat)(kd:Str)(b c h k:Nat):List (Str×D):=Io "place_bits" (.ref k) (y5 a kd b c h)
abbrev y7(a:Nat)(kd:Str)(b c h k m:Nat):List (Str×D):=Io "known" (.ref m) (y6 a kd b c h k)
abbrev eF9(S1:Sto)(wn:Nat)(g:Int)(kd:Str):Lo:=eF7 S1.length wn g kd none none none
theorem cZ(W:Wd)(hp:Ly w g kd=some f)(hw:S1[wn]?=some (FJ W w)) :
  ∃S',Ge W [.ref S1.length,.ref wn,.int g,.str kd] (S1++[.ins W.Field []])=.ok .non S'/\Keeps S1 S'/\∀L:Nat->Option Ob,(∀n o,S1.length<=n->S'[n]?=some o->L n=some o)->Ei W f L (.ref S1.length):=by
 unfold Ly at hp;obtain⟨ev,yq,hp⟩:=Av hp;obtain⟨tk,uS,hp⟩:=Av hp;obtain⟨pb,ε,hp⟩:=Av hp;split at hp
 case isFalse=>cases hp
 rename_i hg;obtain⟨ve,hg2,η⟩:=hg;cases hp;have F0:Fc W S1 [] (S1++[.ins W.Field []]):=⟨Keeps.app _ _,FQ _ _⟩
 have l0:(S1++[Ob.ins W.Field []]).length=S1.length+1:=by rw[As];rfl
 generalize S1++[Ob.ins W.Field []]=T0 at F0 l0;obtain⟨d,U1,c1,k1,a,rfl,ha,hA⟩:=Ul W w g ev yq T0 [.ref wn,.int g] ⟨⟨wn,rfl,F0.kp.at hw⟩,rfl,trivial⟩;have m1:CW 2 (JE W) (AT (AD 1) (AT (AD 2) BR)) (eF9 S1 wn g kd) T0=.ok (.ref a) U1:=(KY (ds:=[.ref wn,.int g]) (S1:=T0) rfl rfl).trans c1;have s1:=F0.step (x:="everything") (e:=eF9 S1 wn g kd) rfl m1 k1 (by decide);have F1:=F0.put (x:="everything") (d:=.ref a) k1
 have qa:S1.length < a:=by lia
 have A1:(U1.set S1.length (.ins W.Field (y1 a)))[a]?=some (oL (eT D.int) ev):=El hA qa;generalize U1.set S1.length (.ins W.Field (y1 a))=T1 at s1 F1 A1;have s2:=F1.step (x:="kind") (m:=AD 3) (e:=eF9 S1 wn g kd) (d:=.str kd) rfl rfl (Keeps.refl T1) (At (AK 1) (by decide));have F2:=F1.put (x:="kind") (d:=.str kd) (Keeps.refl T1);have A2:(T1.set S1.length (.ins W.Field (y2 a kd)))[a]?=some (oL (eT D.int) ev):=El A1 qa;generalize T1.set S1.length (.ins W.Field (y2 a kd))=T2 at s2 F2 A2;obtain⟨d,U3,c3,k3,b,rfl,hb,hB⟩:=WN W w tk uS T2 [.ref wn] ⟨⟨wn,rfl,F2.kp.at hw⟩,trivial⟩;have ab:a < b:=AS (BG A2) hb;have m3:CW 1 (KR W) (AT (AD 1) BR) (eF9 S1 wn g kd) T2=.ok (.ref b) U3:=(KY (ds:=[.ref wn]) (S1:=T2) rfl rfl).trans c3;have s3:=F2.step (x:="takes") (e:=eF9 S1 wn g kd) rfl m3 k3 (At (AK 2) (by decide));have F3:=F2.put (x:="takes") (d:=.ref b) k3;have A3:(U3.set S1.length (.ins W.Field (y3 a kd b)))[a]?=some (oL (eT D.int) ev):=El (k3.at A2) qa;have B3:(U3.set S1.length (.ins W.Field (y3 a kd b)))[b]?=some (oL (eT D.int) tk):=El hB (by lia);generalize U3.set S1.length (.ins W.Field (y3 a kd b))=T3 at s3 F3 A3 B3;have bc:b < T3.length:=BG B3;have m4:Tu (eF9 S1 wn g kd) T3=.ok (.ref T3.length) (T3++[oDR D.int ([]:List (List Int×Int))]):=rfl;have k4:=Keeps.app T3 [oDR D.int ([]:List (List Int×Int))];have s4:=F3.step (x:="numbers") (e:=eF9 S1 wn g kd) rfl m4 k4 (At (AK 3) (by decide));have F4:=F3.put (x:="numbers") (d:=.ref T3.length) k4;have C3:(T3++[oDR D.int ([]:List (List Int×Int))])[T3.length]?=some (oDR D.int ([]:List (List Int×Int))):=FQ _ _;generalize hc:T3.length=c at bc s4 F4 C3;generalize T3++[oDR D.int ([]:List (List Int×Int))]=U4 at k4 s4 F4 C3;have A4:=El (o':=.ins W.Field (y4 a kd b c)) (k4.at A3) qa;have B4:=El (o':=.ins W.Field (y4 a kd b c)) (k4.at B3) (show S1.length < b by lia);have C4:=El (o':=.ins W.Field (y4 a kd b c)) C3 (show S1.length < c by lia);generalize U4.set S1.length (.ins W.Field (y4 a kd b c))=T4 at s4 F4 A4 B4 C4
 have v5:((((some w).bind λx2=>some (x2.1:Int)).bind Mf).bind λl=>EV l (λ_=>some true) (λ_=>some (0:Int)))=some (hv0 w.1):=by
  show((Mf (w.1:Int)).bind λl=>EV l (λ_=>some true) (λ_=>some (0:Int)))=_;rw[NK (by lia) (by lia)];show EV (DI 0 (w.1:Int).toNat) _ _=_;rw[Aq,Hz (f:=λ_=>(0:Int)) (by rw[CA];lia) λ_ _=>rfl];rfl
 obtain⟨d,U5,m5,k5,h,rfl,hh,hH⟩:=(Dq (ED (VI.k (EE (FG (DU (A:=[.u,.z (FJ W w),.u,.u,.u,.u,.u]) (i:=1) rfl)))) (λ_=>HE) (λ_=>CK (enc:=D.int) (v:=0) (d:=.int 0) rfl))) _ v5 T4 (eF9 S1 wn g kd) _ T4 (Vs.all λi x hx=>by
  match i,hx with
  | 0,hx=>cases hx;exact⟨_,rfl,trivial⟩
  | 1,hx=>cases hx;exact⟨_,rfl,wn,rfl,XQ (F4.kp.at hw)⟩
  | 2,hx=>cases hx;exact⟨_,rfl,trivial⟩
  | 3,hx=>cases hx;exact⟨_,rfl,trivial⟩
  | 4,hx=>cases hx;exact⟨_,rfl,trivial⟩
  | 5,hx=>cases hx;exact⟨_,rfl,trivial⟩
  | 6,hx=>cases hx;exact⟨_,rfl,trivial⟩
  | n+7,hx=>cases hx)
 have s5:=F4.step (x:="having") (e:=eF9 S1 wn g kd) rfl m5 k5 (At (AK 4) (by decide));have F5:=F4.put (x:="having") (d:=.ref h) k5;have ch:c < h:=AS (BG C4) hh;have A5:=El (o':=.ins W.Field (y5 a kd b c h)) (k5.at A4) qa;have B5:=El (o':=.ins W.Field (y5 a kd b c h)) (k5.at B4) (show S1.length < b by lia);have C5:=El (o':=.ins W.Field (y5 a kd b c h)) (k5.at C4) (show S1.length < c by lia);have H5:=El (o':=.ins W.Field (y5 a kd b c h)) hH (show S1.length < h by lia);generalize U5.set S1.length (.ins W.Field (y5 a kd b c h))=T5 at s5 F5 A5 B5 C5 H5;obtain⟨e4,e5,e6,T6,s6,F6,C6,H6,O6⟩:=VU W (wn:=wn) (g:=g) (kd:=kd) (n:=w.1) F5 rfl rfl rfl qa (by lia) ch A5 C5 H5 ve η;have A6:=(O6 a (by lia) (by lia)).trans A5;have B6:=(O6 b (by lia) (by lia)).trans B5;have v7:((some ev).bind λl=>EV l (λ_=>some true) (λx=>((some x).bind λx=>(some ()).bind λy=>some (x,y)).bind λz=>Fq z.1))=some pb:=ε
 obtain⟨d,U7,m7,k7,k,rfl,hk,hK⟩:=(Dq (ED (VI.k (jK (A:=[.q (λL d=>∃q fs n,d=.ref q/\L q=some (.ins W.Field fs)/\fs.lookup ("everything" : Str)=some (.ref n)/\L n=some (oL (eT D.int) ev)),.u,.u,.u,.u,.u,.u]) (i:=0) (l:=ev) (enc:=eT D.int) (C:=W.Field) (x:="everything") (λL d h=>h) rfl)) (λ_=>HE) (λx=>Ch (EF (AQ (i:=0) rfl) Ci) (λz=>Yo W z.1) (λ_=>rfl) E0))) _ v7 T6 (eF7 S1.length wn g kd e4 e5 e6) _ T6 (Vs.all λi x hx=>by
  match i,hx with
  | 0,hx=>cases hx;exact⟨_,rfl,.ref S1.length,rfl,λL hL=>⟨S1.length,_,a,rfl,hL _ _ (XQ F6.at'),rfl,hL _ _ (XQ A6)⟩⟩
  | 1,hx=>cases hx;exact⟨_,rfl,trivial⟩
  | 2,hx=>cases hx;exact⟨_,rfl,trivial⟩
  | 3,hx=>cases hx;exact⟨_,rfl,trivial⟩
  | 4,hx=>cases hx;exact⟨_,rfl,trivial⟩
  | 5,hx=>cases hx;exact⟨_,rfl,trivial⟩
  | 6,hx=>cases hx;exact⟨_,rfl,trivial⟩
  | n+7,hx=>cases hx)
 have s7:=F6.step (x:="place_bits") (e:=eF7 S1.length wn g kd e4 e5 e6) rfl m7 k7 (At (AK 5) (by decide));have F7:=F6.put (x:="place_bits") (d:=.ref k) k7;have qE:h < k:=AS (BG H6) hk
 have cell:∀{j:Nat} {o:Ob},U7[j]?=some o->S1.length < j->(U7.set S1.length (.ins W.Field (y6 a kd b c h k)))[j]?=some o:=λh1 h2=>El h1 h2
 have A7:=cell (k7.at A6) qa;have B7:=cell (k7.at B6) (by lia);have C7:=cell (k7.at C6) (by lia);have H7:=cell (k7.at H6) (by lia);have K7:=cell hK (by lia);generalize U7.set S1.length (.ins W.Field (y6 a kd b c h k))=T7 at s7 F7 A7 B7 C7 H7 K7
 clear cell
 have m8:IV (eF7 S1.length wn g kd e4 e5 e6) T7=.ok (.ref T7.length) (T7++[.dK []]):=rfl;have k8:=Keeps.app T7 [Ob.dK []];have s8:=F7.step (x:="known") (e:=eF7 S1.length wn g kd e4 e5 e6) rfl m8 k8 (At (AK 6) (by decide));have F8:=F7.put (x:="known") (d:=.ref T7.length) k8;have M7:(T7++[Ob.dK []])[T7.length]?=some (.dK []):=FQ _ _;have km:k < T7.length:=BG K7;generalize T7.length=m at s8 F8 M7 km;generalize T7++[Ob.dK []]=U8 at k8 s8 F8 M7
 have cell:∀{j:Nat} {o:Ob},U8[j]?=some o->S1.length < j->(U8.set S1.length (.ins W.Field (y7 a kd b c h k m)))[j]?=some o:=λh1 h2=>El h1 h2
 have A8:=cell (k8.at A7) qa;have B8:=cell (k8.at B7) (by lia);have C8:=cell (k8.at C7) (by lia);have H8:=cell (k8.at H7) (by lia);have K8:=cell (k8.at K7) (by lia);have M8:=cell M7 (by lia);generalize U8.set S1.length (.ins W.Field (y7 a kd b c h k m))=T8 at s8 F8 A8 B8 C8 H8 K8 M8
 clear cell
 have Q8:T8[S1.length]?=some (.ins W.Field (fdF a b c h k m kd)):=F8.at'
 have run:JW W [.ref S1.length,.ref wn,.int g,.str kd] T0=.ok .non T8:=by
  refine Wn (e:=eF7 S1.length wn g kd e4 e5 e6) ?_;unfold Nl;show(BO _ _) (eF9 S1 wn g kd) T0=_;rw[Bw s1,Bw s2,Bw s3,Bw s4,Bw s5,Bw s6,Bw s7];exact s8
 have C:Vw W ⟨ev,kd,tk,nuF ev,hvF w.1 ev,pb⟩ (λk=>T8[k]?) S1.length m:=⟨a,b,c,h,k,Q8,A8,B8,C8,H8,K8⟩
 have wV:∀n z:Int,0<=n->n < 1000->KG ⟨ev,kd,tk,nuF ev,hvF w.1 ev,pb⟩ n=some z->LM W [.ref S1.length,.ref wn,.int g,.str kd] T8 (.inl n)=z:=λn z _ _ hz=>by
  have hQ:Kk T8 [.q (HB W ⟨ev,kd,tk,nuF ev,hvF w.1 ev,pb⟩),.v (D.int n)] [.ref S1.length,.int n]:=⟨λL hL=>⟨_,m,rfl,C.mono hL⟩,rfl,trivial⟩;unfold LM;dsimp only;rw[show lR "kind" S1.length T8=some kd by unfold lR;rw[Q8];rfl];unfold KG at hz;dsimp only at hz
  by_cases ck:kd = "one"
  ·rw[wX ck,qX rfl]at hz
   obtain⟨d,S',h1,_,rfl⟩:=Gu W _ n z hz T8 _ hQ;rw[qX (congrArg some ck),h1];rfl
  ·rw[wY ck,qY AI]at hz
   obtain⟨d,S',h1,_,rfl⟩:=Gv W _ n z hz T8 _ hQ;rw[qY (λe=>ck (Bh e)),h1];rfl
 refine⟨T8.set m (.mem (LM W [.ref S1.length,.ref wn,.int g,.str kd] T8)),?_,F8.kp.set (by lia) _,λL hL=>⟨S1.length,m,_,rfl,?_,hL m _ (by lia) (Ai (BG M8)),wV⟩⟩
 ·unfold Ge gM
  rw[run];dsimp only
  rw[show SS "known" [.ref S1.length,.ref wn,.int g,.str kd] T8=some m by
   unfold SS;dsimp only;rw[Q8]
   rfl]
  dsimp only;rw[M8]
 ·have up:∀{j:Nat} {o:Ob},T8[j]?=some o->S1.length<=j->j < m->L j=some o:=λh1 h2 h3=>hL _ _ h2 (by rw[AY (Ec h3)];exact h1)
  exact⟨a,b,c,h,k,up Q8 (AK _) (by lia),up A8 (by lia) (by lia),up B8 (by lia) (by lia),up C8 (by lia) (by lia),up H8 (by lia) (by lia),up K8 (by lia) (by omega)⟩
theorem aQ{W:Wd}{A:List Sl}{ml:ML}{p:Option ((Nat×List (Int×Int))×Int×Str×Unit)}(ha:VA A ml p (λz=>[.z (FJ W z.1),.v (D.int z.2.1),.v (D.str z.2.2.1)])):VE A (Ou W.Field 4 (Ge W) ml) (rQ (Ei W)) (p.bind λz=>Ly z.1 z.2.1 z.2.2.1):=λf hv S0 e F S hs=>by
 obtain⟨z,h1,h2⟩:=Av hv;obtain⟨ds,S1,h3,h4,h5⟩:=ha z h1 S0 e F S hs
 match ds,h5 with
 | [d1,d2,d3],⟨⟨wn,q1,hw⟩,q2,q3,_⟩=>
  cases q1;cases q2;cases q3;obtain⟨S',r1,r2,r3⟩:=cZ W h2 hw;exact⟨_,S',X4 h3 rfl r1,h4.trans r2,λL hL=>r3 L λn o hn=>hL n o (Aw h4.1 hn)⟩
def GP(Bd:Fp)(BH:Int)(Ll:Int):Option (Fw Int Unit):=
 ((E3 Bd (BH,()).1).bind λx6=>(atI Bd.hv Ll).bind λx7=>some (BU x6 x7)).bind λx8=>some (.rt x8)
def E4(Bd:Fp)(BH:Int)(Ll:Int):Option Int:=Gm (GP Bd BH Ll)
theorem QP(W:Wd)(Bd:Fp)(BH:Int)(Ll:Int):VF (Ia W) [.q (Ei W Bd),.v (D.int BH),.v (D.int Ll)] (rV D.int) (E4 Bd BH Ll):=by
 refine Ek (n:=3) (b:=Ih W) (p:=GP Bd BH Ll) (B:=λ_=>[]) ?_;show VS [.q (Ei W Bd),.v (D.int BH),.v (D.int Ll)] _ _ _ _;unfold Ih GP;exact(Dz (Pp (NC (Pf:=Ei W) (Pg:=Ei W) (cX λ_ _ _ _ _ _ _=>rfl) (λ_ _ h=>h) rfl (EF (AQ rfl) Ci) (λz3=>QO W Bd z3.1) (λ_=>rfl) E0) (G3 (GD Zd rfl) (AQ rfl))))
def HG(Bj:Fp)(Ii:Int):Option (Fw (List (Int×Int)) Unit):=
 BV (some (.nx [])) λv1=>BV ((Jm Ii).bind λtx=>Fd tx v1 λ(s6:(List (Int×Int))) x7=>BV (((FZ Bj (x7,()).1).bind λwL=>EV wL (λrZ=>(((some (x7,(rZ,()))).bind λuK=>E4 Bj uK.1 uK.2.1).bind λuG=>some (BU uG Ii)).bind λsr=>some (decide (sr=(0:Int)))) (λrZ=>some rZ)).bind λuz=>some (.nx uz)) λv8=>Fn (λyy=>yy) (if (!v8.isEmpty)=true then Fn (λrq=>rq) ((atI v8 (0:Int)).bind λqT=>(Km s6 x7 qT).bind λθ=>some (.nx θ))else some (.nx s6))) λyz=>some (.rt yz)
def D0(Bj:Fp)(Ii:Int):Option (List (Int×Int)):=Gm (HG Bj Ii)
theorem MM(W:Wd)(Bj:Fp)(Ii:Int):VF (HK W) [.q (Ei W Bj),.v (D.int Ii)] (rN (oDK D.int)) (D0 Bj Ii):=by
 refine Ek (n:=5) (b:=JZ W) (p:=HG Bj Ii) (B:=λ_=>[]) ?_;show VS [.q (Ei W Bj),.v (D.int Ii),.u,.u,.u] _ _ _ _;unfold JZ HG;exact(BK (Iv Uh) (λv1=>(BK (G2 (s0:=v1) (B:=(λ(vp:(List (Int×Int)))=>[.q (Ei W Bj),.v (D.int Ii),.w 2 ((oDK D.int) vp),.u,.u])) (TF (Ch (EF (AQ rfl) Ci) (λz5=>SG W z5.1) (λ_=>rfl) NN)) Fg (.refl _) (λs6 x7=>(BK (TB (Dq (ED (VI.k (TF (NC (Pf:=Ei W) (Pg:=HB W) (cX λ_ _ _ _ _ _ _=>rfl) Ei.q rfl (EF (AQ rfl) Ci) (λι=>Rr W Bj ι.1) (λ_=>rfl) NN))) (λrZ=>(Ha (GC Dy Fm (Pp (NC (Pf:=Ei W) (Pg:=Ei W) (cX λ_ _ _ _ _ _ _=>rfl) (λ_ _ h=>h) rfl (EF (AQ rfl) (EF (AQ rfl) Ci)) (λuK=>QP W Bj uK.1 uK.2.1) (λ_=>rfl) E0) (AQ rfl)) (CK rfl)))) (λrZ=>(AQ rfl))))) (λv8=>(EC (Gr (B:=(λ(vn:(List (Int×Int)))=>[.q (Ei W Bj),.v (D.int Ii),.w 2 ((oDK D.int) vn),.v (D.int x7),.y ((oL D.int) v8)])) (Xo (Pm rfl)) (EC (Ue rfl (AQ rfl) (G3 (Pm rfl) (CK rfl)) rfl) (λrq=>(.refl _))) (Gq (.refl _))) (λyy=>(.same (.same (.same (.drop (.drop .nil))))))))))) (λyz=>(TC rfl)))))
def NP(Bj:Fp):Option (Fw (List (Int×(Int×Int))) Unit):=
 BV (some (.nx [])) λv1=>BV (((NI (1:Int) (Bj.ev.length:Int)).bind λx8=>some (x8 - (1:Int))).bind λqS=>some (.nx qS)) λv3=>BV (some (.nx (1:Int))) λv11=>BV ((D0 Bj v3).bind λrK=>some (.nx rK)) λwW=>BV (whF (λ(qN:(List (Int×(Int×Int)))×Int×Int×(List (Int×Int)))=>some (!qN.2.2.2.isEmpty)) (λ(qN:(List (Int×(Int×Int)))×Int×Int×(List (Int×Int)))=>BV (Fd (qN.2.2.2.map (·.1)) (qN.1,qN.2.1) λ(qL:(List (Int×(Int×Int)))×Int) qy=>BV (((Ag qN.2.2.2 qy).bind λqT=>some (qN.2.2.1,qT)).bind λsu=>(Km qL.1 qy su).bind λsv=>some (.nx sv)) λsO=>Fn (λsP=>(sO,sP)) ((NI (1:Int) qy).bind λqM=>some (.nx (EA qL.2 qM)))) λrA=>BV (some (.nx (qN.2.2.1+(1:Int)))) λtP=>Fn (λtQ=>(rA.1,rA.2,tP,tQ)) ((D0 Bj rA.2).bind λsL=>some (.nx sL))) wN (v1,v3,v11,wW)) λyA=>some (.rt yA.1)
def NR(Bj:Fp):Option (List (Int×(Int×Int))):=Gm (NP Bj)
theorem aV(W:Wd)(Bj:Fp):VF (RF W) [.q (Ei W Bj)] (rN (oDK (eP D.int D.int))) (NR Bj):=by
 refine Ek (n:=6) (b:=RT W) (p:=NP Bj) (B:=λ_=>[]) ?_;show VS [.q (Ei W Bj),.u,.u,.u,.u,.u] _ _ _ _;unfold RT NP;exact(BK (Iv Uh) (λv1=>(BK (EB (Kz (N5 (CK rfl) (Po (GD JS rfl))) (CK rfl))) (λv3=>(BK (EB (CK rfl)) (λv11=>(BK (Iv (Ch (eR (Pf:=Ei W) (Pg:=Ei W) (λ_ _ h=>h) rfl (EF (AQ rfl) Ci)) (λyB=>MM W yB.1 yB.2.1) (λ_=>rfl) NN)) (λwW=>(BK (Ud (s0:=(v1,v3,v11,wW)) (B:=(λ(vq:(List (Int×(Int×Int)))×Int×Int×(List (Int×Int)))=>[.q (Ei W Bj),.w 1 ((oDK (eP D.int D.int)) vq.1),.v (D.int vq.2.1),.v (D.int vq.2.2.1),.w 4 ((oDK D.int) vq.2.2.2),.u])) (.refl _) (λqN=>(aS (Lq rfl))) (λqN=>(BK (nA 4 rfl rfl (G2 (s0:=(qN.1,qN.2.1)) (B:=(λ(yC:(List (Int×(Int×Int)))×Int)=>[.q (Ei W Bj),.w 1 ((oDK (eP D.int D.int)) yC.1),.v (D.int yC.2),.v (D.int qN.2.2.1),.y ((oFK D.int) qN.2.2.2),.u])) (jJ rfl) Fg (.refl _) (λqL qy=>(BK (Ue rfl (AQ rfl) (Lr (AQ rfl) (Yl (Pm rfl) (AQ rfl))) rfl) (λsO=>(EC (N2 rfl (N5 (CK rfl) (AQ rfl))) (λsP=>(.same (.same (.same (.same (.same (.drop .nil))))))))))))) (λrA=>(BK (N2 rfl (CK rfl)) (λtP=>(EC (Iv (Ch (eR (Pf:=Ei W) (Pg:=Ei W) (λ_ _ h=>h) rfl (EF (AQ rfl) Ci)) (λyD=>MM W yD.1 yD.2.1) (λ_=>rfl) NN)) (λtQ=>(.refl _))))))))) (λyA=>(TC rfl)))))))))))
def GM(Bj:Fp)(Lj:(List (Int×(Int×Int)))):Option (Fw Int Unit):=
 ((((some (Bj.ev.length:Int)).bind Mf).bind λl7=>EV l7 (λx2=>some (!(Ag Lj x2).isSome)) (λx2=>NI (1:Int) x2)).bind λx8=>some (TN x8)).bind λx9=>some (.rt x9)
def GU(Bj:Fp)(Lj:(List (Int×(Int×Int)))):Option Int:=Gm (GM Bj Lj)
theorem QN(W:Wd)(Bj:Fp)(Lj:(List (Int×(Int×Int)))):VF (IZ W) [.q (Ei W Bj),.z ((oDK (eP D.int D.int)) Lj)] (rV D.int) (GU Bj Lj):=by
 refine Ek (n:=2) (b:=Ic W) (p:=GM Bj Lj) (B:=λ_=>[]) ?_;show VS [.q (Ei W Bj),.z ((oDK (eP D.int D.int)) Lj)] _ _ _ _;unfold Ic GM;exact(Dz (jM (MK (Dq (ED (VI.k (EE (Po (GD JS rfl)))) (λx2=>(Ha (Ug (AQ rfl) (DU rfl)))) (λx2=>(N5 (CK rfl) (AQ rfl))))))))
def Lw(Ay:(Nat×List (Int×Int)))(Be:Int)(Bl:Str):Option (Fw (List (List Int)) Unit):=
 BV (((some (Ay,(Be,(Bl,())))).bind λz8=>Ly z8.1 z8.2.1 z8.2.2.1).bind λx9=>some (.nx x9)) λv1=>(((((((NR v1).bind λuw=>some (uw,())).bind λuD=>some (v1,uD)).bind λuL=>GU uL.1 uL.2.1).bind λux=>some (ux,())).bind λwZ=>Jm wZ.1).bind λν=>EV ν (λrY=>some true) (λrY=>atI v1.ev rY)).bind λuy=>some (.rt uy)
def Hy(Ay:(Nat×List (Int×Int)))(Be:Int)(Bl:Str):Option (List (List Int)):=Gm (Lw Ay Be Bl)
theorem Yn(W:Wd)(Ay:(Nat×List (Int×Int)))(Be:Int)(Bl:Str):VF (OW W) [.z ((FJ W) Ay),.v (D.int Be),.v (D.str Bl)] (rN (oL (eT D.int))) (Hy Ay Be Bl):=by
 refine Ek (n:=4) (b:=Od W) (p:=Lw Ay Be Bl) (B:=λ_=>[]) ?_;show VS [.z ((FJ W) Ay),.v (D.int Be),.v (D.str Bl),.u] _ _ _ _;unfold Od Lw;exact(BK (du (aQ (Rq (DU rfl) (EF (AQ rfl) (EF (AQ rfl) Ci))))) (λv1=>(Iw (Dq (ED (VI.k (TF (Ch (EF (Ch (eR (Pf:=Ei W) (Pg:=Ei W) (λ_ _ h=>h) rfl (Rq (MK (Ch (eR (Pf:=Ei W) (Pg:=Ei W) (λ_ _ h=>h) rfl Ci) (λuM=>aV W uM.1) (λ_=>rfl) NN)) Ci)) (λuL=>QN W uL.1 uL.2.1) (λ_=>rfl) E0) Ci) (λwZ=>SG W wZ.1) (λ_=>rfl) NN))) (λrY=>HE) (λrY=>(G3 (GD JS rfl) (AQ rfl))))))))
def GK(Ay:(Nat×List (Int×Int)))(Bl:Str):Option (Fw Int Unit):=
 BV ((Y8 (1:Int) (Ay.1:Int)).bind λwM=>Fd wM () λ(_:Unit) x5=>Fn (λ_=>()) (((Hy Ay x5 Bl).bind λsr=>some (!sr.isEmpty)).bind λtw=>if tw=true then some (.rt x5)else some (.nx ()))) λ_=>some (.rt (Ay.1:Int))
def IT(Ay:(Nat×List (Int×Int)))(Bl:Str):Option Int:=Gm (GK Ay Bl)
theorem QM(W:Wd)(Ay:(Nat×List (Int×Int)))(Bl:Str):VF (IY W) [.z ((FJ W) Ay),.v (D.str Bl)] (rV D.int) (IT Ay Bl):=by
 refine Ek (n:=3) (b:=Ib W) (p:=GK Ay Bl) (B:=λ_=>[]) ?_;show VS [.z ((FJ W) Ay),.v (D.str Bl),.u] _ _ _ _;unfold Ib GK;exact(BK (G2 (s0:=()) (B:=(λ(_:Unit)=>[.z ((FJ W) Ay),.v (D.str Bl),.u])) (N3 (CK rfl) (FG (DU rfl))) Fg (.refl _) (λ_ x5=>(EC (Gr (B:=(λ(_:Unit)=>[.z ((FJ W) Ay),.v (D.str Bl),.v (D.int x5)])) (Xo (MK (Ch (Rq (DU rfl) (EF (AQ rfl) (EF (AQ rfl) Ci))) (λuM=>Yn W uM.1 uM.2.1 uM.2.2.1) (λ_=>rfl) NN))) (Dz (AQ rfl)) (Gq (.refl _))) (λ_=>(.same (.same (.drop .nil))))))) (λ_=>(Dz (FG (DU rfl)))))
def Dw(Ay:(Nat×List (Int×Int))):Option (Fw Unit Unit):=
 if (decide ((8:Int) < (Ay.1:Int)))=true then none else some (.nx ())
def E2(Ay:(Nat×List (Int×Int))):Option Unit:=bT (Dw Ay)
theorem K0(W:Wd)(Ay:(Nat×List (Int×Int))):VF (E6 W) [.z ((FJ W) Ay)] (rV eU) (E2 Ay):=by
 refine aI (n:=1) (b:=E9 W) (p:=Dw Ay) (B:=λ_=>[.z ((FJ W) Ay)]) ?_;show VS [.z ((FJ W) Ay)] _ _ _ _;unfold E9 Dw;exact(Gr (B:=(λ(_:Unit)=>[.z ((FJ W) Ay)])) (Ha (aO (FG (DU rfl)) (CK rfl))) TD (Gq (.refl _)))
def NO(Ay:(Nat×List (Int×Int)))(Bl:Str):Option (Fw Int Unit):=
 BV ((E2 Ay).bind λ_=>some (.nx ())) λ_=>(IT Ay Bl).bind λx9=>some (.rt x9)
def LJ(Ay:(Nat×List (Int×Int)))(Bl:Str):Option Int:=Gm (NO Ay Bl)
theorem aU(W:Wd)(Ay:(Nat×List (Int×Int)))(Bl:Str):VF (RE W) [.z ((FJ W) Ay),.v (D.str Bl)] (rV D.int) (LJ Ay Bl):=by
 refine Ek (n:=2) (b:=RS W) (p:=NO Ay Bl) (B:=λ_=>[]) ?_;show VS [.z ((FJ W) Ay),.v (D.str Bl)] _ _ _ _;unfold RS NO;exact(BK (Xi (Ch (Rq (DU rfl) Ci) (λz3=>K0 W z3.1) (λ_=>rfl) E0)) (λ_=>(Dz (Ch (Rq (DU rfl) (EF (AQ rfl) Ci)) (λz8=>QM W z8.1 z8.2.1) (λ_=>rfl) E0))))
open PySem L2
theorem bf(h:x.1 < x.2):nrm x=x:=by
 unfold nrm;rw[qY (by lia),qX (by omega)]
theorem aq(h:l.Perm l'):NG l=NG l':=SI ((IF l).trans (h.trans (IF l').symm)) (QU l) (QU l')
theorem eV(h:(ps.map nrm).Perm (qs.map nrm)):Gj ps=Gj qs:=by
 unfold Gj J4;have:=h.map Tb;rw[BC,BC]at this;rw[show(λx=>Tb (nrm x))=Tb∘nrm from rfl,aq this]
theorem FC.of(h:(ps.map nrm).Perm (qs.map nrm))(f:FC p qs):FC p ps:=by
 refine⟨λx hx=>?_,h.nodup_iff.mpr f.2⟩;obtain⟨y,hy,e⟩:=Al.mp (h.mem_iff.mp (Ct hx));have:=f.1 y hy;unfold Fit at this ⊢;rw[<-e];exact this
theorem ap(h:l.Perm l'):Bt l=Bt l':=
 (((Cb l).trans h).trans (Cb l').symm).eq_of_pairwise (λa b _ _ h1 h2=>iS h1 h2) (K6 l) (K6 l')
def nr(ts:List (Int×Int))(x:Nat):List Int:=Bt (Cp ts x)
theorem Wu:z∈nr ts x↔((x:Int),z)∈ts∨(z,(x:Int))∈ts:=by
 unfold nr;rw[(Cb _).mem_iff];unfold Cp;rw[List.mem_flatMap]
 constructor
 ·rintro⟨t,ht,h⟩
  rcases BI.mp h with h | h
  ·split at h
   ·rename_i e
    rw[Ah.mp h,<-e];exact .inl ht
   ·cases h
  ·split at h
   ·rename_i e
    rw[Ah.mp h,<-e];exact .inr ht
   ·cases h
 ·rintro(h | h)
  ·exact⟨_,h,BF _ (by simp)⟩
  ·exact⟨_,h,BP _ (by simp)⟩
open PySem L2 L4
theorem bm{o:Nat}{us:List (Int×Int)}{g:Int}(h0:0<=g)(h1:g < o):atI (OO o us) g=some (nr us g.toNat):=by
 refine Ka h0 ?_;unfold OO;rw[Aa,DX (by lia)];rfl
theorem ka{o:Nat}{us:List (Int×Int)}{g:Int}(h0:0<=g)(h1:g < o):Ti (o,us) g=some (nr us g.toNat):=by
 unfold Ti Td GR Em;simp only[AG];rw[wX h0,qX rfl,wX h1];simp only[AG];show Gm (BV (((bT (some (Fw.nx ()))).bind λ_=>some (.nx ()))) λ_=>_)=_;simp only[Xy,AG,CI];rw[bm h0 h1];rfl
theorem BJ:x∈Bt l↔x∈l:=(Cb l).mem_iff
theorem bW:∀n:Nat,n < 256->∀x:Nat,x < 8->CJ (n:Int) (1 * 2 ^ x)=((n ||| 2 ^ x:Nat):Int)/\(n ||| 2 ^ x) < 256/\∀y:Nat,y < 8->(n ||| 2 ^ x).testBit y=(n.testBit y||decide (x=y)):=by decide +kernel
theorem Yy:∀x:Nat,x < 9->NI 1 (x:Int)=some (1 * 2 ^ x):=by decide +kernel
theorem lg(h:∀x∈l,0<=x/\x < 8):Ok (Fq l) λr=>∃n:Nat,r=n/\n < 256/\∀y:Nat,y < 8->(n.testBit y=true↔(y:Int)∈l):=by
 unfold Fq Lx;simp only[AG,CI];refine OkF.out (OkF.seq (OkF.for (λpre (s:Int)=>∃n:Nat,s=n/\n < 256/\∀y:Nat,y < 8->(n.testBit y=true↔(y:Int)∈pre)) ⟨0,rfl,by decide,λy _=>by simp⟩ ?_) ?_)
 ·rintro pre x s hx hp ⟨n,rfl,hn,qg⟩
  obtain⟨x0,x7⟩:=h x hx
  obtain⟨k,rfl⟩:∃k:Nat,x=k:=⟨x.toNat,by lia⟩
  rw[Yy k (by lia)];obtain⟨o1,o2,o3⟩:=bW n hn k (by lia);refine .nx ⟨n ||| 2 ^ k,o1,o2,λy hy=>?_⟩;rw[o3 y hy,Bk,qg y hy,BI,Ah,decide_eq_true_eq];refine⟨λq=>q.elim .inl λq=>.inr (by rw[q]),λq=>q.elim .inl λq=>.inr (by lia)⟩
 ·rintro s ⟨n,rfl,h1,h2⟩
  exact .rt ⟨n,rfl,h1,h2⟩
def Tg(us:List (Int×Int))(g:Int):List Int:=Bt ([g]++nr us g.toNat)
def tkl(o:Nat)(us:List (Int×Int)):List (List Int):=(DI 0 o).map (Tg us)
theorem iW{o:Nat}{us:List (Int×Int)}{g:Int}(h0:0<=g)(h1:g < o):atI (tkl o us) g=some (Tg us g):=by
 refine Ka h0 ?_;unfold tkl DI;rw[Aa,Aa,DX (by lia)];show some (Tg us (0+(g.toNat:Int)))=_;rw[show(0:Int)+(g.toNat:Int)=g by lia]
theorem aZ{o:Nat}{us:List (Int×Int)}{g:Int}(h0:0<=g)(h1:g < o):Tk (tkl o us) g=Tg us g:=by
 unfold Tk;rw[iW h0 h1];rfl
structure FB(o:Nat)(us:List (Int×Int)):Prop where
 sm:o < 9
 len:∀g:Int,0<=g->g < o->(nr us g.toNat).length<=7
 rg:∀g:Int,0<=g->g < o->∀x∈nr us g.toNat,0<=x/\x < o/\x≠g
 nd:∀g:Int,0<=g->g < o->(nr us g.toNat).Nodup
section
variable{o:Nat}{us:List (Int×Int)}
theorem Kd:x∈Tg us g↔x=g∨x∈nr us g.toNat:=by
 unfold Tg;rw[BJ];simp
theorem FB.tg(h:FB o us){g:Int}(h0:0<=g)(h1:g < o):(Tg us g).length<=8/\(∀x∈Tg us g,0<=x/\x < o)/\(Tg us g).Pairwise (· < ·):=by
 refine⟨?_,λx hx=>?_,?_⟩
 ·unfold Tg
  rw[(Cb _).length_eq,As,BW];have:=h.len g h0 h1
  lia
 ·rcases Kd.mp hx with rfl | hx
  ·exact⟨h0,h1⟩
  ·exact⟨(h.rg g h0 h1 x hx).1,(h.rg g h0 h1 x hx).2.1⟩
 ·have nd:(Tg us g).Nodup:=by
   unfold Tg;rw[(Cb _).nodup_iff];show(g :: nr us g.toNat).Nodup;rw[BM];exact⟨λz=>(h.rg g h0 h1 g z).2.2 rfl,h.nd g h0 h1⟩
  have:=(K6 ([g]++nr us g.toNat))
  exact(SC this nd).imp λ⟨a,b⟩=>by lia
theorem eX(h:FB o us):KF (o,us)=some (tkl o us):=by
 unfold KF KA;simp only[AG];rw[NK (by lia) (by have:=h.sm;lia),Aq];simp only[AG]
 rw[Hz (f:=Tg us) (by rw[CA];have:=h.sm;lia) λx hx=>by
  obtain⟨x0,x1⟩:=CN.mp hx;rw[ka x0 (by lia),few1];simp only[AG];have hx6:=h.len x x0 (by lia);rw[gz (by rw[BW];lia)];simp only[AG];rw[Vk (by rw[As,BW];lia)]
  rfl]
 rfl
theorem QB(f:Int->Int):∀l:List Int,l.zip (l.map f)=l.map λg=>(g,f g)
 | []=>rfl
 | x :: l=>by rw[A9,GB,QB f l];rfl
theorem Xg{a b:List Int}{x y z:Int}(hn:b.Nodup)(h1:(x,z)∈a.zip b)(h2:(y,z)∈a.zip b):x=y:=by
 obtain⟨i,hi,e1⟩:=CQ h1;obtain⟨j,hj,e2⟩:=CQ h2;rw[Hv]at hi hj;rw[HV]at e1 e2;have f1:=(HM e1);have f2:=(HM e2);have:i=j:=(dN hn).mp (f1.2.trans f2.2.symm);subst this;exact f1.1.symm.trans f2.1
end
open PySem L2 L4
open Srt (ltL)
theorem Va:∀a:List Int,ltL a a=false
 | []=>rfl
 | x :: a=>by unfold ltL;rw[qX rfl];exact Va a
section
variable{o:Nat}{us:List (Int×Int)}
def iL(us:List (Int×Int))(gs:List Int)(c:Int)(r:List Int):Prop:=r.length=gs.length/\r.Nodup/\(∀y∈gs.zip r,y.2∈Tg us y.1)/\c∈r
theorem iL.rg(h:FB o us){gs r:List Int}{c:Int}(hg:∀g∈gs,0<=g/\g < o)(hr:iL us gs c r):∀x∈r,0<=x/\x < o:=λx hx=>by
 obtain⟨i,hi,rfl⟩:=CQ hx
 have sE:i < gs.length:=by rw[<-hr.1];exact hi
 have m:(gs[i],r[i])∈gs.zip r:=by
  have:(gs.zip r)[i]'(by rw[Hv];lia)=(gs[i],r[i]):=HV;rw[<-this];exact De _
 have:=hg gs[i] (De _);exact(h.tg this.1 this.2).2.1 _ (hr.2.2.1 _ m)
end
theorem lB:∀n:Nat,n < 256->∀x:Nat,x < 8->hb (n:Int) (x:Int)=n.testBit x:=by decide +kernel
abbrev bit(n:Nat)(x:Int):Prop:=n.testBit x.toNat=true
def InS(us:List (Int×Int))(gs:List Int)(P:Int->Prop)(r:List Int):Prop:=r.length=gs.length/\r.Nodup/\(∀y∈gs.zip r,y.2∈Tg us y.1)/\∀x∈r,P x
section
variable{o:Nat}{us:List (Int×Int)}{gs rest:List Int}{P Q:Int->Prop}{g:Int}{n:Nat}
theorem InS.rg(h:FB o us)(hg:∀g∈gs,0<=g/\g < o)(hr:InS us gs P r):∀x∈r,0<=x/\x < o:=λx hx=>by
 obtain⟨i,hi,rfl⟩:=CQ hx;have hl:=hr.1
 have m:(gs[i]'(by lia),r[i])∈gs.zip r:=by
  have:(gs.zip r)[i]'(by rw[Hv];lia)=(gs[i]'(by lia),r[i]):=HV;rw[<-this];exact De _
 have g':=hg _ (De (show i < gs.length by lia));exact(h.tg g'.1 g'.2).2.1 _ (hr.2.2.1 _ m)
theorem InS.imp(hr:InS us gs P r)(i:∀x∈r,P x->Q x):InS us gs Q r:=⟨hr.1,hr.2.1,hr.2.2.1,λx hx=>i x hx (hr.2.2.2 x hx)⟩
theorem jl(h:FB o us)(hn:n < 256)(hr:∀g∈rest,0<=g/\g < o)(rJ:rest.Nodup):Sdr (Tk (tkl o us)) (n:Int) rest↔∃r,InS us rest (bit n) r:=by
 have sm:=h.sm
 have hw:∀g∈rest,∀x,x∈w0 (Tk (tkl o us)) (n:Int) g↔x∈Tg us g/\bit n x:=λg hg x=>by
  unfold w0;rw[BN,aZ (hr g hg).1 (hr g hg).2]
  refine and_congr_right λa=>?_
  have:=(h.tg (hr g hg).1 (hr g hg).2).2.1 x a
  obtain⟨k,rfl⟩:∃k:Nat,x=k:=⟨x.toNat,by lia⟩
  unfold bit;rw[lB n hn k (by lia),Aq]
 constructor
 ·rintro⟨f,f1,f2⟩
  refine⟨rest.map f,AC _,?_,λy hy=>?_,λx hx=>?_⟩
  ·unfold Is
   rw[Bc]
   exact rJ.imp_of_mem λ{a b} ha qg ne e=>ne (f2 a ha b qg e)
  ·rw[QB]at hy
   obtain⟨g,hg,rfl⟩:=Al.mp hy;exact((hw g hg _).mp (f1 g hg)).1
  ·obtain⟨g,hg,rfl⟩:=Al.mp hx
   exact((hw g hg _).mp (f1 g hg)).2
 ·rintro⟨l,l1,ln,l3,l4⟩
  have ex:∀a:Int,∃z:Int,a∈rest->(a,z)∈rest.zip l:=λa=>by
   by_cases q:a∈rest
   ·obtain⟨i,hi,e⟩:=CQ q
    refine⟨l[i]'(by lia),λ_=>?_⟩
    have:(rest.zip l)[i]'(by rw[Hv];lia)=(a,l[i]'(by lia)):=by rw[HV,e]
    rw[<-this];exact De _
   ·exact⟨0,λz=>zX z q⟩
  have hs:=λa=>Da (ex a)
  refine⟨λa=>Ca (ex a),λg hg=>(hw g hg _).mpr ⟨l3 _ (hs g hg),l4 _ (Hu (hs g hg)).2⟩,λa ha b qg e=>?_⟩;have e:Ca (ex a)=Ca (ex b):=e;have h1:=hs a ha;rw[e]at h1;exact Xg ln h1 (hs b qg)
theorem lS(h:FB o us)(hn:n < 256)(hr:∀g∈rest,0<=g/\g < o)(rJ:rest.Nodup):Ok (Qk (tkl o us) rest (n:Int)) λb=>b=true↔∃r,InS us rest (bit n) r:=by
 have sm:=h.sm
 have hlen:((tkl o us).length:Int)=o:=by unfold tkl;rw[AC,CA]
 have hT:(∀t∈tkl o us,t.length<=1000/\∀x∈t,0<=x)/\∀g∈rest,0<=g/\g < ((tkl o us).length:Int):=by
  refine⟨λt ο=>?_,λg hg=>by rw[hlen];exact hr g hg⟩;obtain⟨g,hg,rfl⟩:=Al.mp ο;obtain⟨g0,g1⟩:=CN.mp hg;have:=h.tg g0 (by lia);exact⟨by omega,λx hx=>(this.2.1 x hx).1⟩
 have fs:=Ze (T:=Tk (tkl o us)) (bits:=(n:Int)) (U:=DI 0 o) (Gd:=λg=>0<=g/\g < o) (n:=9) (gs:=rest) (λg hg x hx=>by
  rw[aZ hg.1 hg.2]at hx;have:=(h.tg hg.1 hg.2).2.1 x hx
  exact CN.mpr ⟨this.1,by lia⟩) (by rw[CA];lia) (by rw[CA];lia) (λg hg=>⟨hr g hg,by rw[aZ (hr g hg).1 (hr g hg).2];exact Kd.mpr (.inl rfl)⟩) rJ
 have pf:Qk (tkl o us) rest (n:Int)=SX (Tk (tkl o us)) (n:Int) 9 rest:=qX hT;rw[pf]
 exact fs.imp λb hb=>hb.trans (jl h hn hr rJ)
end
end M
namespace L4
theorem WI{ρ σ:Type}{c:σ->Option Bool}{q:σ->Option (Fw ρ σ)}(I:σ->Prop)(μ:σ->Nat)(h:∀s,I s->c s=some false∨(c s=some true/\∃s',q s=some (.nx s')/\I s'/\μ s' < μ s)) :
  ∀(n:Nat) (s:σ),I s->μ s < n->∃s',whF c q n s=some (.nx s')/\I s'/\c s'=some false
 | 0,s,_,hn=>zX hn (Lm _)
 | n+1,s,hI,hn=>by
  unfold whF
  rcases h s hI with hc | ⟨hc,s',hq,h2,h3⟩
  ·rw[hc]
   exact⟨s,rfl,hI,hc⟩
  ·rw[hc]
   simp only[AG,if_true];rw[hq];exact WI I μ h n s' h2 (by lia)
end L4
namespace M
open PySem L2 L4
theorem P2(a b:Nat):BU (a:Int) (b:Int)=((a &&& b:Nat):Int):=by
 unfold BU;rw[wX (JL a),wX (JL b)];rfl
theorem Tj(a b:Nat):CJ (a:Int) (b:Int)=((a ||| b:Nat):Int):=by
 unfold CJ BU aD;rw[wY (show ¬0<=-(a:Int) - 1 by lia),wY (show ¬0<=-(b:Int) - 1 by lia)];show -(-((((-(-(a:Int) - 1) - 1).toNat ||| (-(-(b:Int) - 1) - 1).toNat:Nat):Nat):Int) - 1) - 1=_;rw[show(-(-(a:Int) - 1) - 1).toNat=a by lia,show(-(-(b:Int) - 1) - 1).toNat=b by lia]
 lia
theorem bV:∀a b:Nat,(a ||| b)=(a ^^^ b)+(a &&& b):=by
 intro a
 induction a using iP with
 | ind a ih=>
  intro b
  by_cases h:a=0
  ·subst h
   simp
  ·have e:=ih (a / 2) (by lia) (b / 2)
   have h1:=Nat.or_div_two (a:=a) (b:=b);have h2:=Nat.xor_div_two (a:=a) (b:=b);have h3:=Rn (a:=a) (b:=b);have m1:(a ||| b) % 2=(a % 2 ||| b % 2):=Nat.or_mod_two_pow (a:=a) (b:=b) (n:=1);have m2:(a ^^^ b) % 2=(a % 2 ^^^ b % 2):=Nat.xor_mod_two_pow (a:=a) (b:=b) (n:=1);have m3:(a &&& b) % 2=(a % 2 &&& b % 2):=NA (a:=a) (b:=b) (n:=1)
   rcases JK a with ha | ha <;> rcases JK b with hb | hb <;> rw[ha,hb]at m1 m2 m3 <;> simp only[Nat.reduceOr,Nat.reduceXor,Nat.reduceAnd]at m1 m2 m3 <;> lia
theorem dj(a b:Nat):EA (a:Int) (b:Int)=((a ^^^ b:Nat):Int):=by
 unfold EA;rw[Tj,P2,bV]
 lia
theorem gV:∀b:Nat,0 < b->∃i:Nat,b.testBit i=true/\(∀j,j < i->b.testBit j=false)/\b=(b &&& (b - 1))+2 ^ i/\∀j,(b &&& (b - 1)).testBit j=(b.testBit j&&!decide (i=j)):=by
 intro b
 induction b using iP with
 | ind b ih=>
  intro hb
  rcases JK b with h | h
  ·obtain⟨i,h1,h2,h3,h4⟩:=ih (b / 2) (by lia) (by lia)
   have d:=Rn (a:=b) (b:=b - 1);rw[show(b - 1) / 2=b / 2 - 1 by lia]at d;have m3:(b &&& (b - 1)) % 2=(b % 2 &&& (b - 1) % 2):=NA (a:=b) (b:=b - 1) (n:=1);rw[h]at m3;simp at m3;refine⟨i+1,by rw[FV];exact h1,λj hj=>?_,?_,λj=>?_⟩
   ·cases j with
    | zero=>rw[FU];exact wY (by lia)
    | succ j=>rw[FV];exact h2 j (by lia)
   ·rw[WE];lia
   ·cases j with
    | zero=>
     rw[FU,FU,wY (show ¬(b &&& (b - 1)) % 2=1 by lia),wY (show ¬b % 2=1 by lia)];rfl
    | succ j=>
     rw[FV,FV,d,h4 j]
     congr 2
     exact decide_eq_decide.mpr (by lia)
  ·have d:=Rn (a:=b) (b:=b - 1)
   rw[show(b - 1) / 2=b / 2 by omega,Nat.and_self]at d;have m3:(b &&& (b - 1)) % 2=(b % 2 &&& (b - 1) % 2):=NA (a:=b) (b:=b - 1) (n:=1);rw[h,show(b - 1) % 2=0 by lia]at m3;simp at m3;refine⟨0,by rw[FU];exact wX h,λj hj=>zX hj (Lm _),by rw[Nat.pow_zero];lia,λj=>?_⟩
   cases j with
   | zero=>
    rw[FU,FU,wY (show ¬(b &&& (b - 1)) % 2=1 by lia),wX h];rfl
   | succ j=>
    rw[FV,FV,d];simp
theorem ZL{b i:Nat}(h:b=(b &&& (b - 1))+2 ^ i)(hb:0 < b):BU (b:Int) (-(b:Int))=((2 ^ i:Nat):Int):=by
 unfold BU aD;rw[wX (JL b),wY (show ¬0<=-(b:Int) by lia)];show(b:Int) - ((((b:Int).toNat &&& (- -(b:Int) - 1).toNat:Nat)):Int)=_;rw[show(- -(b:Int) - 1).toNat=b - 1 by lia,Aq]
 lia
theorem dB(i:Nat):DG ((2 ^ i:Nat):Int)=i+1:=by
 unfold DG;have h:(2 ^ i:Nat)≠0:=Ec (iO i);rw[qY (by rw[beq_iff_eq];lia),Int.natAbs_natCast,Nat.log2_two_pow]
def Bm(b:Nat)(l:List Int):Prop:=l.Pairwise (· < ·)/\∀x:Int,x∈l↔0<=x/\b.testBit x.toNat=true
theorem SR{b N:Nat}(hb:b < 2 ^ N)(hN:N<=1000):Ok (Jm (b:Int)) (Bm b):=by
 unfold Jm Lv;simp only[AG,pC,CI]
 obtain⟨⟨t,l⟩,e,hI,hc⟩:=WI (ρ:=List Int) (c:=λs:List Int×Int=>some (s.2 != 0)) (q:=λs:List Int×Int=>BV ((Zt s.1 ((DG (BU s.2 (-s.2)):Int) - 1)).bind λl=>some (.nx l)) λv=>Fn (λw=>(v,w)) (some (.nx (BU s.2 (s.2 - 1)))))
  (λs=>∃c:Nat,s.2=c/\s.1.Pairwise (· < ·)/\(∀x∈s.1,0<=x/\x < N/\b.testBit x.toNat=true/\∀j:Nat,c.testBit j=true->x < j)/\(∀j:Nat,b.testBit j=true->(j:Int)∈s.1∨c.testBit j=true)/\(∀j:Nat,c.testBit j=true->b.testBit j=true))
  (λs=>N - s.1.length) (λs ⟨c,hc,h1,h2,h3,h4⟩=>by
   by_cases c0:c=0
   ·left
    rw[hc,c0];rfl
   ·right
    obtain⟨i,q1,q2,q3,q4⟩:=gV c (by lia)
    have hi:i < N:=by
     have:=h4 i q1
     refine dc λhle=>?_
     have h0:b.testBit i=false:=WD (AS hb (Ye (by decide) hle));rw[h0]at this;cases this
    have hlen:s.1.length < N:=by
     have rJ:(s.1++[(i:Int)]).Nodup:=by
      refine Ev.mpr ⟨h1.imp λh=>by lia,by simp,λx hx y hy=>?_⟩;rw[Ah.mp hy];have:=(h2 x hx).2.2.2 i q1
      lia
     have:=IU (k:=DI 0 N) rJ λx hx=>by
      rw[CN]
      rcases BI.mp hx with hx | hx
      ·have:=h2 x hx;omega
      ·rw[Ah.mp hx];omega
     rw[CA,As,BW]at this;exact this
    refine⟨by rw[hc];exact congrArg some (bne_iff_ne.mpr (by lia)),(s.1++[(i:Int)],((c &&& (c - 1):Nat):Int)),?_,⟨_,rfl,?_,λx hx=>?_,λj hj=>?_,λj hj=>?_⟩,?_⟩
    ·rw[hc,ZL q3 (by lia),dB,iE (by lia),show(c:Int) - 1=((c - 1:Nat):Int) by lia,P2]
     simp only[AG,CI,gN];rw[show((i+1:Nat):Int) - 1=(i:Int) by lia]
    ·refine Hj.mpr ⟨h1,UW _ _,λx hx y hy=>?_⟩
     rw[Ah.mp hy];exact(h2 x hx).2.2.2 i q1
    ·rcases BI.mp hx with hx | hx
     ·obtain⟨a1,a2,a3,a4⟩:=h2 x hx
      refine⟨a1,a2,a3,λj hj=>a4 j ?_⟩;rw[q4 j,Ax]at hj;exact hj.1
     ·rw[Ah.mp hx]
      refine⟨by lia,by lia,by rw[Aq];exact h4 i q1,λj hj=>?_⟩;rw[q4 j,Ax]at hj
      have qp:i≠j:=by simpa using hj.2
      have:¬j < i:=λz=>by rw[q2 j z]at hj;exact zX hj.1 AI
      lia
    ·rcases h3 j hj with h | h
     ·exact .inl (BF _ h)
     ·by_cases e:i=j
      ·subst e;exact .inl (by simp)
      ·right
       rw[q4 j,h,wY e];rfl
    ·rw[q4 j,Ax]at hj
     exact h4 j hj.1
    ·show N - (s.1++[(i:Int)]).length < N - s.1.length
     rw[As,BW]
     omega) wN ([],(b:Int)) ⟨b,rfl,.nil,λ_ h=>(nomatch h),λj hj=>.inr hj,λ_ h=>h⟩ (by show N - 0 < wN;unfold wN;lia)
 refine⟨t,?_,?_⟩
 ·rw[e]
  rfl
 ·obtain⟨c,qA,h1,h2,h3,h4⟩:=hI
  have c0:c=0:=by
   have hc:=Bh hc
   have:(c:Int)=0:=by rw[<-qA];simpa using hc
   lia
  subst c0;refine⟨h1,λx=>⟨λhx=>⟨(h2 x hx).1,(h2 x hx).2.2.1⟩,λ⟨x0,hx⟩=>?_⟩⟩
  rcases h3 x.toNat hx with h | h
  ·rwa [BD x0]at h
  ·simp at h
open PySem L2 L4
open Srt (ltL)
theorem IR:∀{l k:List Int},l.Pairwise (· < ·)->k.Pairwise (· < ·)->(∀x,x∈l↔x∈k)->l=k
 | [],[],_,_,_=>rfl
 | [],y :: k,_,_,h=>zX ((h y).mpr (AO ..)) EJ
 | x :: l,[],_,_,h=>zX ((h x).mp (AO ..)) EJ
 | x :: l,y :: k,hl,hk,h=>by
  have h1:=Np.mp hl;have h2:=Np.mp hk
  have e:x=y:=by
   rcases AV.mp ((h x).mp (AO ..))with a | a
   ·exact a
   ·rcases AV.mp ((h y).mpr (AO ..))with b | b
    ·exact b.symm
    ·have:=h2.1 x a
     have:=h1.1 y b
     lia
  subst e
  congr 1
  refine IR h1.2 h2.2 λz=>⟨λhz=>?_,λhz=>?_⟩
  ·rcases AV.mp ((h z).mp (AJ _ hz))with a | a
   ·have:=h1.1 z hz;lia
   ·exact a
  ·rcases AV.mp ((h z).mpr (AJ _ hz))with a | a
   ·have:=h2.1 z hz;lia
   ·exact a
def WY:List Int->List (List Int)
 | []=>[[]]
 | x :: l=>(WY l).map (x :: ·)++WY l
theorem LW(P:Int->Bool):∀l:List Int,l.filter P∈WY l
 | []=>by simp[WY]
 | x :: l=>by
  unfold WY;rw[List.filter_cons];split
  ·exact BF _ (Al.mpr ⟨_,LW P l,rfl⟩)
  ·exact BP _ (LW P l)
def sts(o g:Nat):List (List Int):=(OI o g).getD []
def Stg(o g:Nat)(r:List Int):Prop:=r.length=g/\(∀x∈r,0<=x/\x < (o:Int))/\r.Pairwise (· < ·)
theorem jh:∀o:Nat,o < 9->∀g:Nat,g < 9->g<=o->1<=g->decide (E1 (o,[]) g=some (sts o g)/\sts o g≠[]/\(sts o g).length<=70)=true:=by decide +kernel
theorem QR(o:Nat)(ho:o < 9)(g:Nat)(h8:g < 9)(hg:g<=o)(h1:1<=g):E1 (o,[]) g=some (sts o g)/\sts o g≠[]/\(sts o g).length<=70:=of_decide_eq_true (jh o ho g h8 hg h1)
theorem jg:∀o:Nat,o < 9->∀g:Nat,g < 9->g<=o->1<=g->decide (∀r∈sts o g,r.length=g/\(∀x∈r,0<=x/\x < (o:Int))/\r.Pairwise (· < ·))=true:=by decide +kernel
theorem nT(o:Nat)(ho:o < 9)(g:Nat)(h8:g < 9)(hg:g<=o)(h1:1<=g):∀r∈sts o g,r.length=g/\(∀x∈r,0<=x/\x < (o:Int))/\r.Pairwise (· < ·):=of_decide_eq_true (jg o ho g h8 hg h1)
theorem jf:∀o:Nat,o < 9->∀g:Nat,g < 9->g<=o->1<=g->decide ((sts o g).Pairwise (λa b=>ltL a b=true)/\∀l∈WY (DI 0 o),l.length=g->l∈sts o g)=true:=by decide +kernel
theorem iZ(o:Nat)(ho:o < 9)(g:Nat)(h8:g < 9)(hg:g<=o)(h1:1<=g):(sts o g).Pairwise (λa b=>ltL a b=true)/\∀l∈WY (DI 0 o),l.length=g->l∈sts o g:=of_decide_eq_true (jf o ho g h8 hg h1)
section
variable{o g:Nat}{us:List (Int×Int)}{r:List Int}
theorem Yu(ho:o < 9)(hg:g<=o)(h1:1<=g):E1 (o,us) g=some (sts o g):=(show E1 (o,us) g=E1 (o,[]) g from rfl).trans (QR o ho g (by lia) hg h1).1
theorem FH(ho:o < 9)(hg:g<=o)(h1:1<=g):r∈sts o g↔Stg o g r:=by
 have a:=nT o ho g (by lia) hg h1;have b:=(iZ o ho g (by lia) hg h1).2;refine⟨a r,λ⟨l,q,p⟩=>?_⟩
 have e:r=(DI 0 o).filter λx=>decide (x∈r):=IR p ((Lu 0 o).filter _) λx=>by
  rw[BN,CN,decide_eq_true_eq];exact⟨λh=>⟨⟨(q x h).1,by have:=(q x h).2;lia⟩,h⟩,λh=>h.2⟩
 have:=b _ (LW (λx=>decide (x∈r)) (DI 0 o)) (by rw[<-e];exact l);rwa [<-e]at this
theorem ai(ho:o < 9)(hg:g<=o)(h1:1<=g):(sts o g).Nodup:=by
 have a:=(iZ o ho g (by lia) hg h1).1
 exact a.imp λ{a b} ab e=>by
  subst e;rw[Va]at ab;cases ab
end
theorem Sa(h:ev[i]?=some r):(C0 ev).take (i+1)=(C0 ev).take i++[((i:Int),r)]:=by
 rw[Jh]
 congr 1
 unfold C0;rw[Aa,Hl,h];simp
theorem oJ{ev:List (List Int)}(hn:ev.Nodup){i:Nat}{r:List Int}(h:ev[i]?=some r):Ag (nuF ev) r=some (i:Int):=by
 have key:∀k:Nat,k<=ev.length->∀(j:Nat) (s:List Int),j < k->ev[j]?=some s->Ag (((C0 ev).take k).foldl nuS []) s=some (j:Int):=by
  intro k
  induction k with
  | zero=>intro _ j s hj;exact zX hj (Lm _)
  | succ k ih=>
   intro hk j s hj hs;have qE:ev[k]?=some (ev[k]'(by lia)):=AZ (by lia);rw[Sa qE,Go];show Ag (Bz _ _ _) s=_;rw[Cg]
   by_cases e:j=k
   ·subst e
    rw[qE]at hs;cases hs;rw[qX rfl]
   ·rw[qY,ih (by lia) j s (by lia) hs]
    intro c;obtain⟨rH,e2⟩:=AE.mp hs;rw[<-e2]at c;exact Sx.mp hn j k rH (by lia) (by lia) c
 have:=key ev.length (AK _) i r (AE.mp h).1 h;rwa [EY (by unfold C0;simp)]at this
def Hb(H:List Int)(n:Nat)(P:Nat->Nat->Prop):Prop:=H.length=n/\∀p:Nat,p < n->∃h:Nat,H[p]?=some (h:Int)/\∀j,h.testBit j=true↔P p j
theorem cM{n k:Nat}:∀(r:List Int) {H:List Int} {P:Nat->Nat->Prop},(∀x∈r,0<=x/\x < (n:Int))->Hb H n P->Hb (r.foldl (hvP (k:Int)) H) n (λp j=>P p j∨((p:Int)∈r/\j=k))
 | [],H,P,_,h=>⟨h.1,λp hp=>by
  obtain⟨b,h1,h2⟩:=h.2 p hp
  exact⟨b,h1,λj=>by rw[h2];simp⟩⟩
 | x :: r,H,P,hr,h=>by
  obtain⟨x0,x1⟩:=hr x (AO ..)
  have h1:Hb (hvP (k:Int) H x) n (λp j=>P p j∨((p:Int)=x/\j=k)):=by
   refine⟨by unfold hvP;rw[DS];exact h.1,λp hp=>?_⟩;obtain⟨b,b1,b2⟩:=h.2 p hp;unfold hvP;rw[DP]
   by_cases c:x.toNat=p
   ·rw[qX c,qX (by rw[h.1];lia)]
    refine⟨b ||| 2 ^ k,?_,λj=>?_⟩
    ·rw[Bs,c,b1,Og,Aq,show(1:Int) * 2 ^ k=((2 ^ k:Nat):Int) by rw[pw];norm_cast,Tj]
    ·rw[Sw,Bk,b2,Ij]
     rw[decide_eq_true_eq]
     have:(p:Int)=x:=by lia
     exact or_congr_right ⟨λe=>⟨this,e.symm⟩,λe=>e.2.symm⟩
   ·rw[qY c]
    refine⟨b,b1,λj=>?_⟩;rw[b2]
    have:¬(p:Int)=x:=by lia
    exact⟨.inl,λz=>z.elim id λz=>zX z.1 this⟩
  have h2:=cM (k:=k) r (λy hy=>hr y (AJ _ hy)) h1;refine⟨h2.1,λp hp=>?_⟩;obtain⟨b,b1,b2⟩:=h2.2 p hp;refine⟨b,b1,λj=>(b2 j).trans ?_⟩;dsimp only;rw[AV]
  constructor
  ·rintro((a | ⟨a,e⟩) | ⟨a,e⟩)
   ·exact .inl a
   ·exact .inr ⟨.inl a,e⟩
   ·exact .inr ⟨.inr a,e⟩
  ·rintro(a | ⟨a | a,e⟩)
   ·exact .inl (.inl a)
   ·exact .inl (.inr ⟨a,e⟩)
   ·exact .inr ⟨a,e⟩
theorem ot{n:Nat}{ev:List (List Int)}(hr:∀r∈ev,∀x∈r,0<=x/\x < (n:Int)):Hb (hvF n ev) n (λp j=>∃r,ev[j]?=some r/\(p:Int)∈r):=by
 have key:∀k:Nat,k<=ev.length->Hb (((C0 ev).take k).foldl hvS (hv0 n)) n (λp j=>j < k/\∃r,ev[j]?=some r/\(p:Int)∈r):=by
  intro k
  induction k with
  | zero=>
   intro _;refine⟨by unfold hv0;rw[iQ,SB,AC,CA],λp hp=>⟨0,?_,λj=>by simp⟩⟩;unfold hv0;rw[iQ,SB,Aa,AZ (by rw[CA];exact hp)];rfl
  | succ k ih=>
   intro hk;have qE:ev[k]?=some (ev[k]'(by lia)):=AZ (by lia);rw[Sa qE,Go];have h1:=cM (k:=k) ev[k] (hr _ (De _)) (ih (by lia));refine⟨h1.1,λp hp=>?_⟩;obtain⟨b,b1,b2⟩:=h1.2 p hp;refine⟨b,b1,λj=>(b2 j).trans ?_⟩
   constructor
   ·rintro(⟨a,q⟩ | ⟨a,rfl⟩)
    ·exact⟨by lia,q⟩
    ·exact⟨by lia,_,qE,a⟩
   ·rintro⟨a,r,q1,q2⟩
    by_cases e:j=k
    ·subst e
     rw[qE]at q1;cases q1;exact .inr ⟨q2,rfl⟩
    ·exact .inl ⟨by lia,r,q1,q2⟩
 have:=key ev.length (AK _);rw[EY (by unfold C0;simp)]at this;refine⟨this.1,λp hp=>?_⟩;obtain⟨b,b1,b2⟩:=this.2 p hp;refine⟨b,b1,λj=>(b2 j).trans ?_⟩;exact⟨λh=>h.2,λ⟨r,h1,h2⟩=>⟨(AE.mp h1).1,r,h1,h2⟩⟩
theorem HQ(h:l.Nodup):(Bt l).Pairwise (· < ·):=(SC (K6 l) ((Cb l).nodup_iff.mpr h)).imp λ⟨a,b⟩=>by lia
theorem Hm{s:List Int}(h:s.Pairwise (· < ·)):s.Nodup:=h.imp λh=>by lia
def wst(r:List Int)(a b:Int):List Int:=r.map λx=>if x=a then b else x
theorem m9(hl:r.length<=1000)(a b:Int):JB r a b=some (wst r a b):=by
 unfold JB JA
 rw[Hz (f:=λx=>if x=a then b else x) (by lia) λx _=>by
  by_cases c:x=a
  ·rw[wX c,qX rfl,qX c]
  ·rw[wY c,qY AI,qY c]]
 rfl
theorem Ho(ha:a∈r):x∈wst r a b↔x=b∨(x∈r/\x≠a):=by
 unfold wst;rw[Al]
 constructor
 ·rintro⟨y,hy,rfl⟩
  split
  ·exact .inl rfl
  ·rename_i c;exact .inr ⟨hy,c⟩
 ·rintro(rfl | ⟨h,c⟩)
  ·exact⟨a,ha,qX rfl⟩
  ·exact⟨x,h,qY c⟩
theorem WG(hn:r.Nodup)(hb:b∉r):(wst r a b).Nodup:=by
 unfold wst Is;rw[Bc]
 refine hn.imp_of_mem λ{x y} hx hy ne=>?_
 split <;> split
 ·rename_i c d;exact zX (c.trans d.symm) ne
 ·intro e;exact hb (by rw[e];exact hy)
 ·intro e;exact hb (by rw[<-e];exact hx)
 ·exact ne
structure Fk(o g:Nat)(us:List (Int×Int))(kd:Str)(f:Fp):Prop where
 ev:f.ev=sts o g
 kd:f.kd=kd
 tk:f.tk=tkl o us
 nu:f.nu=nuF (sts o g)
 hv:f.hv=hvF o (sts o g)
 pl:f.pb.length=(sts o g).length
 pb:∀(i:Nat) (r:List Int),(sts o g)[i]?=some r->∃n:Nat,f.pb[i]?=some (n:Int)/\n < 256/\∀x:Int,0<=x->x < 8->(n.testBit x.toNat=true↔x∈r)
section
variable{o g:Nat}{us:List (Int×Int)}{kd:Str}{f:Fp}{r r':List Int}{i:Nat}
theorem gx(h:FB o us)(hg:g<=o)(h1:1<=g):Ok (Ly (o,us) g kd) (Fk o g us kd):=by
 have sm:=h.sm
 have hb:∀r∈sts o g,∃n:Nat,Fq r=some (n:Int)/\n < 256/\∀x:Int,0<=x->x < 8->(n.testBit x.toNat=true↔x∈r):=λr hr=>by
  obtain⟨-,q,-⟩:=(FH sm hg h1).mp hr
  obtain⟨v,e,n,rfl,b1,b2⟩:=lg (l:=r) λx hx=>by have:=q x hx;lia
  exact⟨n,e,b1,λx x0 x7=>by rw[b2 x.toNat (by lia),BD x0]⟩
 obtain⟨-,-,hl⟩:=QR o sm g (by lia) hg h1;unfold Ly;rw[Yu sm hg h1,eX h];simp only[AG]
 rw[Hz (f:=λr=>(Fq r).getD 0) (by lia) λr hr=>by
  obtain⟨n,e,-⟩:=hb r hr;rw[e]
  rfl]
 simp only[AG];rw[qX ⟨by lia,by show o<=1000;lia,λr hr x hx=>((FH sm hg h1).mp hr).2.1 x hx⟩];refine⟨_,rfl,rfl,rfl,rfl,rfl,rfl,AC _,λi r hr=>?_⟩;obtain⟨n,e,b1,b2⟩:=hb r (BE hr);refine⟨n,?_,b1,b2⟩;show((sts o g).map _)[i]?=_;rw[Aa,hr];show some ((Fq r).getD 0)=_;rw[e];rfl
def Lk1(us:List (Int×Int))(r r':List Int):Prop:=∃a∈r,∃b∈Tg us a,b∉r/\Bt (wst r a b)=r'
def LkA(us:List (Int×Int))(r r':List Int):Prop:=∃s,InS us r (·∈r') s
theorem Xh(h:FB o us){a b:Int}(hr:Stg o g r)(ha:a∈r)(hb:b∈Tg us a)(tD:b∉r):Stg o g (Bt (wst r a b)):=by
 obtain⟨l,q,p⟩:=hr;have qa:=q a ha;have qb:=(h.tg qa.1 qa.2).2.1 b hb;refine⟨by rw[(Cb _).length_eq];unfold wst;rw[AC];exact l,λx hx=>?_,HQ (WG (Hm p) tD)⟩
 rcases(Ho ha).mp (BJ.mp hx)with rfl | ⟨h,_⟩
 ·exact qb
 ·exact q x h
theorem RW(h:l[i]?=some x):atI l (i:Int)=some x:=Ka (by lia) (by rw[Aq];exact h)
theorem dC{b n:Nat}{P:Nat->Prop}(hb:∀j,b.testBit j=true↔P j)(j:Nat):(b ||| 2 ^ n).testBit j=true↔P j∨n=j:=by
 rw[Sw,Bk,hb,Ij,decide_eq_true_eq]
theorem NH{n:Nat}(h:n<=1000000):NI 1 (n:Int)=some ((2 ^ n:Nat):Int):=by
 unfold NI;rw[qX ⟨by lia,by lia,by decide⟩,Aq,pw]
 norm_cast
theorem oF(h:FB o us)(hg:g<=o)(h1:1<=g)(F:Fk o g us kd f)(hr:(sts o g)[i]?=some r):Ok (Di f i) λv=>∃l:Nat,v=l/\∀j,l.testBit j=true↔∃r',(sts o g)[j]?=some r'/\Lk1 us r r':=by
 have sm:=h.sm;have hS:=(FH sm hg h1).mp (BE hr);obtain⟨-,-,hl⟩:=QR o sm g (by lia) hg h1;unfold Di Dg;rw[F.ev,RW hr];simp only[AG,CI];refine OkF.out (OkF.seq (OkF.for (λpre (s:Int)=>∃l:Nat,s=l/\∀j,l.testBit j=true↔∃r',(sts o g)[j]?=some r'/\∃a∈pre,∃b∈Tg us a,b∉r/\Bt (wst r a b)=r') ⟨0,rfl,λj=>by simp⟩ ?_) ?_)
 ·rintro pre a s ha hp ⟨l,rfl,hl1⟩
  have qa:=hS.2.1 a ha;rw[F.tk,iW qa.1 qa.2];simp only[AG];refine OkF.map (N:=λs:Int=>∃l:Nat,s=l/\∀j,l.testBit j=true↔∃r',(sts o g)[j]?=some r'/\((∃a∈pre,∃b∈Tg us a,b∉r/\Bt (wst r a b)=r')∨∃b∈Tg us a,b∉r/\Bt (wst r a b)=r')) (OkF.for (λuN (s:Int)=>∃l:Nat,s=l/\∀j,l.testBit j=true↔∃r',(sts o g)[j]?=some r'/\((∃a∈pre,∃b∈Tg us a,b∉r/\Bt (wst r a b)=r')∨∃b∈uN,b∉r/\Bt (wst r a b)=r')) ⟨l,rfl,λj=>by rw[hl1];simp⟩ ?_) ?_
  ·rintro uN b s hb tH ⟨l,rfl,qW⟩
   by_cases c:b∈r
   ·rw[wX c]
    refine .nx ⟨l,rfl,λj=>(qW j).trans ⟨λ⟨r',e,z⟩=>⟨r',e,z.imp id λ⟨b,hb,z⟩=>⟨b,BF _ hb,z⟩⟩,λ⟨r',e,z⟩=>⟨r',e,z.imp id λ⟨b',qg,z⟩=>?_⟩⟩⟩
    rcases BI.mp qg with q | q
    ·exact⟨b',q,z⟩
    ·rw[Ah.mp q]at z
     exact zX c z.1
   ·rw[wY c]
    have hw:=Xh h hS ha hb c;obtain⟨k,hk,ek⟩:=CQ ((FH sm hg h1).mpr hw)
    have xc:(sts o g)[k]?=some (Bt (wst r a b)):=by rw[AZ hk,ek]
    simp only[iT,if_true];rw[m9 (by rw[hS.1];lia)];simp only[AG];rw[Vk (by unfold wst;rw[AC,hS.1];lia)];simp only[AG];rw[F.nu,oJ (ai sm hg h1) xc];simp only[AG];rw[NH (by lia)];simp only[AG];rw[Tj];refine .nx ⟨_,rfl,λj=>(dC qW j).trans ⟨?_,?_⟩⟩
    ·rintro(⟨r',e,z⟩ | rfl)
     ·exact⟨r',e,z.imp id λ⟨b,hb,z⟩=>⟨b,BF _ hb,z⟩⟩
     ·exact⟨_,xc,.inr ⟨b,by simp,c,rfl⟩⟩
    ·rintro⟨r',e,z | ⟨b',qg,z1,z2⟩⟩
     ·exact .inl ⟨r',e,.inl z⟩
     ·rcases BI.mp qg with q | q
      ·exact .inl ⟨r',e,.inr ⟨b',q,z1,z2⟩⟩
      ·right
       rw[Ah.mp q]at z2;rw[<-z2,<-xc]at e;exact(List.getElem?_inj hk (ai sm hg h1)).mp e.symm
  ·rintro s ⟨l,rfl,qW⟩
   refine⟨l,rfl,λj=>(qW j).trans ⟨λ⟨r',e,z⟩=>⟨r',e,?_⟩,λ⟨r',e,a',ur,z⟩=>⟨r',e,?_⟩⟩⟩
   ·rcases z with⟨a',ur,z⟩ | z
    ·exact⟨a',BF _ ur,z⟩
    ·exact⟨a,by simp,z⟩
   ·rcases BI.mp ur with q | q
    ·exact .inl ⟨a',q,z⟩
    ·rw[Ah.mp q]at z
     exact .inr z
 ·rintro s ⟨l,rfl,hl1⟩
  exact .rt ⟨l,rfl,hl1⟩
theorem Zh{α:Type}{ev:List α}{pre:List (Int×α)}{x:Int×α}(h:pre++[x] <+: C0 ev):∃r,ev[pre.length]?=some r/\x=((pre.length:Int),r):=by
 obtain⟨t,ht⟩:=h
 have hx:(C0 ev)[pre.length]?=some x:=by rw[<-ht,D4];simp
 unfold C0 at hx;rw[Aa,Hl]at hx
 cases hr:ev[pre.length]? with
 | none=>rw[hr]at hx;cases hx
 | some r=>rw[hr]at hx;exact⟨r,rfl,by have:=Bh hx;rw[<-this];simp⟩
theorem pL(h:FB o us)(hg:g<=o)(h1:1<=g)(F:Fk o g us kd f)(hr:(sts o g)[i]?=some r):Ok (Dj f i) λv=>∃l:Nat,v=l/\∀j,l.testBit j=true↔∃r',(sts o g)[j]?=some r'/\LkA us r r':=by
 have sm:=h.sm;have hS:=(FH sm hg h1).mp (BE hr);obtain⟨-,-,hl⟩:=QR o sm g (by lia) hg h1;unfold Dj Dh;rw[F.ev,RW hr];simp only[AG,CI];refine OkF.out (OkF.seq (OkF.for (λpre (s:Int)=>∃l:Nat,s=l/\∀j,l.testBit j=true↔j < pre.length/\∃r',(sts o g)[j]?=some r'/\LkA us r r') ⟨0,rfl,λj=>by simp⟩ ?_) ?_)
 ·rintro pre x s hx hp ⟨l,rfl,hl1⟩
  obtain⟨n',e1,rfl⟩:=Zh hp
  have qt:pre.length < (sts o g).length:=by rw[<-F.pl];exact(AE.mp e1).1
  have er:(sts o g)[pre.length]?=some ((sts o g)[pre.length]):=AZ qt;generalize (sts o g)[pre.length]=r' at er;have tR:=(FH sm hg h1).mp (BE er);obtain⟨n,e2,n1,n2⟩:=F.pb _ _ er;rw[e1]at e2;cases e2;obtain⟨b,eb,hb⟩:=lS h n1 (rest:=r) hS.2.1 (Hm hS.2.2);rw[F.tk];dsimp only;rw[eb];simp only[AG]
  have qg:b=true↔LkA us r r':=by
   rw[hb]
   refine exists_congr λs=>⟨λq=>q.imp λx hx=>?_,λq=>?_⟩
   ·intro z
    have:=InS.rg h hS.2.1 q x hx;exact(n2 x this.1 (by lia)).mp z
   ·refine q.imp λx _ z=>?_
    have:=tR.2.1 x z;exact(n2 x this.1 (by lia)).mpr z
  have up:∀j,(j < (pre++[((pre.length:Int),(n:Int))]).length/\∃r',(sts o g)[j]?=some r'/\LkA us r r')↔(j < pre.length/\∃r',(sts o g)[j]?=some r'/\LkA us r r')∨(pre.length=j/\LkA us r r'):=λj=>by
   rw[As,BW]
   constructor
   ·rintro⟨a,s,q1,q2⟩
    by_cases e:pre.length=j
    ·subst e
     rw[er]at q1;cases q1;exact .inr ⟨rfl,q2⟩
    ·exact .inl ⟨by lia,s,q1,q2⟩
   ·rintro(⟨a,q⟩ | ⟨rfl,q⟩)
    ·exact⟨by lia,q⟩
    ·exact⟨by lia,r',er,q⟩
  cases b with
  | true=>
   have hL:=qg.mp rfl;rw[qX rfl,NH (by lia)];simp only[AG];rw[Tj];exact .nx ⟨_,rfl,λj=>(dC hl1 j).trans (Iff.trans ⟨λz=>z.imp id λe=>⟨e,hL⟩,λz=>z.imp id λe=>e.1⟩ (up j).symm)⟩
  | false=>
   have hL:¬LkA us r r':=λz=>by cases qg.mpr z
   exact .nx ⟨l,rfl,λj=>(hl1 j).trans (Iff.trans ⟨.inl,λz=>z.elim id λe=>zX e.2 hL⟩ (up j).symm)⟩
 ·rintro s ⟨l,rfl,hl1⟩
  refine .rt ⟨l,rfl,λj=>(hl1 j).trans ⟨λz=>z.2,λ⟨r',e,z⟩=>⟨?_,r',e,z⟩⟩⟩;rw[show(C0 f.pb).length=f.pb.length by unfold C0;simp,F.pl];exact(AE.mp e).1
def Lk(kd:Str)(us:List (Int×Int))(r r':List Int):Prop:=if kd = "one" then Lk1 us r r' else LkA us r r'
theorem b5(h:FB o us)(hg:g<=o)(h1:1<=g)(F:Fk o g us kd f)(hr:(sts o g)[i]?=some r):Ok (E3 f i) λv=>∃l:Nat,v=l/\∀j,l.testBit j=true↔∃r',(sts o g)[j]?=some r'/\Lk kd us r r':=by
 have sm:=h.sm;obtain⟨-,-,hl⟩:=QR o sm g (by lia) hg h1;have hi:=(AE.mp hr).1;unfold E3 KG;rw[qX ⟨by lia,by lia⟩,F.kd]
 by_cases c:kd = "one"
 ·rw[wX c,qX rfl,show Lk kd us r=Lk1 us r from funext λ_=>qX c]
  exact oF h hg h1 F hr
 ·rw[wY c,qY AI,show Lk kd us r=LkA us r from funext λ_=>qY c]
  exact pL h hg h1 F hr
theorem dF(h:FB o us)(hg:g<=o)(h1:1<=g)(F:Fk o g us kd f)(hr:(sts o g)[i]?=some r){c:Int}(hc:0<=c/\c < o):Ok (E4 f i c) λv=>∃l:Nat,v=l/\∀j,l.testBit j=true↔∃r',(sts o g)[j]?=some r'/\Lk kd us r r'/\c∈r':=by
 obtain⟨v,e,l,rfl,hl⟩:=b5 h hg h1 F hr
 obtain⟨-,hv⟩:=ot (n:=o) (ev:=sts o g) λr hr x hx=>((FH h.sm hg h1).mp hr).2.1 x hx
 obtain⟨b,b1,b2⟩:=hv c.toNat (by lia);unfold E4 GP;dsimp only;rw[e,F.hv,Ka hc.1 b1];simp only[AG];rw[P2];refine⟨_,rfl,_,rfl,λj=>?_⟩;rw[Rj,Ax,hl,b2];dsimp only;rw[BD hc.1];exact⟨λ⟨⟨r',e1,q1⟩,r'',e2,q2⟩=>by rw[e1]at e2;cases e2;exact⟨r',e1,q1,q2⟩,λ⟨r',e1,q1,q2⟩=>⟨⟨r',e1,q1⟩,r',e1,q2⟩⟩
theorem hX(h:FB o us)(F:Fk o g us kd f)(hr:(sts o g)[i]?=some r):FZ f i=some ((DI 0 o).filter λc=>!decide (c∈r)):=by
 have sm:=h.sm;unfold FZ HH;rw[F.ev,RW hr,F.tk,show(tkl o us).length=o by unfold tkl;rw[AC,CA]];simp only[AG,CI];rw[NK (by lia) (by lia),Aq];simp only[AG];rw[Mq (P:=λc=>!decide (c∈r)) (by rw[CA];lia) λ_ _=>rfl];rfl
end
open PySem L2 L4
structure Dl(f:Fp)(N:Nat)(cl:Nat->List Int)(B:Nat->Int->Nat->Prop):Prop where
 ln:f.ev.length=N
 sm:N<=400
 cs:∀n,n < N->FZ f n=some (cl n)/\(cl n).length<=1000/\(cl n).Pairwise (· < ·)
 bh:∀n,n < N->∀c∈cl n,Ok (E4 f n c) λv=>∃l:Nat,v=l/\∀j,l.testBit j=true↔B n c j
 rg:∀n c j,B n c j->j < N
abbrev TL:=List (Int×(Int×Int))
structure Fa(N:Nat)(cl:Nat->List Int)(B:Nat->Int->Nat->Prop)(T:TL):Prop where
 nd:(T.map (·.1)).Nodup
 rg:∀n∈T.map (·.1),0<=n/\n < (N:Int)
 ok:∀(m:Nat) z,Ag T (m:Int)=some z->1<=z.1/\z.2∈cl m/\(∀j,B m z.2 j->∃y,Ag T (j:Int)=some y/\y.1 < z.1)/\(∀c∈cl m,c < z.2->∃j,B m c j/\∀y,Ag T (j:Int)=some y->z.1<=y.1)/\(2<=z.1->∀c∈cl m,∃j,B m c j/\∀y,Ag T (j:Int)=some y->z.1<=y.1+1)
 no:∀m:Nat,m < N->Ag T (m:Int)=none->∀c∈cl m,∃j,B m c j/\Ag T (j:Int)=none
 hi:∀(m:Nat) z,Ag T (m:Int)=some z->z.1<=N
section
variable{f:Fp}{N:Nat}{cl:Nat->List Int}{B:Nat->Int->Nat->Prop}{b:Nat}
def Ph(B:Nat->Int->Nat->Prop)(b m:Nat)(c:Int):Prop:=∀j,B m c j->b.testBit j=false
def Fst(cl:Nat->List Int)(B:Nat->Int->Nat->Prop)(b m:Nat)(c:Int):Prop:=c∈cl m/\Ph B b m c/\∀c'∈cl m,c' < c->¬Ph B b m c'
theorem Qp(h:¬Ph B b m c):∃j,B m c j/\b.testBit j=true:=FD λz=>h λj hj=>by
 cases hb:b.testBit j with
 | false=>rfl
 | true=>exact zX ⟨j,hj,hb⟩ z
theorem dH:(a &&& b)=0↔∀j,a.testBit j=true->b.testBit j=false:=by
 constructor
 ·intro h j hj
  have:pq (a &&& b) j=pq 0 j:=by rw[h]
  rw[Rj,hj,jA,dZ]at this;exact this
 ·intro h
  refine Nat.eq_of_testBit_eq λj=>?_
  rw[Rj,dZ]
  cases ha:a.testBit j with
  | false=>rfl
  | true=>rw[h j ha];rfl
def FN(cl:Nat->List Int)(B:Nat->Int->Nat->Prop)(b:Nat)(K:List (Int×Int)):Prop:=(K.map (·.1)).Nodup/\(∀n∈K.map (·.1),0<=n/\b.testBit n.toNat=true)/\∀(m:Nat) c,Ag K (m:Int)=some c↔b.testBit m=true/\Fst cl B b m c
theorem XI(hb:b < 2 ^ N)(h:b.testBit i=true):i < N:=dc λhle=>by
 have h0:b.testBit i=false:=WD (AS hb (Ye (by decide) hle));rw[h0]at h;cases h
theorem Na{α:Type}{K:List (Int×α)}(h1:(K.map (·.1)).Nodup)(h2:∀n∈K.map (·.1),0<=n/\n < (N:Int)):K.length<=N:=by
 have:=IU (k:=DI 0 N) h1 λx hx=>by rw[CN];have:=h2 x hx;lia
 rwa [CA,AC]at this
open Classical in
theorem SZ(D:Dl f N cl B)(hb:b < 2 ^ N):Ok (D0 f (b:Int)) (FN cl B b):=by
 obtain⟨l,e,lu,lm⟩:=SR hb (by have:=D.sm;lia)
 have ς:∀x∈l,0<=x/\x < (N:Int):=λx hx=>by
  obtain⟨x0,hx⟩:=(lm x).mp hx;have:=XI hb hx
  lia
 unfold D0 HG;rw[e];simp only[AG,CI];refine OkF.out (OkF.seq (OkF.for (λpre (s:List (Int×Int))=>(s.map (·.1)).Nodup/\(∀n∈s.map (·.1),n∈pre)/\∀(m:Nat) c,Ag s (m:Int)=some c↔(m:Int)∈pre/\Fst cl B b m c) ⟨by simp,λ_ h=>h,λm c=>⟨λh=>(nomatch h),λh=>(nomatch h.1)⟩⟩ ?_) ?_)
 ·rintro pre x s hx hp ⟨s1,s2,s3⟩
  obtain⟨x0,yE⟩:=(lm x).mp hx
  obtain⟨m,rfl⟩:∃m:Nat,x=m:=⟨x.toNat,by lia⟩
  rw[Aq]at yE;have hm:=XI hb yE;obtain⟨c1,c2,c3⟩:=D.cs m hm
  have hxp:(m:Int)∉pre:=by
   have:=lu.sublist hp.sublist;rw[Hj]at this;intro z;have:=this.2.2 _ z _ (UY _)
   lia
  rw[c1];simp only[AG]
  rw[Mq (P:=λc=>decide (Ph B b m c)) (by lia) λc hc=>by
   obtain⟨v,e1,q,rfl,hq⟩:=D.bh m hm c hc;rw[e1];simp only[AG];rw[P2]
   congr 1
   refine decide_eq_decide.mpr ?_;rw[show((q &&& b:Nat):Int)=0↔(q &&& b)=0 by lia,dH]
   exact forall_congr' λj=>imp_congr_left (hq j)]
  simp only[AG,CI]
  have fl:∀c,c∈(cl m).filter (λc=>decide (Ph B b m c))↔c∈cl m/\Ph B b m c:=λc=>by rw[BN,decide_eq_true_eq]
  have fu:((cl m).filter λc=>decide (Ph B b m c)).Pairwise (· < ·):=c3.filter _;generalize (cl m).filter (λc=>decide (Ph B b m c))=lost at fl fu
  cases lost with
  | nil=>
   have nf:∀c,¬Fst cl B b m c:=λc ⟨h1,h2,_⟩=>nomatch (fl c).mpr ⟨h1,h2⟩
   refine .nx ⟨s1,λn hn=>BF _ (s2 n hn),λk c=>(s3 k c).trans ⟨λ⟨a,q⟩=>⟨BF _ a,q⟩,λ⟨a,q⟩=>⟨?_,q⟩⟩⟩
   rcases BI.mp a with a | a
   ·exact a
   ·have e:k=m:=by have:=Ah.mp a;lia
    subst e;exact zX q (nf c)
  | cons c0 lost=>
   have f0:Fst cl B b m c0:=by
    obtain⟨h1,h2⟩:=(fl c0).mp (AO ..);refine⟨h1,h2,λc' h3 h4 h5=>?_⟩
    rcases AV.mp ((fl c').mpr ⟨h3,h5⟩)with h | h
    ·lia
    ·have:=(Np.mp fu).1 c' h;lia
   have f1:∀c,Fst cl B b m c↔c=c0:=λc=>⟨λ⟨h1,h2,h3⟩=>by
    rcases O7 c c0 with h | h | h
    ·exact zX h2 (f0.2.2 c h1 h)
    ·exact h
    ·exact zX f0.2.1 (h3 c0 f0.1 h),λh=>by rw[h];exact f0⟩
   have ya:s.length<=N:=Na s1 λn hn=>ς n ((List.sublist_append_left pre [(m:Int)]).trans hp.sublist |>.subset (s2 n hn))
   have hN:=D.sm;rw[show(!(c0 :: lost).isEmpty)=true from rfl,qX rfl,show atI (c0 :: lost) 0=some c0 from Ka (by decide) rfl];simp only[AG];rw[show Km s (m:Int) c0=some (Bz s (m:Int) c0)from qX (by lia)];refine .nx ⟨?_,λn hn=>?_,λk c=>?_⟩
   ·rw[GX]
    split
    ·exact s1
    ·rename_i hk
     exact Ev.mpr ⟨s1,by simp,λy hy z hz=>by rw[Ah.mp hz];intro e;subst e;exact hk hy⟩
   ·rw[GX]at hn
    split at hn
    ·exact BF _ (s2 n hn)
    ·rcases BI.mp hn with h | h
     ·exact BF _ (s2 n h)
     ·exact BP _ h
   ·rw[Cg]
    by_cases e:(k:Int)=m
    ·have e':k=m:=by lia
     subst e';rw[qX rfl,f1];exact⟨λh=>⟨by simp,(Bh h).symm⟩,λh=>by rw[h.2]⟩
    ·rw[qY e,s3]
     refine and_congr_left λ_=>⟨BF _,λh=>?_⟩
     rcases BI.mp h with h | h
     ·exact h
     ·exact zX (Ah.mp h) e
 ·rintro s ⟨s1,s2,s3⟩
  refine .rt ⟨s1,λn hn=>(lm n).mp (s2 n hn),λm c=>(s3 m c).trans (and_congr_left λ_=>?_)⟩;rw[lm];exact⟨λh=>by rw[Aq]at h;exact h.2,λh=>⟨by lia,by rw[Aq];exact h⟩⟩
structure Rnd(N:Nat)(cl:Nat->List Int)(B:Nat->Int->Nat->Prop)(s:TL×Int×Int×List (Int×Int))(b:Nat):Prop where
 lf:s.2.1=b
 lt:b < 2 ^ N
 bt:∀j,b.testBit j=true↔j < N/\Ag s.1 (j:Int)=none
 st:1<=s.2.2.1
 nd:(s.1.map (·.1)).Nodup
 rg:∀n∈s.1.map (·.1),0<=n/\n < (N:Int)
 ok:∀(m:Nat) z,Ag s.1 (m:Int)=some z->z.1 < s.2.2.1/\1<=z.1/\z.2∈cl m/\(∀j,B m z.2 j->∃y,Ag s.1 (j:Int)=some y/\y.1 < z.1)/\(∀c∈cl m,c < z.2->∃j,B m c j/\∀y,Ag s.1 (j:Int)=some y->z.1<=y.1)/\(2<=z.1->∀c∈cl m,∃j,B m c j/\∀y,Ag s.1 (j:Int)=some y->z.1<=y.1+1)
 mn:2<=s.2.2.1->∀m:Nat,m < N->Ag s.1 (m:Int)=none->∀c∈cl m,∃j,B m c j/\∀y,Ag s.1 (j:Int)=some y->s.2.2.1<=y.1+1
 fn:FN cl B b s.2.2.2
 sl:s.2.2.1<=s.1.length+1
theorem Vc{l:List Int}{P:Int->Prop}(h:∃c∈l,P c):∃c∈l,P c/\∀c'∈l,c' < c->¬P c':=by
 induction l with
 | nil=>obtain⟨c,h,_⟩:=h;cases h
 | cons x l ih=>
  by_cases hl:∃c∈l,P c
  ·obtain⟨c,h1,h2,h3⟩:=ih hl
   by_cases hx:P x/\x < c
   ·exact⟨x,AO ..,hx.1,λc' h4 h5 h6=>by
     rcases AV.mp h4 with h | h
     ·lia
     ·exact h3 c' h (by lia) h6⟩
   ·exact⟨c,AJ _ h1,h2,λc' h4 h5 h6=>by
     rcases AV.mp h4 with h | h
     ·exact hx ⟨by rw[<-h];exact h6,by omega⟩
     ·exact h3 c' h h5 h6⟩
  ·obtain⟨c,h1,h2⟩:=h
   rcases AV.mp h1 with h | h
   ·subst h
    exact⟨c,AO ..,h2,λc' h4 h5 h6=>by
     rcases AV.mp h4 with h | h
     ·omega
     ·exact hl ⟨c',h,h6⟩⟩
   ·exact zX ⟨c,h,h2⟩ hl
theorem e8(D:Dl f N cl B)(h:Rnd N cl B s b)(qp:s.2.2.2≠[]) :
  ∃s' b',BV (Fd (s.2.2.2.map (·.1)) (s.1,s.2.1) λ(qL:TL×Int) qy=>BV (((Ag s.2.2.2 qy).bind λqT=>some (s.2.2.1,qT)).bind λsu=>(Km qL.1 qy su).bind λsv=>some (.nx sv)) λsO=>Fn (λsP=>(sO,sP)) ((NI (1:Int) qy).bind λqM=>some (.nx (EA qL.2 qM)))) (λrA=>BV (some (.nx (s.2.2.1+(1:Int)))) λtP=>Fn (λtQ=>(rA.1,rA.2,tP,tQ)) ((D0 f rA.2).bind λsL=>some (.nx sL)))=some (.nx (ρ:=TL) s')/\Rnd N cl B s' b'/\s.1.length < s'.1.length:=by
 obtain⟨T,left,qq,K⟩:=s;obtain⟨lf,lt,bt,st,nd,rg,ok,mn,fn,sl⟩:=h;dsimp only at lf bt st nd rg ok mn fn qp sl ⊢;subst lf;have hN:=D.sm;obtain⟨k1,k2,k3⟩:=fn
 have kN:∀n∈K.map (·.1),0<=n/\n < (N:Int):=λn hn=>by
  obtain⟨a,q⟩:=k2 n hn;have:=XI lt q
  lia
 have kT:∀n∈K.map (·.1),Ag T n=none:=λn hn=>by
  obtain⟨a,q⟩:=k2 n hn;have:=((bt _).mp q).2;rwa [BD a]at this
 obtain⟨⟨T',left'⟩,e,t1,t2,t3,b',rfl,b1,b2⟩:=gq (ρ:=TL) (l:=K.map (·.1)) (s0:=(T,(b:Int))) (q:=λ(qL:TL×Int) qy=>BV (((Ag K qy).bind λqT=>some (qq,qT)).bind λsu=>(Km qL.1 qy su).bind λsv=>some (.nx sv)) λsO=>Fn (λsP=>(sO,sP)) ((NI (1:Int) qy).bind λqM=>some (.nx (EA qL.2 qM))))
  (λpre s=>(s.1.map (·.1)).Nodup/\(∀n∈s.1.map (·.1),0<=n/\n < (N:Int))/\(∀n,Ag s.1 n=if n∈pre then(Ag K n).map λc=>(qq,c)else Ag T n)/\∃b':Nat,s.2=b'/\b' < 2 ^ N/\∀j:Nat,b'.testBit j=true↔b.testBit j=true/\(j:Int)∉pre)
  ⟨nd,rg,λn=>by simp,b,rfl,lt,λj=>by simp⟩ (by
   rintro pre x ⟨T',left'⟩ hx hp ⟨t1,t2,t3,b',rfl,b1,b2⟩;dsimp only at t1 t2 t3 ⊢;obtain⟨x0,xN⟩:=kN x hx;obtain⟨-,xb⟩:=k2 x hx
   have xp:x∉pre:=by
    have:=k1.sublist hp.sublist;unfold Is at this;rw[Hj]at this
    exact λz=>this.2.2 _ z _ (UY _) rfl
   obtain⟨c,hc⟩:=C2.mp ((Cn K x).mpr hx);have hl:=Na t1 t2;rw[hc];simp only[AG];rw[show Km T' x (qq,c)=some (Bz T' x (qq,c))from qX (by lia)];simp only[AG,CI];rw[show x=((x.toNat:Nat):Int) by lia,NH (by lia)];simp only[AG];rw[dj,<-show x=((x.toNat:Nat):Int) by lia];refine⟨_,rfl,?_,λn hn=>?_,λn=>?_,_,rfl,Nat.xor_lt_two_pow b1 (Nat.pow_lt_pow_right (by decide) (by lia)),λj=>?_⟩
   ·rw[GX]
    split
    ·exact t1
    ·rename_i hk
     exact Ev.mpr ⟨t1,by simp,λy hy z hz=>by rw[Ah.mp hz];intro e;subst e;exact hk hy⟩
   ·rw[GX]at hn
    split at hn
    ·exact t2 n hn
    ·rcases BI.mp hn with h | h
     ·exact t2 n h
     ·rw[Ah.mp h];exact⟨x0,xN⟩
   ·rw[Cg]
    by_cases e:n=x
    ·subst e
     rw[qX rfl,qX (by simp),hc];rfl
    ·rw[qY e,t3]
     have:n∈pre++[x]↔n∈pre:=by rw[BI,Ah];exact⟨λz=>z.elim id λz=>zX z e,.inl⟩
     simp only[this]
   ·rw[Nat.testBit_xor,Ij,bne_iff_ne,ne_eq,BI,Ah]
    have qg:=b2 j
    by_cases e:x.toNat=j
    ·subst e
     rw[wX rfl];have:b'.testBit x.toNat=true:=(b2 _).mpr ⟨xb,by rw[BD x0];exact xp⟩;rw[this];refine⟨λz=>zX rfl z,λz=>zX (.inr (by lia)) z.2⟩
    ·rw[wY e]
     have:¬(j:Int)=x:=by lia
     rw[Bool.not_eq_false,qg]
     exact and_congr_right λ_=>⟨λz q=>q.elim z this,λz q=>z (.inl q)⟩)
 rw[e];simp only[CI];dsimp only at t1 t2 t3;obtain⟨K',eK,hK⟩:=SZ D b1;rw[eK]
 have tv:∀n,Ag T' n=match Ag K n with | some c=>some (qq,c) | none=>Ag T n:=λn=>by
  rw[t3]
  by_cases h:n∈K.map (·.1)
  ·rw[qX h]
   obtain⟨c,hc⟩:=C2.mp ((Cn K n).mpr h);rw[hc];rfl
  ·rw[qY h]
   cases hc:Ag K n with
   | none=>rfl
   | some c=>exact zX ((Cn K n).mp (by rw[hc];rfl)) h
 have told:∀n z,Ag T n=some z->Ag T' n=some z:=λn z hz=>by
  rw[tv]
  cases hc:Ag K n with
  | none=>exact hz
  | some c=>
   have:=kT n ((Cn K n).mp (by rw[hc];rfl));rw[this]at hz;cases hz
 have rL:∀n z,Ag T' n=some z->Ag T n=some z∨(Ag T n=none/\z.1=qq):=λn z hz=>by
  rw[tv]at hz
  cases hc:Ag K n with
  | none=>rw[hc]at hz;exact .inl hz
  | some c=>
   rw[hc]at hz;cases hz;exact .inr ⟨kT n ((Cn K n).mp (by rw[hc];rfl)),rfl⟩
 have yF:∀j,b'.testBit j=true↔j < N/\Ag T' (j:Int)=none:=λj=>by
  rw[b2,bt,tv]
  constructor
  ·rintro⟨⟨h1,h2⟩,h3⟩
   refine⟨h1,?_⟩
   cases hc:Ag K (j:Int)with
   | none=>exact h2
   | some c=>exact zX ((Cn K _).mp (by rw[hc];rfl)) h3
  ·rintro⟨h1,h2⟩
   cases hc:Ag K (j:Int)with
   | none=>rw[hc]at h2;exact⟨⟨h1,h2⟩,λz=>by have:=(Cn K _).mpr z;rw[hc]at this;cases this⟩
   | some c=>rw[hc]at h2;cases h2
 have up:∀(j:Nat) (r:Int),r<=qq->(∀y,Ag T (j:Int)=some y->r<=y.1)->∀y,Ag T' (j:Int)=some y->r<=y.1:=λj r hr h y hy=>by
  rcases rL _ _ hy with h1 | ⟨_,h2⟩
  ·exact h y h1
  ·lia
 have hlen:T.length < T'.length:=by
  cases K with
  | nil=>exact zX rfl qp
  | cons x K=>
   have hx:=kT x.1 (AO ..);have hn:((x.1:Int) :: T.map (·.1)).Nodup:=BM.mpr ⟨λz=>AI (by have:=(Cn T _).mpr z;rw[hx]at this;exact this),nd⟩
   have:=IU (k:=T'.map (·.1)) hn λy hy=>by
    rw[<-Cn]
    rcases AV.mp hy with h | h
    ·subst h
     rw[tv];obtain⟨c,hc⟩:=C2.mp ((Cn (x :: K) x.1).mpr (AO ..));rw[hc];rfl
    ·obtain⟨z,hz⟩:=C2.mp ((Cn T y).mpr h)
     rw[told _ _ hz];rfl
   rw[Aj,AC,AC]at this
   lia
 refine⟨(T',(b':Int),qq+1,K'),b',rfl,⟨rfl,b1,yF,by show 1<=qq+1;lia,t1,t2,λm z hz=>?_,λ_ m hm hz c hc=>?_,hK,by show qq+1<=(T'.length:Int)+1;lia⟩,hlen⟩
 ·dsimp only at hz ⊢
  rcases rL _ _ hz with h1 | ⟨h1,h2⟩
  ·obtain⟨o1,o2,o3,o4,o5,o6⟩:=ok m z h1
   refine⟨by lia,o2,o3,λj hj=>?_,λc hc qt=>?_,λh2 c hc=>?_⟩
   ·obtain⟨y,y1,y2⟩:=o4 j hj
    exact⟨y,told _ _ y1,y2⟩
   ·obtain⟨j,j1,j2⟩:=o5 c hc qt
    exact⟨j,j1,up j z.1 (by lia) j2⟩
   ·obtain⟨j,j1,j2⟩:=o6 h2 c hc
    refine⟨j,j1,λy hy=>?_⟩;have:=up j (z.1 - 1) (by lia) (λy hy=>by have:=j2 y hy;lia) y hy
    lia
  ·obtain⟨r,c⟩:=z
   have hc:Ag K (m:Int)=some c:=by
    have:=tv (m:Int);rw[hz]at this
    cases hc:Ag K (m:Int)with
    | none=>rw[hc,h1]at this;cases this
    | some c'=>rw[hc]at this;cases this;rfl
   dsimp only at h2;subst h2;obtain⟨f0,f1,f2,f3⟩:=(k3 m c).mp hc;refine⟨by dsimp only;lia,st,f1,λj hj=>?_,λc' qA qt=>?_,λh2 c' qA=>?_⟩
   ·have υ:=D.rg _ _ _ hj
    cases hv:Ag T (j:Int)with
    | none=>
     have:=(bt j).mpr ⟨υ,hv⟩;rw[f2 j hj]at this;cases this
    | some y=>exact⟨y,told _ _ hv,(ok j y hv).1⟩
   ·obtain⟨j,j1,j2⟩:=Qp (f3 c' qA qt)
    refine⟨j,j1,λy hy=>?_⟩
    rcases rL _ _ hy with q | ⟨_,q⟩
    ·rw[((bt j).mp j2).2]at q;cases q
    ·dsimp only;lia
   ·obtain⟨j,j1,j2⟩:=mn h2 m ((bt m).mp f0).1 h1 c' qA
    refine⟨j,j1,λy hy=>?_⟩
    rcases rL _ _ hy with q | ⟨_,q⟩
    ·exact j2 y q
    ·dsimp only;lia
 ·dsimp only at hz ⊢
  obtain⟨h1,h2⟩:=(b2 m).mp ((yF m).mpr ⟨hm,hz⟩)
  have nl:¬Ph B b m c:=λhl=>by
   obtain⟨c0,q1,q2,q3⟩:=Vc (P:=Ph B b m) ⟨c,hc,hl⟩;have:=(k3 m c0).mpr ⟨h1,q1,q2,q3⟩;exact h2 ((Cn K _).mp (by rw[this];rfl))
  obtain⟨j,j1,j2⟩:=Qp nl;refine⟨j,j1,λy hy=>?_⟩
  rcases rL _ _ hy with q | ⟨_,q⟩
  ·rw[((bt j).mp j2).2]at q;cases q
  ·lia
theorem cc(D:Dl f N cl B):Ok (NR f) (Fa N cl B):=by
 have hN:=D.sm;unfold NR NP;rw[D.ln,NH (by lia)];simp only[AG,CI];have hp:0 < 2 ^ N:=iO N;rw[show((2 ^ N:Nat):Int) - 1=((2 ^ N - 1:Nat):Int) by omega]
 have lt:2 ^ N - 1 < 2 ^ N:=by omega
 obtain⟨K,eK,hK⟩:=SZ D lt;rw[eK];simp only[AG,CI];have R0:Rnd N cl B ([],((2 ^ N - 1:Nat):Int),1,K) (2 ^ N - 1):=⟨rfl,lt,λj=>by rw[Nat.testBit_two_pow_sub_one,decide_eq_true_eq];exact⟨λh=>⟨h,rfl⟩,λh=>h.1⟩,pz 1,Dk,λ_ h=>(nomatch h),λm z h=>(nomatch h),λh=>zX (show(2:Int)<=1 from h) (by decide),hK,pz 1⟩
 obtain⟨s',e,⟨b,h⟩,hc⟩:=WI (ρ:=TL) (c:=λ(qN:TL×Int×Int×(List (Int×Int)))=>some (!qN.2.2.2.isEmpty)) (q:=λ(s:TL×Int×Int×(List (Int×Int)))=>BV (Fd (s.2.2.2.map (·.1)) (s.1,s.2.1) λ(qL:TL×Int) qy=>BV (((Ag s.2.2.2 qy).bind λqT=>some (s.2.2.1,qT)).bind λsu=>(Km qL.1 qy su).bind λsv=>some (.nx sv)) λsO=>Fn (λsP=>(sO,sP)) ((NI (1:Int) qy).bind λqM=>some (.nx (EA qL.2 qM)))) (λrA=>BV (some (.nx (s.2.2.1+(1:Int)))) λtP=>Fn (λtQ=>(rA.1,rA.2,tP,tQ)) ((D0 f rA.2).bind λsL=>some (.nx sL)))) (λs=>∃b,Rnd N cl B s b) (λs=>N - s.1.length) (λs ⟨b,h⟩=>by
   cases hk:s.2.2.2 with
   | nil=>left;rfl
   | cons x K=>
    right
    obtain⟨s',b',e1,e2,e3⟩:=e8 D h (by rw[hk];exact λz=>nomatch z);rw[hk]at e1;refine⟨rfl,s',e1,⟨b',e2⟩,?_⟩;have:=Na e2.nd e2.rg;show N - s'.1.length < N - s.1.length
    omega) wN _ ⟨_,R0⟩ (by show N - 0 < wN;unfold wN;lia)
 simp only[CI]at e;rw[e];refine⟨s'.1,rfl,?_⟩
 have hk:s'.2.2.2=[]:=by
  have:=Bh hc
  cases hk:s'.2.2.2 with
  | nil=>rfl
  | cons x K=>rw[hk]at this;cases this
 obtain⟨lf,lt,bt,st,nd,rg,ok,mn,fn,sl⟩:=h;refine⟨nd,rg,λm z hz=>(ok m z hz).2,λm hm hz c hc=>?_,λm z hz=>by have:=(ok m z hz).1;have:=Na nd rg;lia⟩;have hb:=(bt m).mpr ⟨hm,hz⟩
 have nl:¬Ph B b m c:=λhl=>by
  obtain⟨c0,q1,q2,q3⟩:=Vc (P:=Ph B b m) ⟨c,hc,hl⟩;have:=(fn.2.2 m c0).mpr ⟨hb,q1,q2,q3⟩;rw[hk]at this;cases this
 obtain⟨j,j1,j2⟩:=Qp nl;exact⟨j,j1,((bt j).mp j2).2⟩
end
theorem Yt(l:List Int)(x:Int):TN (l++[x])=TN l+x:=by
 rw[TM,TM,List.sum_append];simp
theorem ee(P:Int->Bool):∀n:Nat,∃b:Nat,TN (((DI 0 n).filter P).map λx=>((2 ^ x.toNat:Nat):Int))=b/\b < 2 ^ n/\∀j,b.testBit j=true↔j < n/\P (j:Int)=true:=by
 intro n
 induction n with
 | zero=>exact⟨0,rfl,by decide,λj=>by simp⟩
 | succ n ih=>
  obtain⟨b,h1,h2,h3⟩:=ih
  have e:DI 0 (n+1)=DI 0 n++[(n:Int)]:=by
   unfold DI;rw[Ky,Cf];simp
  rw[e,Vj]
  by_cases hp:P (n:Int)=true
  ·rw[qX hp,Cf,List.map_singleton,Yt,h1,Aq]
   refine⟨b+2 ^ n,by lia,by rw[WE];lia,λj=>?_⟩;have ho:=Nat.two_pow_add_eq_or_of_lt h2 1;rw[Nat.mul_one]at ho;rw[Nat.add_comm,ho,Sw,Ij,Bk,decide_eq_true_eq,h3]
   constructor
   ·rintro(rfl | ⟨a,q⟩)
    ·exact⟨by lia,hp⟩
    ·exact⟨by lia,q⟩
   ·rintro⟨a,q⟩
    by_cases e:n=j
    ·exact .inl e
    ·exact .inr ⟨by lia,q⟩
  ·rw[qY hp]
   refine⟨b,h1,by rw[WE];lia,λj=>(h3 j).trans ⟨λ⟨a,q⟩=>⟨by lia,q⟩,λ⟨a,q⟩=>⟨?_,q⟩⟩⟩
   by_cases e:j=n
   ·subst e;exact zX q hp
   ·lia
section
variable{f:Fp}{N:Nat}{cl:Nat->List Int}{B:Nat->Int->Nat->Prop}{T:TL}
theorem Zs(D:Dl f N cl B):∃b:Nat,GU f T=some (b:Int)/\b < 2 ^ N/\∀j,b.testBit j=true↔j < N/\Ag T (j:Int)=none:=by
 have hN:=D.sm;obtain⟨b,h1,h2,h3⟩:=ee (λx=>!(Ag T x).isSome) N;refine⟨b,?_,h2,λj=>(h3 j).trans (and_congr_right λ_=>by cases Ag T (j:Int) <;> simp)⟩;unfold GU GM;rw[D.ln];simp only[AG];rw[NK (by lia) (by lia),Aq];simp only[AG]
 rw[RQ (P:=λx=>!(Ag T x).isSome) (f:=λx=>((2 ^ x.toNat:Nat):Int)) (by rw[CA];lia) (λ_ _=>rfl) λx hx _=>by
  obtain⟨x0,x1⟩:=CN.mp hx
  conv=>lhs;rw[show x=((x.toNat:Nat):Int) by lia]
  exact NH (by lia)]
 simp only[AG];rw[h1];rfl
end
def evN(o g:Nat)(n:Int):List Int:=(sts o g).getD n.toNat []
def clS(o g:Nat)(n:Nat):List Int:=(DI 0 o).filter λc=>!decide (c∈evN o g n)
def BS(o g:Nat)(us:List (Int×Int))(kd:Str)(n:Nat)(c:Int)(j:Nat):Prop:=∃r r',(sts o g)[n]?=some r/\(sts o g)[j]?=some r'/\Lk kd us r r'/\c∈r'
section
variable{o g:Nat}{us:List (Int×Int)}{kd:Str}{f:Fp}
theorem RH{n:Nat}{r:List Int}(h:(sts o g)[n]?=some r):evN o g n=r:=by
 unfold evN;rw[Aq,Bs,h];rfl
theorem pF(h:FB o us)(hg:g<=o)(h1:1<=g)(F:Fk o g us kd f):Dl f (sts o g).length (clS o g) (BS o g us kd):=by
 have sm:=h.sm;obtain⟨-,-,hl⟩:=QR o sm g (by lia) hg h1;refine⟨by rw[F.ev],by lia,λn hn=>?_,λn hn c hc=>?_,λn c j ⟨r,r',_,e,_⟩=>(AE.mp e).1⟩
 ·have hr:=AZ hn
  refine⟨?_,?_,(Lu 0 o).filter _⟩
  ·rw[hX h F hr]
   unfold clS;rw[RH hr]
  ·have:=WF (λc=>!decide (c∈evN o g n)) (DI 0 o)
   rw[CA]at this;unfold clS
   lia
 ·have hr:=AZ hn
  unfold clS at hc;obtain⟨h2,-⟩:=BN.mp hc;obtain⟨c0,c1⟩:=CN.mp h2
  refine(dF h hg h1 F hr (c:=c) ⟨c0,by lia⟩).imp λv ⟨l,e,hl⟩=>⟨l,e,λj=>(hl j).trans ⟨λ⟨r',q⟩=>⟨_,r',hr,q⟩,λ⟨r,r',q1,q⟩=>?_⟩⟩
  rw[hr]at q1;cases q1;exact⟨r',q⟩
end
section
variable{o g:Nat}{us:List (Int×Int)}{kd:Str}{f:Fp}{T:TL}
theorem pD(h:FB o us)(hg:g<=o)(h1:1<=g):∃T:TL,Fa (sts o g).length (clS o g) (BS o g us kd) T /\
  Hy (o,us) g kd=some (((DI 0 (sts o g).length).filter λn=>!(Ag T n).isSome).map (evN o g)):=by
 have sm:=h.sm;obtain⟨-,-,hl⟩:=QR o sm g (by lia) hg h1;obtain⟨f,ef,F⟩:=gx (kd:=kd) h hg h1;have D:=pF h hg h1 F;obtain⟨T,eT,hT⟩:=cc D
 have at':∀n∈DI 0 (sts o g).length,atI f.ev n=some (evN o g n):=λn hn=>by
  obtain⟨n0,n1⟩:=CN.mp hn;have hr:=AZ (l:=sts o g) (i:=n.toNat) (by lia);rw[F.ev,Ka n0 hr]
  congr 1
  have:=RH hr;rw[BD n0]at this;exact this.symm
 refine⟨T,hT,?_⟩
 ·obtain⟨b,e1,b1,b2⟩:=Zs (T:=T) D
  obtain⟨l,e2,l1,l2⟩:=SR b1 (by lia)
  have el:l=(DI 0 (sts o g).length).filter λn=>!(Ag T n).isSome:=IR l1 ((Lu 0 _).filter _) λx=>by
   rw[l2,BN,CN,b2]
   constructor
   ·rintro⟨x0,a,q⟩
    rw[BD x0]at q;exact⟨⟨x0,by lia⟩,by rw[q];rfl⟩
   ·rintro⟨⟨x0,a⟩,q⟩
    refine⟨x0,by lia,?_⟩;rw[BD x0]
    cases hv:Ag T x with
    | none=>rfl
    | some z=>rw[hv]at q;cases q
  unfold Hy Lw;simp only[AG];rw[ef];simp only[AG,CI];rw[eT];simp only[AG];rw[e1];simp only[AG];rw[e2];simp only[AG];rw[el,Hz (f:=evN o g) (by have:=WF (λn=>!(Ag T n).isSome) (DI 0 (sts o g).length);rw[CA]at this;lia) λn hn=>at' n (BN.mp hn).1];rfl
end
open PySem L2 L4
open Srt (ltL)
def Ans(kd:Str)(us:List (Int×Int))(r:List Int)(c:Int)(s:List Int):Prop:=if kd = "one" then ∃a∈r,c∈nr us a.toNat/\s=wst r a c else iL us r c s
theorem Pr{s r:List Int}(hs:s.Nodup)(h:∀x∈s,x∈r)(hl:s.length=r.length):∀x∈r,x∈s:=λx hx=>FD λhn=>by
 have:=IU (k:=r) (BM.mpr ⟨hn,hs⟩) λy hy=>by
  rcases AV.mp hy with rfl | hy
  ·exact hx
  ·exact h y hy
 rw[Aj]at this
 lia
section
variable{o g:Nat}{us:List (Int×Int)}{kd:Str}{r r':List Int}{c:Int}
theorem JF(h:FB o us)(hr:Stg o g r)(hc:c∉r):(∃s,Ans kd us r c s/\Bt s=r')↔Stg o g r'/\Lk kd us r r'/\c∈r':=by
 unfold Ans Lk
 by_cases k:kd = "one"
 ·simp only[qX k]
  constructor
  ·rintro⟨s,⟨a,ha,hn,rfl⟩,rfl⟩
   have hb:c∈Tg us a:=Kd.mpr (.inr hn);exact⟨Xh h hr ha hb hc,⟨a,ha,c,hb,hc,rfl⟩,BJ.mpr ((Ho ha).mpr (.inl rfl))⟩
  ·rintro⟨-,⟨a,ha,b,hb,tD,rfl⟩,h3⟩
   have e:c=b:=by
    rcases(Ho ha).mp (BJ.mp h3)with e | e
    ·exact e
    ·exact zX e.1 hc
   subst e
   rcases Kd.mp hb with e | e
   ·rw[e]at hc;exact zX ha hc
   ·exact⟨_,⟨a,ha,e,rfl⟩,rfl⟩
 ·simp only[qY k]
  constructor
  ·rintro⟨s,hs,rfl⟩
   have rg:=iL.rg h hr.2.1 hs;refine⟨⟨by rw[(Cb _).length_eq,hs.1,hr.1],λx hx=>rg x (BJ.mp hx),HQ hs.2.1⟩,⟨s,hs.1,hs.2.1,hs.2.2.1,λx hx=>BJ.mpr hx⟩,BJ.mpr hs.2.2.2⟩
  ·rintro⟨h1,⟨s,s1,s2,s3,s4⟩,h3⟩
   have all:=Pr s2 s4 (by rw[s1,hr.1,h1.1]);exact⟨s,⟨s1,s2,s3,all c h3⟩,IR (HQ s2) h1.2.2 λx=>BJ.trans ⟨s4 x,all x⟩⟩
end
section
variable{o g:Nat}{kd:Str}{T:TL}
theorem aj(ho:o < 9)(hg:g<=o)(h1:1<=g)(h:Stg o g r):∃n:Nat,(sts o g)[n]?=some r/\n < (sts o g).length:=by
 obtain⟨n,hn,e⟩:=CQ ((FH ho hg h1).mpr h);exact⟨n,by rw[AZ hn,e],hn⟩
theorem c7(h:(sts o g)[n]?=some r):c∈clS o g n↔(0<=c/\c < (o:Int))/\c∉r:=by
 unfold clS;rw[BN,CN,RH h];simp
theorem dA(ht:FB o us)(hg:g<=o)(h1:1<=g)(hn:(sts o g)[n]?=some r)(hc:c∉r):BS o g us kd n c j↔∃s,Ans kd us r c s/\(sts o g)[j]?=some (Bt s):=by
 have hr:=(FH ht.sm hg h1).mp (BE hn)
 constructor
 ·rintro⟨r1,r',e1,e2,q⟩
  rw[hn]at e1;cases e1;obtain⟨s,h3,h4⟩:=(JF (kd:=kd) ht hr hc).mpr ⟨(FH ht.sm hg h1).mp (BE e2),q⟩;exact⟨s,h3,by rw[h4];exact e2⟩
 ·rintro⟨s,h3,e2⟩
  exact⟨r,_,hn,e2,((JF (kd:=kd) ht hr hc).mp ⟨s,h3,rfl⟩).2⟩
theorem cA(ho:o < 9)(hg:g<=o)(h1:1<=g):r∈((DI 0 (sts o g).length).filter λn=>!(Ag T n).isSome).map (evN o g)↔∃n:Nat,(sts o g)[n]?=some r/\Ag T (n:Int)=none:=by
 rw[Al]
 constructor
 ·rintro⟨x,hx,rfl⟩
  obtain⟨h2,h3⟩:=BN.mp hx;obtain⟨x0,x1⟩:=CN.mp h2;have hr:=AZ (l:=sts o g) (i:=x.toNat) (by lia);have:=RH hr;rw[BD x0]at this;refine⟨x.toNat,by rw[this];exact hr,?_⟩;rw[BD x0]
  cases hv:Ag T x with
  | none=>rfl
  | some z=>rw[hv]at h3;cases h3
 ·rintro⟨n,hn,hv⟩
  exact⟨(n:Int),BN.mpr ⟨CN.mpr ⟨by lia,by have:=(AE.mp hn).1;lia⟩,by rw[hv];rfl⟩,RH hn⟩
end
def Jb(o g:Nat)(us:List (Int×Int))(kd:Str)(P:List Int->Prop):Prop:=∀r,P r->Stg o g r/\∀c:Int,0<=c->c < o->c∉r->∃s,Ans kd us r c s/\P (Bt s)
def La(o g:Nat)(T:TL)(r:List Int):Prop:=∃n:Nat,(sts o g)[n]?=some r/\Ag T (n:Int)=none
section
variable{o g:Nat}{us:List (Int×Int)}{kd:Str}{T:TL}{P:List Int->Prop}
theorem ZR(ht:FB o us)(hg:g<=o)(h1:1<=g)(F:Fa (sts o g).length (clS o g) (BS o g us kd) T):Jb o g us kd (La o g T):=λr ⟨n,hn,hv⟩=>by
 refine⟨(FH ht.sm hg h1).mp (BE hn),λc c0 c1 c2=>?_⟩;obtain⟨j,hj,χ⟩:=F.no n (AE.mp hn).1 hv c ((c7 hn).mpr ⟨⟨c0,c1⟩,c2⟩);obtain⟨s,hs,ej⟩:=(dA ht hg h1 hn c2).mp hj;exact⟨s,hs,j,ej,χ⟩
theorem Zm(ht:FB o us)(hg:g<=o)(h1:1<=g)(F:Fa (sts o g).length (clS o g) (BS o g us kd) T)(hP:Jb o g us kd P)(hr:P r):La o g T r:=by
 have key:∀(k:Nat) (r:List Int) (n:Nat) (z:Int×Int),P r->(sts o g)[n]?=some r->Ag T (n:Int)=some z->z.1.toNat<=k->False:=by
  intro k
  induction k with
  | zero=>
   intro r n z _ _ hz hk;have:=(F.ok n z hz).1
   lia
  | succ k ih=>
   intro r n z hr hn hz hk;obtain⟨z1,z2,z3,-⟩:=F.ok n z hz;obtain⟨c0,c1⟩:=(c7 hn).mp z2;obtain⟨s,hs,hp⟩:=(hP r hr).2 z.2 c0.1 c0.2 c1;obtain⟨j,ej,-⟩:=aj ht.sm hg h1 (hP _ hp).1;obtain⟨y,hy,qt⟩:=z3 j ((dA ht hg h1 hn c1).mpr ⟨s,hs,ej⟩);exact ih _ j y hp ej hy (by lia)
 obtain⟨n,hn,-⟩:=aj ht.sm hg h1 (hP r hr).1
 cases hv:Ag T (n:Int)with
 | none=>exact⟨n,hn,hv⟩
 | some z=>exact(key _ r n z hr hn hv (AK _)).elim
theorem pJ:∀(k:Nat) (r r':List Int) (f:Int->Int) (x:Int),r.length=k->r.Nodup->r'.Nodup->r.length=r'.length->(∀a∈r,f a∈r')->(∀a∈r,∀b∈r,f a=f b->a=b)->x∉r ->
  ∃z,z∉r'/\z∈x :: r/\∃F:Int->Int,(∀a∈x :: r,(F a=a∨(a∈r/\F a=f a))/\F a∈z :: r')/\∀a∈x :: r,∀b∈x :: r,F a=F b->a=b:=by
 intro k
 induction k with
 | zero=>
  intro r r' f x hk _ _ hl _ _ _;have e:r=[]:=P9 hk;have e':r'=[]:=P9 (by rw[<-hl];exact hk);subst e e';exact⟨x,by simp,by simp,λa=>a,λa ha=>⟨.inl rfl,ha⟩,λ_ _ _ _ h=>h⟩
 | succ k ih=>
  intro r r' f x hk hn qG hl hf hi hx
  by_cases hxr:x∈r'
  ·have hm:(r.map f).Nodup:=by
    unfold Is;rw[Bc]
    exact hn.imp_of_mem λ{a b} ha hb ne e=>ne (hi a ha b hb e)
   obtain⟨a,ha,fa⟩:=Al.mp (Pr hm (λy hy=>by obtain⟨b,hb,rfl⟩:=Al.mp hy;exact hf b hb) (by rw[AC];exact hl) x hxr)
   have l1:(r.filter λy=>decide (y≠a)).length=k:=by
    have:=hn.erase_eq_filter a;have h2:=Js ha;rw[this]at h2
    have e:(λy:Int=>y != a)=λy=>decide (y≠a):=by funext y;by_cases q:y=a <;> simp[q]
    rw[e]at h2
    lia
   have l2:(r'.filter λy=>decide (y≠x)).length=k:=by
    have:=qG.erase_eq_filter x;have h2:=Js hxr;rw[this]at h2
    have e:(λy:Int=>y != x)=λy=>decide (y≠x):=by funext y;by_cases q:y=x <;> simp[q]
    rw[e]at h2
    lia
   have m1:∀y,y∈r.filter (λy=>decide (y≠a))↔y∈r/\y≠a:=λy=>by rw[BN,decide_eq_true_eq]
   have m2:∀y,y∈r'.filter (λy=>decide (y≠x))↔y∈r'/\y≠x:=λy=>by rw[BN,decide_eq_true_eq]
   obtain⟨z,z1,z2,F,F1,F2⟩:=ih _ _ f a l1 (hn.filter _) (qG.filter _) (l1.trans l2.symm)
    (λb hb=>(m2 _).mpr ⟨hf b ((m1 b).mp hb).1,λe=>((m1 b).mp hb).2 (hi b ((m1 b).mp hb).1 a ha (e.trans fa.symm))⟩)
    (λb hb c hc=>hi b ((m1 b).mp hb).1 c ((m1 c).mp hc).1) (λh=>((m1 a).mp h).2 rfl)
   have zr:z∈r:=by
    rcases AV.mp z2 with h | h
    ·rw[h];exact ha
    ·exact((m1 z).mp h).1
   have zx:z≠x:=λe=>hx (by rw[<-e];exact zr)
   have inA:∀y∈r,y∈a :: r.filter (λy=>decide (y≠a)):=λy hy=>by
    by_cases q:y=a
    ·rw[q];exact AO ..
    ·exact AJ _ ((m1 y).mpr ⟨hy,q⟩)
   have nx:∀y∈r,y≠x:=λy hy e=>hx (by rw[<-e];exact hy)
   have Fx:∀y∈r,F y≠x:=λy hy e=>by
    rcases AV.mp (F1 y (inA y hy)).2 with h | h
    ·exact zx (h.symm.trans e)
    ·exact((m2 _).mp h).2 e
   refine⟨z,λh=>z1 ((m2 z).mpr ⟨h,zx⟩),AJ _ zr,λy=>if y=x then x else F y,λy hy=>?_,λy hy w hw e=>?_⟩
   ·dsimp only
    rcases AV.mp hy with h | h
    ·rw[qX h]
     exact⟨.inl h.symm,AJ _ hxr⟩
    ·rw[qY (nx y h)]
     obtain⟨q1,q2⟩:=F1 y (inA y h);refine⟨q1.imp id λq=>⟨h,q.2⟩,?_⟩
     rcases AV.mp q2 with q | q
     ·rw[q];exact AO ..
     ·exact AJ _ ((m2 _).mp q).1
   ·dsimp only at e
    rcases AV.mp hy with h | h <;> rcases AV.mp hw with h' | h'
    ·rw[h,h']
    ·rw[qX h,qY (nx w h')]at e
     exact zX e.symm (Fx w h')
    ·rw[qY (nx y h),qX h']at e
     exact zX e (Fx y h)
    ·rw[qY (nx y h),qY (nx w h')]at e
     exact F2 y (inA y h) w (inA w h') e
  ·have nx:∀y∈r,y≠x:=λy hy e=>hx (by rw[<-e];exact hy)
   refine⟨x,hxr,AO ..,λy=>if y=x then x else f y,λy hy=>?_,λy hy w hw e=>?_⟩
   ·dsimp only
    rcases AV.mp hy with h | h
    ·rw[qX h]
     exact⟨.inl h.symm,AO ..⟩
    ·rw[qY (nx y h)]
     exact⟨.inr ⟨h,rfl⟩,AJ _ (hf y h)⟩
   ·dsimp only at e
    rcases AV.mp hy with h | h <;> rcases AV.mp hw with h' | h'
    ·rw[h,h']
    ·rw[qX h,qY (nx w h')]at e
     exact zX (hf w h') (by rw[<-e];exact hxr)
    ·rw[qY (nx y h),qX h']at e
     exact zX (hf y h) (by rw[e];exact hxr)
    ·rw[qY (nx y h),qY (nx w h')]at e
     exact hi y h w h' e
theorem Pu(hn:r.Nodup):LkA us r r'↔∃f:Int->Int,(∀a∈r,f a∈Tg us a/\f a∈r')/\∀a∈r,∀b∈r,f a=f b->a=b:=by
 constructor
 ·rintro⟨l,l1,ln,l3,l4⟩
  have ex:∀a:Int,∃z:Int,a∈r->(a,z)∈r.zip l:=λa=>by
   by_cases q:a∈r
   ·obtain⟨i,hi,e⟩:=CQ q
    refine⟨l[i]'(by lia),λ_=>?_⟩
    have:(r.zip l)[i]'(by rw[Hv];lia)=(a,l[i]'(by lia)):=by rw[HV,e]
    rw[<-this];exact De _
   ·exact⟨0,λz=>zX z q⟩
  have hs:=λa=>Da (ex a)
  refine⟨λa=>Ca (ex a),λa ha=>⟨l3 _ (hs a ha),l4 _ (Hu (hs a ha)).2⟩,λa ha b hb e=>?_⟩;have e:Ca (ex a)=Ca (ex b):=e;have h1:=hs a ha;rw[e]at h1;exact Xg ln h1 (hs b hb)
 ·rintro⟨f,f1,f2⟩
  refine⟨r.map f,AC _,?_,λy hy=>?_,λx hx=>?_⟩
  ·unfold Is
   rw[Bc]
   exact hn.imp_of_mem λ{a b} ha hb ne e=>ne (f2 a ha b hb e)
  ·rw[QB]at hy
   obtain⟨a,ha,rfl⟩:=Al.mp hy;exact(f1 a ha).1
  ·obtain⟨a,ha,rfl⟩:=Al.mp hx
   exact(f1 a ha).2
theorem Uq(hr:Stg o g r)(hx:0<=x/\x < (o:Int))(hn:x∉r):Stg o (g+1) (Bt (x :: r)):=by
 refine⟨by rw[(Cb _).length_eq,Aj,hr.1],λy hy=>?_,HQ (BM.mpr ⟨hn,Hm hr.2.2⟩)⟩
 rcases AV.mp (BJ.mp hy)with h | h
 ·rw[h];exact hx
 ·exact hr.2.1 y h
theorem grow(ht:FB o us)(hP:Jb o g us kd P):Jb o (g+1) us kd (λR=>∃r x,P r/\(0<=x/\x < (o:Int))/\x∉r/\R=Bt (x :: r)):=by
 rintro R ⟨r,x,hr,hx,hn,rfl⟩;obtain⟨hS,hA⟩:=hP r hr;have tR:=Uq hS hx hn;refine⟨tR,λc c0 c1 c2=>?_⟩
 have cm:∀y,y∈Bt (x :: r)↔y=x∨y∈r:=λy=>by rw[BJ,AV]
 have cx:c≠x:=λe=>c2 ((cm c).mpr (.inl e))
 have cr:c∉r:=λe=>c2 ((cm c).mpr (.inr e))
 obtain⟨s,hs,hp⟩:=hA c c0 c1 cr;obtain⟨q1,q2,q3⟩:=(JF (kd:=kd) ht hS cr).mp ⟨s,hs,rfl⟩;generalize Bt s=r' at hp q1 q2 q3
 have fin:∀z,(0<=z/\z < (o:Int))->z∉r'->Lk kd us (Bt (x :: r)) (Bt (z :: r'))->∃s,Ans kd us (Bt (x :: r)) c s/\∃r x,P r/\(0<=x/\x < (o:Int))/\x∉r/\Bt s=Bt (x :: r):=λz hz yG hl=>by
  obtain⟨S,h1,h2⟩:=(JF (kd:=kd) ht tR c2).mpr ⟨Uq q1 hz yG,hl,BJ.mpr (AJ _ q3)⟩;exact⟨S,h1,r',z,hp,hz,yG,h2⟩
 unfold Lk at q2 fin
 by_cases k:kd = "one"
 ·simp only[qX k]at q2 fin
  obtain⟨a,ha,b,hb,tD,e⟩:=q2
  have bx:b≠x:=λe2=>by
   have:c∈wst r a b:=BJ.mp (by rw[e];exact q3)
   rcases(Ho ha).mp this with h | h
   ·exact cx (h.trans e2)
   ·exact cr h.1
  have yH:x∉r':=λh=>by
   rw[<-e]at h
   rcases(Ho ha).mp (BJ.mp h)with h | h
   ·exact bx h.symm
   ·exact hn h.1
  refine fin x hx yH ⟨a,(cm a).mpr (.inr ha),b,hb,λh=>((cm b).mp h).elim bx tD,?_⟩;have aR:=(cm a).mpr (.inr ha)
  have bR:b∉Bt (x :: r):=λh=>((cm b).mp h).elim bx tD
  refine IR (HQ (WG (Hm tR.2.2) bR)) (HQ (BM.mpr ⟨yH,Hm q1.2.2⟩)) λy=>?_
  rw[BJ,BJ,Ho aR,cm,AV,<-e,BJ,Ho ha]
  have xa:x≠a:=λe=>hn (by rw[e];exact ha)
  constructor
  ·rintro(h | ⟨h | h,h2⟩)
   ·exact .inr (.inl h)
   ·exact .inl h
   ·exact .inr (.inr ⟨h,h2⟩)
  ·rintro(h | h | ⟨h,h2⟩)
   ·exact .inr ⟨.inl h,by rw[h];exact xa⟩
   ·exact .inl h
   ·exact .inr ⟨.inr h,h2⟩
 ·simp only[qY k]at q2 fin
  obtain⟨f,f1,f2⟩:=(Pu (Hm hS.2.2)).mp q2;obtain⟨z,z1,z2,F,F1,F2⟩:=pJ _ r r' f x rfl (Hm hS.2.2) (Hm q1.2.2) (by rw[hS.1,q1.1]) (λa ha=>(f1 a ha).2) f2 hn;refine fin z ?_ z1 ((Pu (Hm tR.2.2)).mpr ⟨F,λa ha=>?_,λa ha b hb=>F2 a (BJ.mp ha) b (BJ.mp hb)⟩)
  ·rcases AV.mp z2 with h | h
   ·rw[h];exact hx
   ·exact hS.2.1 z h
  ·obtain⟨w1,w2⟩:=F1 a (BJ.mp ha)
   refine⟨?_,BJ.mpr w2⟩
   rcases w1 with h | ⟨h,e⟩
   ·rw[h];exact Kd.mpr (.inl rfl)
   ·rw[e];exact(f1 a h).1
end
open PySem L2 L4
section
variable{o g:Nat}{us qR:List (Int×Int)}{kd:Str}
structure Ls(o:Nat)(us:List (Int×Int))(kd:Str)(g:Nat)(L:List (List Int)):Prop where
 eq:Hy (o,us) g kd=some L
 cl:Jb o g us kd (·∈L)
 all:∀P,Jb o g us kd P->∀r,P r->r∈L
theorem ls_p(h:FB o us)(hg:g<=o)(h1:1<=g):∃L,Ls o us kd g L:=by
 obtain⟨T,hT,e1⟩:=pD (kd:=kd) h hg h1
 have mem:∀r,r∈((DI 0 (sts o g).length).filter λn=>!(Ag T n).isSome).map (evN o g)↔La o g T r:=λr=>cA h.sm hg h1
 refine⟨_,e1,λr hr=>?_,λP hP r hr=>(mem r).mpr (Zm h hg h1 hT hP hr)⟩;obtain⟨q1,q2⟩:=ZR h hg h1 hT r ((mem r).mp hr);refine⟨q1,λc c0 c1 c2=>?_⟩;obtain⟨s,s1,s2⟩:=q2 c c0 c1 c2;exact⟨s,s1,(mem _).mpr s2⟩
def lsG(o:Nat)(us:List (Int×Int))(kd:Str)(g:Nat):List (List Int):=(Hy (o,us) g kd).getD []
theorem NY(h:FB o us)(hg:g<=o)(h1:1<=g):Ls o us kd g (lsG o us kd g):=by
 obtain⟨L,hL⟩:=ls_p h hg h1;unfold lsG;rw[hL.eq];exact hL
theorem gC(h:FB o us)(hg:g < o)(h1:1<=g)(hn:lsG o us kd g≠[]):lsG o us kd (g+1)≠[]:=by
 obtain⟨r,hr⟩:=FX _ hn;have hS:=((NY h (by lia) h1).cl r hr).1
 obtain⟨x,x0,x1⟩:∃x∈DI 0 o,x∉r:=FD λz=>by
  have:=IU (k:=r) ((Lu 0 o).imp λ{a b} h=>by lia) λx hx=>FD λq=>z ⟨x,hx,q⟩
  rw[CA,hS.1]at this
  lia
 have:=CN.mp x0;exact Ip ((NY h hg (by lia)).all _ (grow h (NY h (by lia) h1).cl) _ ⟨r,x,hr,⟨by lia,by lia⟩,x1,rfl⟩)
theorem ic(h:FB o us)(h1:1<=g)(hn:lsG o us kd g≠[]):∀k,g+k<=o->lsG o us kd (g+k)≠[]
 | 0,_=>hn
 | k+1,hg=>gC h (g:=g+k) (by lia) (by lia) (ic h h1 hn k (by lia))
theorem gD(h:FB o us)(h1:1<=o):lsG o us kd o≠[]:=by
 have hS:Stg o o (DI 0 o):=⟨CA _ _,λx hx=>by have:=CN.mp hx;lia,Lu 0 o⟩;refine Ip ((NY h (AK _) h1).all (λr=>Stg o o r) (λr hr=>⟨hr,λc c0 c1 c2=>?_⟩) _ hS);exact zX (Pr (r:=DI 0 o) (Hm hr.2.2) (λx hx=>CN.mpr (by have:=hr.2.1 x hx;lia)) (by rw[hr.1,CA]) c (CN.mpr (by lia))) c2
theorem pB(h:FB o us)(h1:1<=o):Ok (LJ (o,us) kd) λm=>∃k:Nat,m=k/\1<=k/\k<=o/\lsG o us kd k≠[]/\∀g:Nat,1<=g->g < k->lsG o us kd g=[]:=by
 have o8:=h.sm;unfold LJ NO E2 Dw;rw[wY (show ¬(8:Int) < ((o,us).1:Int) by show ¬(8:Int) < (o:Int);lia),qY AI];simp only[Xy,AG,CI]
 have key:Ok (IT (o,us) kd) λm=>∃k:Nat,m=k/\1<=k/\k<=o/\lsG o us kd k≠[]/\∀g:Nat,1<=g->g < k->lsG o us kd g=[]:=by
  refine OkF.out ?_;unfold GK;dsimp only;rw[fA (by lia) (by lia) (by lia) (by lia),show((o:Int) - 1).toNat=o - 1 by lia];simp only[AG];refine OkF.seq (OkF.for (λpre (_:Unit)=>∀g:Nat,1<=g->g<=pre.length->lsG o us kd g=[]) (λg a b=>by rw[Hw]at b;lia) ?_) ?_
  ·intro pre x _ hx hp hI
   obtain⟨ex,qt⟩:=ay hp
   obtain⟨k,qE⟩:∃k:Nat,x=(k:Int):=⟨1+pre.length,by lia⟩
   subst qE;have L:=NY h (kd:=kd) (g:=k) (by lia) (by lia);rw[L.eq];simp only[AG]
   cases c:(lsG o us kd k).isEmpty with
   | true=>
    have c:=List.isEmpty_iff.mp c
    refine .nx λg g0 g1=>?_
    rw[As,BW]at g1
    by_cases e:g=k
    ·rw[e];exact c
    ·exact hI g g0 (by lia)
   | false=>
    have c:lsG o us kd k≠[]:=λz=>by rw[z]at c;cases c
    exact .rt ⟨k,rfl,by lia,by lia,c,λg g0 g1=>hI g g0 (by lia)⟩
  ·intro _ hI
   exact .rt ⟨o,rfl,h1,AK _,gD h h1,λg g0 g1=>hI g g0 (by rw[CA];lia)⟩
 obtain⟨m,em,hm⟩:=key;rw[em];exact⟨m,rfl,hm⟩
structure Ren(o:Nat)(f i:Int->Int):Prop where
 to:∀x,0<=x->x < (o:Int)->0<=f x/\f x < (o:Int)/\i (f x)=x
 fro:∀x,0<=x->x < (o:Int)->0<=i x/\i x < (o:Int)/\f (i x)=x
theorem Ren.sw{f i:Int->Int}(h:Ren o f i):Ren o i f:=⟨h.fro,h.to⟩
theorem Ren.stg{f i:Int->Int}(h:Ren o f i){r:List Int}(hr:Stg o g r):Stg o g (Bt (r.map f)):=by
 refine⟨by rw[(Cb _).length_eq,AC,hr.1],λx hx=>?_,HQ ?_⟩
 ·obtain⟨y,hy,rfl⟩:=Al.mp (BJ.mp hx)
  obtain⟨y0,y1⟩:=hr.2.1 y hy;have:=h.to y y0 y1;exact⟨this.1,this.2.1⟩
 ·refine Bc.mpr ((Hm hr.2.2).imp_of_mem λ{a b} ha hb n e=>n ?_)
  obtain⟨a0,a1⟩:=hr.2.1 a ha;obtain⟨b0,b1⟩:=hr.2.1 b hb;rw[<-(h.to a a0 a1).2.2,<-(h.to b b0 b1).2.2,e]
theorem Ren.back{f i:Int->Int}(h:Ren o f i){r:List Int}(hr:Stg o g r):Bt ((Bt (r.map f)).map i)=r:=by
 refine IR (h.sw.stg (h.stg hr)).2.2 hr.2.2 λx=>?_
 rw[BJ,Al]
 constructor
 ·rintro⟨y,hy,rfl⟩
  obtain⟨z,hz,rfl⟩:=Al.mp (BJ.mp hy);rw[(h.to z (hr.2.1 z hz).1 (hr.2.1 z hz).2).2.2];exact hz
 ·intro hx
  exact⟨f x,BJ.mpr (Ct hx),(h.to x (hr.2.1 x hx).1 (hr.2.1 x hx).2).2.2⟩
theorem jo{f i:Int->Int}(h:Ren o f i)(hT:FB o us)(ht:∀a b:Int,0<=a->a < o->b∈nr us a.toNat->f b∈nr qR (f a).toNat){r q:List Int}(hr:Stg o g r)(hq:Stg o g q)(hl:Lk kd us r q):Lk kd qR (Bt (r.map f)) (Bt (q.map f)):=by
 have tg:∀a b:Int,0<=a->a < o->b∈Tg us a->f b∈Tg qR (f a):=λa b a0 a1 hb=>by
  rcases Kd.mp hb with rfl | hb
  ·exact Kd.mpr (.inl rfl)
  ·exact Kd.mpr (.inr (ht a b a0 a1 hb))
 have inj:∀x y:Int,0<=x->x < o->0<=y->y < o->f x=f y->x=y:=λx y x0 x1 y0 y1 e=>by
  rw[<-(h.to x x0 x1).2.2,<-(h.to y y0 y1).2.2,e]
 unfold Lk at hl ⊢
 by_cases kk:kd = "one"
 ·rw[qX kk]at hl ⊢
  obtain⟨a,ha,b,hb,tD,e⟩:=hl;obtain⟨a0,a1⟩:=hr.2.1 a ha;obtain⟨b0,b1⟩:=(hT.tg a0 a1).2.1 b hb;refine⟨f a,BJ.mpr (Ct ha),f b,tg a b a0 a1 hb,λz=>?_,?_⟩
  ·obtain⟨y,hy,e⟩:=Al.mp (BJ.mp z)
   obtain⟨y0,y1⟩:=hr.2.1 y hy;rw[inj y b y0 y1 b0 b1 e]at hy;exact tD hy
  ·rw[<-e]
   have p1:(wst (Bt (r.map f)) (f a) (f b)).Perm (wst (r.map f) (f a) (f b)):=(Cb _).map _
   have p2:wst (r.map f) (f a) (f b)=(wst r a b).map f:=by
    unfold wst;rw[BC,BC]
    refine DW λx hx=>?_
    obtain⟨x0,x1⟩:=hr.2.1 x hx;show(if f x=f a then f b else f x)=f (if x=a then b else x)
    by_cases c:x=a
    ·rw[qX c,qX (by rw[c])]
    ·rw[qY c,qY λz=>c (inj x a x0 x1 a0 a1 z)]
   refine ap (p1.trans ?_);rw[p2];exact((Cb _).map f).symm
 ·rw[qY kk]at hl ⊢
  obtain⟨w,w1,w2⟩:=(Pu (Hm hr.2.2)).mp hl;have hS:=h.stg hr
  have bk:∀x∈Bt (r.map f),i x∈r/\f (i x)=x:=λx hx=>by
   obtain⟨y,hy,rfl⟩:=Al.mp (BJ.mp hx);rw[(h.to y (hr.2.1 y hy).1 (hr.2.1 y hy).2).2.2];exact⟨hy,rfl⟩
  refine(Pu (Hm hS.2.2)).mpr ⟨λx=>f (w (i x)),λx hx=>?_,λx hx y hy e=>?_⟩
  ·obtain⟨b1,b2⟩:=bk x hx
   obtain⟨c1,c2⟩:=w1 _ b1;obtain⟨i0,i1⟩:=hr.2.1 _ b1;refine⟨?_,BJ.mpr (Ct c2)⟩;have:=tg (i x) _ i0 i1 c1;rw[b2]at this;exact this
  ·obtain⟨b1,b2⟩:=bk x hx
   obtain⟨d1,d2⟩:=bk y hy;have wx:=hq.2.1 _ (w1 _ b1).2;have wy:=hq.2.1 _ (w1 _ d1).2;have:=w2 _ b1 _ d1 (inj _ _ wx.1 wx.2 wy.1 wy.2 e);rw[<-b2,<-d2,this]
theorem jp{f i:Int->Int}(h:Ren o f i)(hT:FB o us)(sx:FB o qR)(ht:∀a b:Int,0<=a->a < o->b∈nr us a.toNat->f b∈nr qR (f a).toNat)(hP:Jb o g us kd P):Jb o g qR kd (λr=>Stg o g r/\P (Bt (r.map i))):=by
 rintro r ⟨hr,pr⟩;refine⟨hr,λc c0 c1 c2=>?_⟩;obtain⟨j0,j1,j2⟩:=h.fro c c0 c1;have hq:=h.sw.stg hr
 have nc:i c∉Bt (r.map i):=λz=>by
  obtain⟨y,hy,e⟩:=Al.mp (BJ.mp z);have:=(h.fro y (hr.2.1 y hy).1 (hr.2.1 y hy).2).2.2;rw[e,j2]at this;rw[this]at c2;exact c2 hy
 obtain⟨s,hs,ps⟩:=(hP _ pr).2 (i c) j0 j1 nc;obtain⟨k1,k2,k3⟩:=(JF hT hq nc).mp ⟨s,hs,rfl⟩;have hl:=jo h hT ht hq k1 k2;rw[h.sw.back hr]at hl;obtain⟨s',t9,e⟩:=(JF sx hr c2 (r':=Bt ((Bt s).map f)) (kd:=kd)).mpr ⟨h.stg k1,hl,BJ.mpr (Al.mpr ⟨i c,k3,j2⟩)⟩;refine⟨s',t9,?_⟩;rw[e];exact⟨h.stg k1,by rw[h.back k1];exact ps⟩
theorem bC{f i:Int->Int}(h:Ren o f i)(hT:FB o us)(sx:FB o qR)(ht:∀a b:Int,0<=a->a < o->b∈nr us a.toNat->f b∈nr qR (f a).toNat)(hg:g<=o)(h1:1<=g)(hn:lsG o us kd g≠[]):lsG o qR kd g≠[]:=by
 obtain⟨r,hr⟩:=FX _ hn;have L:=NY (kd:=kd) hT hg h1;have hS:=(L.cl r hr).1;exact Ip ((NY sx hg h1).all _ (jp h hT sx ht L.cl) (Bt (r.map f)) ⟨h.stg hS,by rw[h.back hS];exact hr⟩)
end
theorem XH(ns:List Int)(k:Nat):Co ns (k:Int)=some (ns.getD k 0):=by
 unfold Co GN
 try simp only[AG]
 by_cases c:k < ns.length
 ·rw[wX (show(k:Int) < (ns.length:Int) by lia),qX rfl,Ka (x:=ns[k]) (by lia) (by rw[Aq];exact AZ c)]
  simp only[AG,dE,Xz];rw[Bs,AZ c];rfl
 ·rw[wY (show ¬(k:Int) < (ns.length:Int) by lia),qY AI]
  simp only[CI,Xz];rw[Bs,Bp (by lia)];rfl
structure Pe(o:Nat)(ts:List (Int×Int)):Prop where
 rg:∀x∈ts,0<=x.1/\x.1 < x.2/\x.2 < o
 nd:ts.Nodup
 ln:ts.length<=21
theorem Pe.nrm(h:Pe o ts):ts.map nrm=ts:=by
 conv=>rhs;rw[<-P8 ts]
 exact DW λx hx=>bf (h.rg x hx).2.1
theorem Pe.fit(h:Pe o ts):FC o ts:=by
 refine⟨λx hx=>?_,by rw[h.nrm];exact h.nd⟩;have:=h.rg x hx;unfold Fit;rw[bf this.2.1];omega
theorem Pe.mem(h:Pe o ts):t∈Gj ts↔t∈ts:=by
 rw[(N8 ts).mem_iff,h.nrm]
theorem Pe.web(h:Pe o ts)(h1:1<=o)(ho:o<=60)(pm:(hs.map M.nrm).Perm (ts.map M.nrm)):Yh (o:Int) hs=some (o,Gj ts):=by
 have hl:hs.length=ts.length:=by have:=pm.length_eq;rwa [AC,AC]at this
 unfold Yh;rw[qX ⟨by lia,by lia,FC.of pm h.fit,by rw[hl];have:=h.ln;lia⟩,eV pm,Aq]
theorem Qq:z∈Cp us x↔((x:Int),z)∈us∨(z,(x:Int))∈us:=by
 rw[<-Wu];exact BJ.symm
theorem SO:∀{us:List (Int×Int)},us.Nodup->(∀t∈us,t.1 < t.2)->(Cp us x).Nodup
 | [],_,_=>Dk
 | t :: us,h,h1=>by
  have ih:=SO (x:=x) (BM.mp h).2 λs hs=>h1 s (AJ _ hs)
  have nt:=(BM.mp h).1;have lt:=h1 t AO
  have e:Cp (t :: us) x=((if t.1=(x:Int)then[t.2]else[])++(if t.2=(x:Int)then[t.1]else[]))++Cp us x:=by
   unfold Cp;rw[Z9]
  rw[e]
  have lt':∀a b:Int,(a,b)∈us->a < b:=λa b hm=>h1 _ (AJ _ hm)
  by_cases c1:t.1=(x:Int)
  ·rw[qX c1,qY (by lia),CL]
   show(t.2 :: Cp us x).Nodup;rw[BM];refine⟨λz=>?_,ih⟩
   rcases Qq.mp z with z | z
   ·rw[<-c1]at z;exact nt z
   ·have:=lt' _ _ z;lia
  ·rw[qY c1,df]
   by_cases c2:t.2=(x:Int)
   ·rw[qX c2]
    show(t.1 :: Cp us x).Nodup;rw[BM];refine⟨λz=>?_,ih⟩
    rcases Qq.mp z with z | z
    ·have:=lt' _ _ z;lia
    ·rw[<-c2]at z;exact nt z
   ·rw[qY c2];exact ih
section
variable{o:Nat}{ts:List (Int×Int)}
theorem Pe.ties(h:Pe o ts)(ho:o < 9):FB o (Gj ts):=by
 have rg:∀g:Int,0<=g->g < o->∀x∈nr (Gj ts) g.toNat,0<=x/\x < o/\x≠g:=λg h0 h1 x hx=>by
  rw[Wu,h.mem,h.mem,BD h0]at hx
  rcases hx with hx | hx
  ·have:0<=g/\g < x/\x < o:=h.rg _ hx;lia
  ·have:0<=x/\x < g/\g < o:=h.rg _ hx;lia
 have nd:∀g:Int,0<=g->g < o->(nr (Gj ts) g.toNat).Nodup:=λg _ _=>by
  refine(Cb _).nodup_iff.mpr (SO ?_ λt ht=>?_)
  ·rw[(N8 ts).nodup_iff,h.nrm];exact h.nd
  ·exact(h.rg t (h.mem.mp ht)).2.1
 refine⟨ho,λg h0 h1=>?_,rg,nd⟩;have n2:(g :: nr (Gj ts) g.toNat).Nodup:=BM.mpr ⟨λz=>(rg g h0 h1 g z).2.2 rfl,nd g h0 h1⟩
 have:=IU (k:=DI 0 o) n2 λx hx=>by
  rw[CN]
  rcases AV.mp hx with rfl | hx
  ·lia
  ·have:=rg g h0 h1 x hx;lia
 rw[CA,Aj]at this
 lia
end
def av(tg:Int->List Int):List Int->List Int->Bool
 | [],_=>true
 | a :: l,q=>(tg a).any λb=>q.contains b&&av tg l (q.erase b)
def lkB(tg:Int->List Int)(k:Bool)(r q:List Int):Bool:=cond k (r.any λa=>(tg a).any λb=>!r.contains b&&q.all λx=>x==b||(r.contains x&&x != a)) (av tg r q)
def heB(tg:Int->List Int)(k:Bool)(o:Nat)(F:List (List Int))(r:List Int):Bool:=(DI 0 o).all λc=>r.contains c||F.any λq=>q.contains c&&lkB tg k r q
def elB(tg:Int->List Int)(k:Bool)(o:Nat):Nat->List (List Int)->List (List Int)
 | 0,F=>F
 | n+1,F=>elB tg k o n (F.filter (heB tg k o F))
section
variable{o g:Nat}{us:List (Int×Int)}{kd:Str}{tg:Int->List Int}
theorem Uv:∀{gs q:List Int},(∀a∈gs,∀b,b∈tg a↔b∈Tg us a)->q.Nodup->(av tg gs q=true↔∃s,InS us gs (·∈q) s)
 | [],q,_,_=>⟨λ_=>⟨[],rfl,Dk,λy hy=>zX hy EJ,λx hx=>zX hx EJ⟩,λ_=>rfl⟩
 | a :: gs,q,ht,hq=>by
  unfold av;rw[B9]
  have ih:=λb=>Uv (gs:=gs) (q:=q.erase b) (λx hx=>ht x (AJ _ hx)) (hq.erase b)
  constructor
  ·rintro⟨b,hb,e⟩
   rw[Ax,A0,ih b]at e;obtain⟨ψ,s,s1,s2,s3,s4⟩:=e
   have s5:∀x∈s,x≠b/\x∈q:=λx hx=>(Pl hq).mp (s4 x hx)
   refine⟨b :: s,by rw[Aj,Aj,s1],BM.mpr ⟨λz=>(s5 b z).1 rfl,s2⟩,λy hy=>?_,λx hx=>?_⟩
   ·rw[GB]at hy
    rcases AV.mp hy with rfl | hy
    ·exact(ht a AO b).mp hb
    ·exact s3 y hy
   ·rcases AV.mp hx with rfl | hx
    ·exact ψ
    ·exact(s5 x hx).2
  ·rintro⟨s,s1,s2,s3,s4⟩
   cases s with
   | nil=>cases s1
   | cons b s=>
    rw[Aj,Aj]at s1;obtain⟨n1,n2⟩:=BM.mp s2;refine⟨b,(ht a AO b).mpr (s3 (a,b) (by rw[GB];exact AO)),?_⟩;rw[Ax,A0,ih b];exact⟨s4 b AO,s,by lia,n2,λy hy=>s3 y (by rw[GB];exact AJ _ hy),λx hx=>(Pl hq).mpr ⟨λe=>n1 (e▸hx),s4 x (AJ _ hx)⟩⟩
theorem X8{r q:List Int}(hr:Stg o g r)(hq:Stg o g q)(ht:∀a:Int,0<=a->a < o->∀b,b∈tg a↔b∈Tg us a):lkB tg (decide (kd = "one")) r q=true↔Lk kd us r q:=by
 unfold lkB Lk
 by_cases k:kd = "one"
 ·rw[wX k,qX k]
  show(r.any λa=>(tg a).any λb=>!r.contains b&&q.all λx=>x==b||(r.contains x&&x != a))=true↔Lk1 us r q;unfold Lk1;rw[B9]
  constructor
  ·rintro⟨a,ha,e⟩
   obtain⟨b,hb,e⟩:=B9.mp e;rw[Ax,Om,CO]at e;obtain⟨e1,e2⟩:=e
   have nb:b∉r:=λz=>by rw[A0.mpr z]at e1;cases e1
   have hs:∀x∈q,x∈wst r a b:=λx hx=>(Ho ha).mpr (by
    have:=e2 x hx;rw[Bk,Ax,A0,beq_iff_eq,bne_iff_ne]at this
    exact this)
   have wl:q.length=(wst r a b).length:=by unfold wst;rw[AC,hq.1,hr.1]
   refine⟨a,ha,b,(ht a (hr.2.1 a ha).1 (hr.2.1 a ha).2 b).mp hb,nb,IR (HQ (WG (Hm hr.2.2) nb)) hq.2.2 λx=>?_⟩;rw[BJ];exact⟨Pr (Hm hq.2.2) hs wl x,hs x⟩
  ·rintro⟨a,ha,b,hb,nb,rfl⟩
   refine⟨a,ha,B9.mpr ⟨b,(ht a (hr.2.1 a ha).1 (hr.2.1 a ha).2 b).mpr hb,?_⟩⟩;rw[Ax,Om,CO];refine⟨Bool.eq_false_iff.mpr λz=>nb (A0.mp z),λx hx=>?_⟩;rw[Bk,Ax,A0,beq_iff_eq,bne_iff_ne];exact(Ho ha).mp (BJ.mp hx)
 ·rw[wY k,qY k]
  show av tg r q=true↔LkA us r q;exact Uv (λa ha=>ht a (hr.2.1 a ha).1 (hr.2.1 a ha).2) (Hm hq.2.2)
theorem lc(h:FB o us)(ht:∀a:Int,0<=a->a < o->∀b,b∈tg a↔b∈Tg us a){F:List (List Int)}(hF:∀r∈F,Stg o g r)(e:F.all (heB tg (decide (kd = "one")) o F)=true):Jb o g us kd (·∈F):=λr hr=>by
 have hS:=hF r hr;refine⟨hS,λc c0 c1 c2=>?_⟩;have:=CO.mp (CO.mp e r hr) c (CN.mpr ⟨c0,by lia⟩);rw[Bk,A0]at this
 rcases this with z | z
 ·exact zX z c2
 ·obtain⟨q,hq,z⟩:=B9.mp z
  rw[Ax,A0,X8 hS (hF q hq) ht]at z;obtain⟨s,s1,s2⟩:=(JF h hS c2).mpr ⟨hF q hq,z.2,z.1⟩;exact⟨s,s1,by rw[s2];exact hq⟩
theorem cg(h:FB o us)(ht:∀a:Int,0<=a->a < o->∀b,b∈tg a↔b∈Tg us a)(hP:Jb o g us kd P):∀(n:Nat) (F:List (List Int)),(∀r,P r->r∈F)->∀r,P r->r∈elB tg (decide (kd = "one")) o n F
 | 0,F,hF,r,hr=>hF r hr
 | n+1,F,hF,r,hr=>cg h ht hP n _ (λr hr=>by
  refine BN.mpr ⟨hF r hr,CO.mpr λc hc=>?_⟩;obtain⟨hS,hA⟩:=hP r hr;rw[Bk,A0]
  by_cases c2:c∈r
  ·exact .inl c2
  ·have hc:=CN.mp hc
   obtain⟨s,s1,s2⟩:=hA c hc.1 (by lia) c2;obtain⟨k1,k2,k3⟩:=(JF h hS c2).mp ⟨s,s1,rfl⟩;refine .inr (B9.mpr ⟨_,hF _ s2,?_⟩);rw[Ax,A0,X8 hS k1 ht]
   exact⟨k3,k2⟩) r hr
end
def T0(mk n:Nat):List (Int×Int):=(HS mk n).getD []
def tgF(mk n:Nat)(a:Int):List Int:=match mk with
 | 0=>(DI (a - 1) 3).filter λb=>decide (0<=b)&&decide (b < n)
 | 1=>[(a+n - 1) % n,a,(a+1) % n]
 | 2=>if a=0 then DI 0 n else[0,a]
 | 3=>DI 0 n
 | _=>[a]
def vdB(mk n:Nat)(k:Bool):Bool:=(decide (n<=7)||mk==0||(mk==1&&!k))&&(mk != 1||decide (3<=n))
def kdB(k:Bool):Str:=cond k "one" "all"
def duN(mk n:Nat)(k:Bool):Nat:=((KI mk n (kdB k)).getD 0).toNat
def fam(mk n:Nat)(k:Bool)(d:Nat)(r:List Int):Bool:=match mk with
 | 0=>(DI 0 d).all λi=>(r.filter λx=>x / 2==i).length==1
 | 1=>cond (k&&decide (3 < n)) ((DI 0 d).all λi=>(r.filter λx=>x / 2==i).length==1) ((DI 0 n).any λs=>r.all λx=>(DI 0 d).any λi=>x==(s+3 * i) % n)
 | 2=>cond (k||decide (n<=2)) (!(r.contains 0&&r.contains 1)) (r.contains 0)
 | _=>true
theorem t0_a:∀mk:Nat,mk < 5->∀n:Nat,n < 9->1<=n->vdB mk n false=true->decide (HS mk n=some (T0 mk n)/\(∀x∈T0 mk n,(0<=x.1/\x.1 < n)/\(0<=x.2/\x.2 < n)/\x.1≠x.2)/\((T0 mk n).map nrm).Nodup/\(T0 mk n).length<=21)=true:=by decide +kernel
theorem t0_b:∀mk:Nat,mk < 5->∀n:Nat,n < 9->1<=n->vdB mk n false=true->((C9 n).all λa:Nat=>((tgF mk n a).all λb=>b==(a:Int)||(T0 mk n).contains ((a:Int),b)||(T0 mk n).contains (b,(a:Int)))&&((T0 mk n).all λx=>(x.1 != (a:Int)||(tgF mk n a).contains x.2)&&(x.2 != (a:Int)||(tgF mk n a).contains x.1))&&(tgF mk n a).contains (a:Int))=true:=by decide +kernel
theorem ip:∀mk:Nat,mk < 5->∀n:Nat,n < 9->1<=n->∀k:Bool,KI mk n (kdB k)=some (duN mk n k:Int)/\1<=duN mk n k/\duN mk n k<=n:=by decide +kernel
theorem up_a:∀mk:Nat,mk < 5->∀n:Nat,n < 9->1<=n->∀k:Bool,vdB mk n k=true->((sts n (duN mk n k)).filter (fam mk n k (duN mk n k)))≠[]/\((sts n (duN mk n k)).filter (fam mk n k (duN mk n k))).all (heB (tgF mk n) k n ((sts n (duN mk n k)).filter (fam mk n k (duN mk n k))))=true:=by decide +kernel
theorem lo_a:∀mk:Nat,mk < 5->∀n:Nat,n < 9->1<=n->∀k:Bool,vdB mk n k=true->duN mk n k=1∨elB (tgF mk n) k n 12 (sts n (duN mk n k - 1))=[]:=by decide +kernel
def Xw(CB:(List Int)):Option (Fw Bool Unit):=
 BV ((Co CB (0:Int)).bind λx7=>some (.nx x7)) λv1=>BV (some (.nx ((1:Int)+((v1 / 5) % 7)))) λv8=>BV (some (.nx (v1 % 5))) λxf=>BV ((if (decide (xf=(1:Int)))=true then some (decide (v8 < (3:Int)))else some false).bind λqy=>if qy=true then Fn (λvt=>vt) (some (.nx (0:Int)))else some (.nx xf)) λsd=>BV ((((some (("one" : Str) :: (("all" : Str) :: []))).bind Kr).bind λtx=>atI tx ((v1 / 35) % 2)).bind λqM=>some (.nx qM)) λrq=>BV (((((Co CB (1:Int)).bind λω=>some (ω % 4)).bind λwt=>some (decide (wt=(1:Int)))).bind λuC=>if uC=true then if (decide (sd=(0:Int)))=true then some true else if (decide (sd=(1:Int)))=true then some (decide (rq=("all" : Str)))else some false else some false).bind λxg=>if xg=true then Fn (λvw=>vw) (some (.nx (8:Int)))else some (.nx v8)) λsJ=>BV (((some []).bind Kr).bind λwH=>some (.nx wH)) λxh=>BV (((some sJ).bind Mf).bind λϐ=>Fd ϐ xh λ(yI:(List Int)) sH=>Fn (λyJ=>yJ) (((Co CB ((2:Int)+sH)).bind λϑ=>bo ϑ (sH+(1:Int))).bind λϒ=>(gc yI ϒ sH).bind λwD=>some (.nx wD))) λxi=>BV (((HS sd sJ).bind λϓ=>EV ϓ (λuO=>some true) (λuO=>(atI xi uO.1).bind λϔ=>(atI xi uO.2).bind λϕ=>some (ϔ,ϕ))).bind λϗ=>some (.nx ϗ)) λyK=>BV ((((Yh sJ yK).bind λxj=>some (xj,(rq,()))).bind λrM=>LJ rM.1 rM.2.1).bind λxl=>some (.nx xl)) λxm=>((KH xm).bind λxn=>if xn=true then(KI sd sJ rq).bind λxo=>some (decide (xm=xo))else some false).bind λxq=>some (.rt xq)
def ib(CB:(List Int)):Option Bool:=Gm (Xw CB)
theorem nC(W:Wd)(CB:(List Int)):VF (YK W) [.v (eF CB)] (rV D.bl) (ib CB):=by
 refine Ek (n:=9) (b:=dG W) (p:=Xw CB) (B:=λ_=>[]) ?_;show VS [.v (eF CB),.u,.u,.u,.u,.u,.u,.u,.u] _ _ _ _;unfold dG Xw;exact(BK (EB (Ch (EF (AQ rfl) (EF (CK rfl) Ci)) (λz6=>IE W z6.1 z6.2.1) (λ_=>rfl) E0)) (λv1=>(BK (EB (ID (CK rfl) (Pn rfl (ND rfl (AQ rfl))))) (λv8=>(BK (EB (Pn rfl (AQ rfl))) (λxf=>(BK (Gr (B:=(λ(wQ:Int)=>[.v (eF CB),.v (D.int v1),.v (D.int v8),.v (D.int wQ),.u,.u,.u,.u,.u])) (TJ (Ha (GC Dy Fm (AQ rfl) (CK rfl))) (Ha (iU (AQ rfl) (CK rfl)))) (EC (EB (CK rfl)) (λvt=>(.refl _))) (Gq (.refl _))) (λsd=>(BK (EB (G3 (MK (Dq (HP (Hq (CK rfl) (Hq (CK rfl) IB))))) (Pn rfl (ND rfl (AQ rfl))))) (λrq=>(BK (Gr (B:=(λ(Ϙ:Int)=>[.v (eF CB),.v (D.int v1),.v (D.int Ϙ),.v (D.int sd),.v (D.str rq),.u,.u,.u,.u])) (TJ (Ha (GC Dy Fm (Pn rfl (Ch (EF (AQ rfl) (EF (CK rfl) Ci)) (λyL=>IE W yL.1 yL.2.1) (λ_=>rfl) E0)) (CK rfl))) (nB (Ha (GC Dy Fm (AQ rfl) (CK rfl))) (TJ (Ha (GC Dy Fm (AQ rfl) (CK rfl))) (Ha (GC P0 Tr (AQ rfl) (CK rfl)))))) (EC (EB (CK rfl)) (λvw=>(.refl _))) (Gq (.refl _))) (λsJ=>(BK (Iv (Dq (HP IB))) (λxh=>(BK (G2 (s0:=xh) (B:=(λ(ϙ:(List Int))=>[.v (eF CB),.v (D.int v1),.v (D.int sJ),.v (D.int sd),.v (D.str rq),.w 5 ((oL D.int) ϙ),.u,.u,.u])) (EE (AQ rfl)) Fg (.refl _) (λyI sH=>(EC (jG rfl (aL (Ch (EF (AQ rfl) (EF (ID (CK rfl) (AQ rfl)) Ci)) (λyM=>IE W yM.1 yM.2.1) (λ_=>rfl) E0) (ID (AQ rfl) (CK rfl))) (AQ rfl) rfl) (λyJ=>(.same (.same (.same (.same (.same (.same (.drop (.same (.same .nil))))))))))))) (λxi=>(BK (TB (Dq (aH (VI.k (TF (Ch (EF (AQ rfl) (EF (AQ rfl) Ci)) (λyN=>Um W yN.1 yN.2.1) (λ_=>rfl) NN))) (λuO=>HE) (λuO=>(Lr (G3 (Lq rfl) (AQ rfl)) (G3 (Lq rfl) (AQ rfl))))))) (λyK=>(BK (EB (Ch (Rq (MK (jL (AQ rfl) (Pm rfl))) (EF (AQ rfl) Ci)) (λrM=>aU W rM.1 rM.2.1) (λ_=>rfl) E0)) (λxm=>(Dz (TH (Ch (EF (AQ rfl) Ci) (λxr=>TK W xr.1) (λ_=>rfl) E0) (GC Dy Fm (AQ rfl) (Ch (EF (AQ rfl) (EF (AQ rfl) (EF (AQ rfl) Ci))) (λtE=>WP W tE.1 tE.2.1 tE.2.2.1) (λ_=>rfl) E0))))))))))))))))))))))))
section
variable{o g:Nat}{l:List (Int×Int)}
theorem fy:((x,z)∈l.map nrm∨(z,x)∈l.map nrm)↔(x,z)∈l∨(z,x)∈l:=by
 have h:∀y:Int×Int,nrm y=y∨nrm y=(y.2,y.1):=λ⟨a,b⟩=>by
  unfold nrm;dsimp only
  rcases O7 a b with c | c | c
  ·rw[qY (by lia),qX (by lia)];exact .inl rfl
  ·subst c;exact .inl (by rw[qY (by lia)])
  ·rw[qX (by lia),qY (by lia)];exact .inr rfl
 have up:∀a b:Int,(a,b)∈l.map nrm->(a,b)∈l∨(b,a)∈l:=λa b hm=>by
  obtain⟨y,hy,e⟩:=Al.mp hm
  rcases h y with q | q
  ·rw[q]at e;rw[<-e];exact .inl hy
  ·rw[q]at e
   have e1:=(HM e).1;have e2:=(HM e).2;refine .inr ?_;rw[<-e1,<-e2];exact hy
 have dn:∀a b:Int,(a,b)∈l->(a,b)∈l.map nrm∨(b,a)∈l.map nrm:=λa b hm=>by
  have:=Ct (f:=nrm) hm
  rcases h (a,b)with q | q
  ·rw[q]at this;exact .inl this
  ·rw[q]at this;exact .inr this
 exact⟨λq=>q.elim (up x z) λq=>(up z x q).symm,λq=>q.elim (dn x z) λq=>(dn z x q).symm⟩
theorem bg(h:Pe o (l.map nrm))(x0:0<=x):z∈nr (Gj (l.map nrm)) x.toNat↔(x,z)∈l∨(z,x)∈l:=by
 rw[Wu,h.mem,h.mem,BD x0,fy]
structure Zu(o:Nat)(l:List (Int×Int)):Prop where
 rg:∀x∈l,(0<=x.1/\x.1 < (o:Int))/\(0<=x.2/\x.2 < (o:Int))/\x.1≠x.2
 nd:(l.map nrm).Nodup
 ln:l.length<=21
theorem Zu.tied(h:Zu o l):Pe o (l.map nrm):=by
 refine⟨λy hy=>?_,h.nd,by rw[AC];exact h.ln⟩;obtain⟨⟨a,b⟩,hx,rfl⟩:=Al.mp hy;obtain⟨h1,h2,h3⟩:=h.rg _ hx;unfold nrm;dsimp only at h1 h2 h3 ⊢
 rcases O7 a b with c | c | c
 ·rw[qY (by lia),qX (by lia)];exact⟨h1.1,c,h2.2⟩
 ·exact zX c h3
 ·rw[qX (by lia),qY (by lia)];exact⟨h2.1,c,h1.2⟩
abbrev mpP(f:Int->Int)(x:Int×Int):Int×Int:=(f x.1,f x.2)
theorem Zu.ren(h:Zu o l)(hR:Ren o f i):Zu o (l.map (mpP f)):=by
 have inj:∀x y:Int,0<=x->x < o->0<=y->y < o->f x=f y->x=y:=λx y x0 x1 y0 y1 e=>by
  rw[<-(hR.to x x0 x1).2.2,<-(hR.to y y0 y1).2.2,e]
 refine⟨λy hy=>?_,?_,by rw[AC];exact h.ln⟩
 ·obtain⟨x,hx,rfl⟩:=Al.mp hy
  obtain⟨h1,h2,h3⟩:=h.rg x hx;have a1:=hR.to x.1 h1.1 h1.2;have a2:=hR.to x.2 h2.1 h2.2;exact⟨⟨a1.1,a1.2.1⟩,⟨a2.1,a2.2.1⟩,λe=>h3 (inj _ _ h1.1 h1.2 h2.1 h2.2 e)⟩
 ·have h0:=Bc.mp h.nd
  rw[BC];refine Bc.mpr (h0.imp_of_mem λ{a b} ha hb n e=>n ?_);obtain⟨a1,a2,-⟩:=h.rg a ha;obtain⟨b1,b2,-⟩:=h.rg b hb;have e':nrm (mpP f a)=nrm (mpP f b):=e
  have sw:∀u v:Int×Int,nrm u=nrm v↔(u=v∨u=(v.2,v.1)):=λ⟨u1,u2⟩ ⟨v1,v2⟩=>by
   unfold nrm;dsimp only;rw[Ri,Ri,Ri]
   constructor
   ·rintro⟨q1,q2⟩
    split at q1 <;> split at q1 <;> split at q2 <;> split at q2 <;> lia
   ·rintro(⟨rfl,rfl⟩ | ⟨rfl,rfl⟩)
    ·exact⟨rfl,rfl⟩
    ·constructor
     ·split <;> split <;> lia
     ·split <;> split <;> lia
  refine(sw a b).mpr ?_
  rcases(sw _ _).mp e' with q | q
  ·obtain⟨q1,q2⟩:=HM q
   exact .inl (Xa (inj _ _ a1.1 a1.2 b1.1 b1.2 q1) (inj _ _ a2.1 a2.2 b2.1 b2.2 q2))
  ·obtain⟨q1,q2⟩:=HM q
   exact .inr (Xa (inj _ _ a1.1 a1.2 b2.1 b2.2 q1) (inj _ _ a2.1 a2.2 b1.1 b1.2 q2))
theorem bB{c:List Int}(h:c.Perm (DI 0 o)):Ren o (λx=>c.getD x.toNat 0) (λy=>(c.idxOf y:Int)):=by
 have hl:c.length=o:=by rw[h.length_eq,CA]
 have hn:c.Nodup:=h.nodup_iff.mpr ((Lu 0 o).imp λ{a b} h=>by lia)
 have hm:∀x,x∈c↔0<=x/\x < (o:Int):=λx=>by rw[h.mem_iff,CN];lia
 refine⟨λx x0 x1=>?_,λx x0 x1=>?_⟩
 ·have hx:x.toNat < c.length:=by lia
  have e:c.getD x.toNat 0=c[x.toNat]:=by rw[Bs,AZ hx];rfl
  show 0<=c.getD x.toNat 0/\c.getD x.toNat 0 < _/\_;rw[e];obtain⟨m0,m1⟩:=(hm _).mp (De hx);refine⟨m0,m1,?_⟩;rw[Is.idxOf_getElem hn]
  lia
 ·have hx:c.idxOf x < c.length:=List.idxOf_lt_length_iff.mpr ((hm x).mpr ⟨x0,x1⟩)
  refine⟨by lia,by lia,?_⟩;show c.getD ((c.idxOf x:Int)).toNat 0=x;rw[Aq,Bs,AZ hx];exact List.getElem_idxOf hx
theorem gX{mk n:Nat}(sQ:mk < 5)(hn:n < 9)(h1:1<=n){k:Bool}(hv:vdB mk n k=true){c:List Int}(hc:c.Perm (DI 0 n)) :
  HS mk n=some (T0 mk n)/\(∀x∈T0 mk n,(0<=x.1/\x.1 < n)/\(0<=x.2/\x.2 < n))/\(T0 mk n).length<=21 /\
  ∃us,Yh n ((T0 mk n).map (mpP λx=>c.getD x.toNat 0))=some (n,us)/\LJ (n,us) (kdB k)=some (duN mk n k:Int):=by
 have yO:vdB mk n false=true:=by
  cases k with
  | false=>exact hv
  | true=>
   unfold vdB at hv ⊢;simp only[Ax,Bk,jB,Dm,and_false,or_false,iT,and_true]at hv ⊢;exact⟨.inl hv.1,hv.2⟩
 obtain⟨t1,t2,t3,t4⟩:=of_decide_eq_true (t0_a mk sQ n hn h1 yO);have tb:=t0_b mk sQ n hn h1 yO;obtain⟨d1,d2,d3⟩:=ip mk sQ n hn h1 k;have Wb:Zu n (T0 mk n):=⟨t2,t3,t4⟩;have hR:=bB hc;generalize (λy=>(c.idxOf y:Int))=i at hR;generalize (λx:Int=>c.getD x.toNat 0)=f at hR ⊢;have Wf:=Wb.ren hR;have hT:=Wb.tied.ties hn;have sx:=Wf.tied.ties hn;refine⟨t1,λx hx=>⟨(t2 x hx).1,(t2 x hx).2.1⟩,t4,_,Wf.tied.web h1 (by lia) (by rw[Wf.tied.nrm]),?_⟩
 have rt:∀x∈T0 mk n,i (f x.1)=x.1/\i (f x.2)=x.2:=λx hx=>⟨(hR.to _ (t2 x hx).1.1 (t2 x hx).1.2).2.2,(hR.to _ (t2 x hx).2.1.1 (t2 x hx).2.1.2).2.2⟩
 have e1:∀a b:Int,0<=a->a < n->b∈nr (Gj ((T0 mk n).map nrm)) a.toNat->f b∈nr (Gj (((T0 mk n).map (mpP f)).map nrm)) (f a).toNat:=λa b a0 a1 hb=>by
  rw[bg Wb.tied a0]at hb;rw[bg Wf.tied (hR.to a a0 a1).1]
  exact hb.imp (λq=>Ct (f:=mpP f) q) λq=>Ct (f:=mpP f) q
 have e2:∀a b:Int,0<=a->a < n->b∈nr (Gj (((T0 mk n).map (mpP f)).map nrm)) a.toNat->i b∈nr (Gj ((T0 mk n).map nrm)) (i a).toNat:=λa b a0 a1 hb=>by
  rw[bg Wf.tied a0]at hb;rw[bg Wb.tied (hR.fro a a0 a1).1]
  have key:∀u v:Int,(u,v)∈(T0 mk n).map (mpP f)->(i u,i v)∈T0 mk n:=λu v hm=>by
   obtain⟨x,hx,e⟩:=Al.mp hm;obtain⟨q1,q2⟩:=HM e;rw[<-q1,<-q2,(rt x hx).1,(rt x hx).2];exact hx
  exact hb.imp (key a b) (key b a)
 have ht:∀a:Int,0<=a->a < n->∀b,b∈tgF mk n a↔b∈Tg (Gj ((T0 mk n).map nrm)) a:=λa a0 a1 b=>by
  have b0:=CO.mp tb a.toNat (Iq.mpr (by lia));rw[Ax,Ax,BD a0]at b0;obtain⟨⟨b1,b2⟩,b3⟩:=b0;rw[Kd,bg Wb.tied a0]
  constructor
  ·intro hb
   have:=CO.mp b1 b hb;rw[Bk,Bk,beq_iff_eq,A0,A0]at this;exact or_assoc.mp this
  ·have b2:=λx hx=>CO.mp b2 x hx
   rintro(rfl | hb | hb)
   ·exact A0.mp b3
   ·have:=b2 _ hb
    rw[Ax,Bk,A0,bne_iff_ne]at this;exact this.1.elim (λq=>zX rfl q) id
   ·have:=b2 _ hb
    rw[Ax,Bk,Bk,A0,bne_iff_ne,A0,bne_iff_ne]at this;exact this.2.elim (λq=>zX rfl q) id
 have kq:decide (kdB k = "one")=k:=by cases k <;> decide
 have U:lsG n (Gj ((T0 mk n).map nrm)) (kdB k) (duN mk n k)≠[]:=by
  obtain⟨u1,u2⟩:=up_a mk sQ n hn h1 k hv;obtain⟨r,hr⟩:=FX _ u1;rw[<-kq]at u2;generalize hF:(sts n (duN mk n k)).filter (fam mk n k (duN mk n k))=F at u1 hr
  have hS:∀r∈F,Stg n (duN mk n k) r:=λr hr=>by
   rw[<-hF]at hr;exact(FH hn d3 d2).mp (BN.mp hr).1
  refine Ip ((NY hT d3 d2).all _ (lc hT ht hS ?_) r hr);rw[kq]at u2 ⊢;rw[hF]at u2;exact u2
 obtain⟨m,em,j,rfl,j1,j2,j3,j4⟩:=pB (kd:=kdB k) sx h1;rw[em]
 congr 2
 rcases Nat.lt_trichotomy j (duN mk n k)with q | q | q
 ·exfalso
  have j5:=ic sx j1 j3 (duN mk n k - 1 - j) (by lia);rw[show j+(duN mk n k - 1 - j)=duN mk n k - 1 by lia]at j5;have j6:=bC hR.sw sx hT e2 (by lia) (by lia) j5;obtain⟨r,hr⟩:=FX _ j6;have L:=NY (kd:=kdB k) hT (g:=duN mk n k - 1) (by lia) (by lia)
  rcases lo_a mk sQ n hn h1 k hv with z | z
  ·lia
  ·have:=cg hT ht L.cl 12 (sts n (duN mk n k - 1)) (λr hr=>(FH hn (by lia) (by lia)).mpr (L.cl r hr).1) r hr
   rw[kq,z]at this;cases this
 ·exact q
 ·exact zX (j4 _ d2 q) (bC hR hT sx e1 d3 d2 U)
end
theorem cJ{s:List Int}{x:Int}{j:Nat}:(s.take j++[x]++s.drop j).Perm (s++[x]):=by
 have h:(s.take j++[x]++s.drop j).Perm (s.take j++(s.drop j++[x])):=by
  rw[D4];exact List.Perm.append_left _ List.perm_append_comm
 rw[<-D4,List.take_append_drop]at h;exact h
theorem oZ(ns:List Int):ib ns=some true:=by
 refine Ok.is (OkF.out ?_);unfold Xw;rw[show Co ns 0=some (ns.getD 0 0)from XH ns 0,show Co ns 1=some (ns.getD 1 0)from XH ns 1];generalize ns.getD 0 0=hd;generalize ns.getD 1 0=b;simp only[AG,CI]
 obtain⟨n0,en0,n1,n7⟩:∃n0:Nat,(1:Int)+hd / 5 % 7=n0/\1<=n0/\n0<=7:=⟨((1:Int)+hd / 5 % 7).toNat,by lia,by lia,by lia⟩
 obtain⟨m0,em0,m5⟩:∃m0:Nat,hd % 5=m0/\m0 < 5:=⟨(hd % 5).toNat,by lia,by lia⟩
 rw[en0,em0]
 obtain⟨mk,emk,sQ,uI⟩:∃mk:Nat,(((if decide ((m0:Int)=1)=true then some (decide ((n0:Int) < 3))else some false).bind λqy=>if qy=true then Fn (λvt=>vt) (some (.nx (0:Int)))else some (.nx (m0:Int))):Option (Fw Bool Int))=some (.nx (mk:Int))/\mk < 5/\(mk=1->3<=n0):=by
  by_cases c:(m0:Int)=1
  ·rw[wX c,qX rfl]
   by_cases c2:(n0:Int) < 3
   ·exact⟨0,by rw[wX c2];rfl,by lia,by lia⟩
   ·exact⟨m0,by rw[wY c2];rfl,m5,by lia⟩
  ·exact⟨m0,by rw[wY c];rfl,m5,by lia⟩
 rw[emk];simp only[CI]
 obtain⟨k,ek⟩:∃k:Bool,(((some (("one" : Str) :: (("all" : Str) :: []))).bind Kr).bind λtx=>atI tx ((hd / 35) % 2))=some (kdB k):=by
  rcases(show hd / 35 % 2=0∨hd / 35 % 2=1 by lia)with c | c
  ·exact⟨true,by rw[c];rfl⟩
  ·exact⟨false,by rw[c];rfl⟩
 simp only[AG]at ek ⊢;rw[ek];simp only[AG,CI]
 obtain⟨n,en,sG,hn9,hv⟩:∃n:Nat,(((if decide (b % 4=1)=true then if decide ((mk:Int)=0)=true then some true else if decide ((mk:Int)=1)=true then some (decide (kdB k=("all" : Str)))else some false else some false).bind λxg=>if xg=true then Fn (λvw=>vw) (some (.nx (8:Int)))else some (.nx (n0:Int))):Option (Fw Bool Int))=some (.nx (n:Int))/\1<=n/\n < 9/\vdB mk n k=true:=by
  have v0:vdB mk n0 k=true:=by
   unfold vdB;rw[wX n7,Ol,Ol,jA]
   by_cases c:mk=1
   ·rw[wX (uI c),Bool.or_true]
   ·rw[(bne_iff_ne (a:=mk) (b:=1)).mpr c,Ol]
  by_cases c:b % 4=1
  ·rw[wX c,qX rfl]
   by_cases c2:(mk:Int)=0
   ·have:mk=0:=by lia
    subst this;exact⟨8,rfl,by lia,by lia,by cases k <;> decide⟩
   ·rw[wY c2,qY AI]
    by_cases c3:(mk:Int)=1
    ·have:mk=1:=by lia
     subst this
     cases k with
     | true=>exact⟨n0,rfl,n1,by lia,v0⟩
     | false=>exact⟨8,rfl,by lia,by lia,by decide⟩
    ·rw[wY c3,qY AI]
     exact⟨n0,rfl,n1,by lia,v0⟩
  ·rw[wY c,qY AI]
   exact⟨n0,rfl,n1,by lia,v0⟩
 rw[en];simp only[AG,CI,pC];rw[NK (by lia) (by lia),Aq];simp only[AG];refine OkF.seq (OkF.for (λpre (s:List Int)=>s.Perm pre) (List.Perm.refl _) ?_) ?_
 ·intro pre x s hx hp hs
  have tj:=CN.mp hx;have hl:=hs.length_eq;have qv:=hp.length_le;rw[As,BW,CA]at qv
  obtain⟨w,ew⟩:∃w,Co ns (2+x)=some w:=⟨ns.getD (2+x).toNat 0,by have:=XH ns (2+x).toNat;rwa [BD (by lia)]at this⟩
  rw[ew];simp only[AG];rw[gK (by lia)];simp only[AG];have w0:=Int.emod_nonneg w (show x+1≠0 by lia);have w1:=Int.emod_lt_of_pos w (show 0 < x+1 by lia);rw[show gc s (w % (x+1)) x=some _ from qX ⟨w0,by lia,by lia⟩];exact .nx (cJ.trans (hs.append_right _))
 ·intro c hc
  obtain⟨k1,k2,k3,us,k4,k5⟩:=gX sQ hn9 sG hv hc;obtain⟨d1,d2,d3⟩:=ip mk sQ n hn9 sG k;have hR:=bB hc
  have hl:c.length=n:=by rw[hc.length_eq,CA]
  have ga:∀x:Int,0<=x->x < n->atI c x=some (c.getD x.toNat 0):=λx x0 x1=>Ka x0 (by rw[Bs,AZ (show x.toNat < c.length by lia)];rfl)
  rw[k1];simp only[AG]
  rw[Hz (f:=mpP λx=>c.getD x.toNat 0) (by lia) λx hx=>by
   obtain⟨h1,h2⟩:=k2 x hx;rw[ga _ h1.1 h1.2,ga _ h2.1 h2.2]
   rfl]
  simp only[AG,CI];rw[k4];simp only[AG];rw[k5];simp only[AG,CI];rw[show KH (duN mk n k:Int)=some true from rfl];simp only[AG,if_true];rw[d1];simp only[AG,decide_true];exact .rt rfl
theorem lF:∀(W:Wd),W.excs.Nodup->∀ns:List Int,ns.length<=63->∃S',YK W [.fro (ns.map D.int)] []=.ok (.bl true) S':=λW _ ns h=>VF.law (by rw[<-oZ ns];exact nC W ns)
end M
namespace PySem.W.Fast
def tw13873447467519377611:Nat:=0
def tw2236002823898852902:Nat:=0
def tw15127831705568056850:Nat:=0
def tw12908261850261245043:Nat:=0
def tw12217088592626439851:Nat:=0
def tw17259978680401353154:Nat:=0
def tw14887005152168779173:Nat:=0
def tw13637204171005499203:Nat:=0
def tw719315506975173000:Nat:=0
def tw4512165853445897800:Nat:=0
def tw14087208102992837631:Nat:=0
def tw11112176153408794363:Nat:=0
def tw4978210269637070541:Nat:=0
def tw6099381092731535770:Nat:=0
def tw15951051790488619958:Nat:=0
def tw14127808410262562767:Nat:=0
def tw4259308312264595597:Nat:=0
def tw553135497519063079:Nat:=0
def tw7983774833540304091:Nat:=0
def tw17571331461461864647:Nat:=0
def tw4594211949011072908:Nat:=0
def tw8818529302002408441:Nat:=0
def tw10722598581888507196:Nat:=0
def tw10430424153808851181:Nat:=0
def tw12418552379387610219:Nat:=0
def tw17866068329026487868:Nat:=0
def tw16018901483926841771:Nat:=0
def tw17906315934756411966:Nat:=0
def tw8464567550002143262:Nat:=0
def tw786110265442406823:Nat:=0
def tw12341374371937736421:Nat:=0
def tw12346828225482191146:Nat:=0
def tw9615208911464640516:Nat:=0
def tw10041823348038836089:Nat:=0
def tw14801827695225885135:Nat:=0
def tw17284800442768023045:Nat:=0
def tw16464378083863288743:Nat:=0
def tw18271439165844354971:Nat:=0
def tw17365915043532246418:Nat:=0
def tw13331651238965870508:Nat:=0
def tw17642854520429507560:Nat:=0
def tw14706276083377093938:Nat:=0
def tw6199161633186060842:Nat:=0
def tw16322648895514785975:Nat:=0
def tw17999334340507863608:Nat:=0
def tw18027522535937595359:Nat:=0
def tw623110614691138538:Nat:=0
def tw1425699229392066249:Nat:=0
def tw493405467227316662:Nat:=0
def tw5262281027285998413:Nat:=0
def tw17818233617821787395:Nat:=0
def tw13117418115228891757:Nat:=0
def tw7153680571719907267:Nat:=0
def tw6178954426923324427:Nat:=0
def tw39481299425534299:Nat:=0
def tw15008139143639154329:Nat:=0
def tw984962765823083614:Nat:=0
def tw17509180882485152626:Nat:=0
def tw9124853447204210980:Nat:=0
def tw8015324132804380480:Nat:=0
def tw10957458198060116582:Nat:=0
def tw16630261628944312553:Nat:=0
def tw1496569832613581985:Nat:=0
def tw14825829033004141134:Nat:=0
def tw2244564687477348795:Nat:=0
def tw6993593488862659612:Nat:=0
def tw15814119903160230562:Nat:=0
def tw276257964737435490:Nat:=0
def tw3132989041516675259:Nat:=0
def tw3860908062288849467:Nat:=0
def tw16060307211078339734:Nat:=0
def tw5412394546372315765:Nat:=0
def tw3167873133730899106:Nat:=0
def tw17208254117267764624:Nat:=0
def tw8250885875462467210:Nat:=0
def tw11115315554956628584:Nat:=0
def tw2911432779880205722:Nat:=0
def tw12086581249619585720:Nat:=0
def tw17002769217184338282:Nat:=0
def tw8870272239389537568:Nat:=0
def tw13670699360631306182:Nat:=0
def tw6992266195127960474:Nat:=0
def tw15390695887965254043:Nat:=0
def tw865799138974898594:Nat:=0
def tw4135903879935890621:Nat:=0
def tw16306062082836217074:Nat:=0
def tw15573717551556044169:Nat:=0
def tw6163123120987532711:Nat:=0
def tw14115315765959151663:Nat:=0
def tw5140951424180357669:Nat:=0
def tw4853255738825222426:Nat:=0
def tw7739209284363878973:Nat:=0
def tw14976484495825949880:Nat:=0
def tw8648254210938847499:Nat:=0
def tw10158984217182368876:Nat:=0
def tw17108428644938850113:Nat:=0
def tw9046928438545301336:Nat:=0
def tw17172630557281726686:Nat:=0
def tw14843282049503169128:Nat:=0
def tw5687389511987258355:Nat:=0
def tw9340247969951746575:Nat:=0
def tw16612406841998471925:Nat:=0
def tw18418467853895613914:Nat:=0
def tw4223231367168789184:Nat:=0
def tw6424599355245396658:Nat:=0
def tw9471082602016023296:Nat:=0
def tw10579729632172166278:Nat:=0
def tw11353922653202537883:Nat:=0
end PySem.W.Fast
namespace M
open PySem PySem.Spec PyProof.Rows L2 PySem.W
theorem lq{l:OpenLaw}{w:Bx}{K:Frag}{h:Cu}{mg:Str->Option AH}{fa:AU}(X:K.In h)(G:h.Ns BL mg)(Ϛ:mg "law" = some (.ref fa))
  {f1 f2 f3 f4 f5 f6 f7 f8 f9 ϛ Ϝ ϝ Ϟ ϟ Ϡ ϡ Ϣ ϣ Ϥ ϥ Ϧ ϧ Ϩ ϩ Ϫ ϫ Ϭ ϭ Ϯ ϯ ϰ ϱ yP rm qc:AU} {qo qh qd:Tok}
  (o_Web:ClsAt K "Web" rm)
  (o_Field:ClsAt K "Field" qc)
  (d1:EI K "checked_ties" IK f1)
  (d2:EI K "near_sets_of" IH f2)
  (d4:EI K "refuse_no_place" GH f4)
  (d5:EI K "near" Wl f5)
  (d6:EI K "takes_of" Mb f6)
  (d7:EI K "bits_of" OG f7)
  (d8:EI K "members" OE f8)
  (d9:EI K "settle" QY f9)
  (d10:EI K "fits" Wm ϛ)
  (d11:EI K "with_step" LA Ϝ)
  (d12:EI K "sets_of" OD ϝ)
  (d13:EI K "ways_to_choose" G4 Ϟ)
  (d14:EI K "how_many" Mc ϟ)
  (d15:EI K "standings" LB Ϡ)
  (d22:EI K "falling_now" JN ϧ)
  (d23:EI K "fallen" Qa Ϩ)
  (d24:EI K "lasting_bits" IJ ϩ)
  (d25:EI K "lasting" OF Ϫ)
  (d26:EI K "refuse_many_places" Ey ϫ)
  (d27:EI K "least_guards" II Ϭ)
  (d28:EI K "fewest" QZ ϭ)
  (d29:EI K "_law_cell_at" IL Ϯ)
  (d30:EI K "_law_whole" J8 ϯ)
  (d31:EI K "_law_ties" LC ϰ)
  (d32:EI K "_law_due" Md ϱ)
  (d33:EI K "law" Xs yP)
  (d3:MR K rm "__init__" "Web.__init__" Me f3)
  (d16:MR K qc "linked_by_one" "Field.linked_by_one" Ed ϡ)
  (d17:MR K qc "linked_by_all" "Field.linked_by_all" Ee Ϣ)
  (d18:MR K qc "__init__" "Field.__init__" J9 ϣ)
  (d19:MR K qc "calls" "Field.calls" JO Ϥ)
  (d20:MR K qc "linked" "Field.linked" IM ϥ)
  (d21:MR K qc "behind" "Field.behind" IN Ϧ)
  (n_Web_places:findIn K (.ref rm) "places" = some none)
  (n_Web_ties:findIn K (.ref rm) "ties" = some none)
  (n_Web_near_sets:findIn K (.ref rm) "near_sets" = some none)
  (n_Field_everything:findIn K (.ref qc) "everything" = some none)
  (n_Field_kind:findIn K (.ref qc) "kind" = some none)
  (n_Field_takes:findIn K (.ref qc) "takes" = some none)
  (n_Field_numbers:findIn K (.ref qc) "numbers" = some none)
  (n_Field_having:findIn K (.ref qc) "having" = some none)
  (n_Field_place_bits:findIn K (.ref qc) "place_bits" = some none)
  (n_Field_known:findIn K (.ref qc) "known" = some none)
  (z_bool:P4 K BL "bool" = some none)
  (z_enumerate:P4 K BL "enumerate" = some none)
  (z_int:P4 K BL "int" = some none)
  (z_isinstance:P4 K BL "isinstance" = some none)
  (z_len:P4 K BL "len" = some none)
  (z_max:P4 K BL "max" = some none)
  (z_min:P4 K BL "min" = some none)
  (z_range:P4 K BL "range" = some none)
  (z_sorted:P4 K BL "sorted" = some none)
  (z_sum:P4 K BL "sum" = some none)
  (z_tuple:P4 K BL "tuple" = some none)
  (g_MOST_PLACES:P4 K BL "MOST_PLACES" = some (some (.int 60 qo)))
  (g_MOST_STANDINGS:P4 K BL "MOST_STANDINGS" = some (some (.int 400 qh)))
  (g_MOST_PLACES_GUARDED:P4 K BL "MOST_PLACES_GUARDED" = some (some (.int 8 qd)))
  : ∃(W:Wd) (T:Txt K mg W),fa=T.d_law.f/\W.excs.Nodup/\∀(s:AL) (v:AH),V5 s T.d_law.fd ⟨[v],[]⟩ [("script",v)]:=by
 obtain⟨zl,_,_,_,_,_,_,_,_,_,l,c,k⟩:=d33;have F:=cV (st:=Xs) l c k
 let W:Wd:=⟨rm,qc⟩
 let T:Txt K mg W:={
  d_checked_ties:=mkD X G d1 (bd2 λ_ _ _ _ _ _ _ _ _ _=>rfl)
  d_near_sets_of:=mkD X G d2 (bd2 λ_ _ _ _ _ _ _ _ _ _=>rfl)
  d_Web_init:=mkM d3 (bd3 λ_ _ _ _ _ _ _ _ _ _ _=>rfl)
  d_refuse_no_place:=mkD X G d4 (bd2 λ_ _ _ _ _ _ _ _ _ _=>rfl)
  d_near:=mkD X G d5 (bd2 λ_ _ _ _ _ _ _ _ _ _=>rfl)
  d_takes_of:=mkD X G d6 (bd1 λ_ _ _ _ _ _ _ _ _=>rfl)
  d_bits_of:=mkD X G d7 (bd1 λ_ _ _ _ _ _ _ _ _=>rfl)
  d_members:=mkD X G d8 (bd1 λ_ _ _ _ _ _ _ _ _=>rfl)
  d_settle:=mkD X G d9 (bd5 λ_ _ _ _ _ _ _ _ _ _ _ _ _=>rfl)
  d_fits:=mkD X G d10 (bd3 λ_ _ _ _ _ _ _ _ _ _ _=>rfl)
  d_with_step:=mkD X G d11 (bd3 λ_ _ _ _ _ _ _ _ _ _ _=>rfl)
  d_sets_of:=mkD X G d12 (bd2 λ_ _ _ _ _ _ _ _ _ _=>rfl)
  d_ways_to_choose:=mkD X G d13 (bd2 λ_ _ _ _ _ _ _ _ _ _=>rfl)
  d_how_many:=mkD X G d14 (bd2 λ_ _ _ _ _ _ _ _ _ _=>rfl)
  d_standings:=mkD X G d15 (bd2 λ_ _ _ _ _ _ _ _ _ _=>rfl)
  d_Field_linked_by_one:=mkM d16 (bd2 λ_ _ _ _ _ _ _ _ _ _=>rfl)
  d_Field_linked_by_all:=mkM d17 (bd2 λ_ _ _ _ _ _ _ _ _ _=>rfl)
  d_Field_init:=mkM d18 (bd4 λ_ _ _ _ _ _ _ _ _ _ _ _=>rfl)
  d_Field_calls:=mkM d19 (bd2 λ_ _ _ _ _ _ _ _ _ _=>rfl)
  d_Field_linked:=mkM d20 (bd2 λ_ _ _ _ _ _ _ _ _ _=>rfl)
  d_Field_behind:=mkM d21 (bd3 λ_ _ _ _ _ _ _ _ _ _ _=>rfl)
  d_falling_now:=mkD X G d22 (bd2 λ_ _ _ _ _ _ _ _ _ _=>rfl)
  d_fallen:=mkD X G d23 (bd1 λ_ _ _ _ _ _ _ _ _=>rfl)
  d_lasting_bits:=mkD X G d24 (bd2 λ_ _ _ _ _ _ _ _ _ _=>rfl)
  d_lasting:=mkD X G d25 (bd3 λ_ _ _ _ _ _ _ _ _ _ _=>rfl)
  d_refuse_many_places:=mkD X G d26 (bd1 λ_ _ _ _ _ _ _ _ _=>rfl)
  d_least_guards:=mkD X G d27 (bd2 λ_ _ _ _ _ _ _ _ _ _=>rfl)
  d_fewest:=mkD X G d28 (bd2 λ_ _ _ _ _ _ _ _ _ _=>rfl)
  d__law_cell_at:=mkD X G d29 (bd2 λ_ _ _ _ _ _ _ _ _ _=>rfl)
  d__law_whole:=mkD X G d30 (bd1 λ_ _ _ _ _ _ _ _ _=>rfl)
  d__law_ties:=mkD X G d31 (bd2 λ_ _ _ _ _ _ _ _ _ _=>rfl)
  d__law_due:=mkD X G d32 (bd3 λ_ _ _ _ _ _ _ _ _ _ _=>rfl)
  d_law:=⟨yP,_,F,F.binds ((bd1 λ_ _ _ _ _ _ _ _ _=>rfl) _ _),dX X G zl⟩
  c_Web:=mkO X G o_Web d3
  n_Web_places:=n_Web_places
  n_Web_ties:=n_Web_ties
  n_Web_near_sets:=n_Web_near_sets
  c_Field:=mkO X G o_Field d18
  n_Field_everything:=n_Field_everything
  n_Field_kind:=n_Field_kind
  n_Field_takes:=n_Field_takes
  n_Field_numbers:=n_Field_numbers
  n_Field_having:=n_Field_having
  n_Field_place_bits:=n_Field_place_bits
  n_Field_known:=n_Field_known
  m_Field_linked_by_one:=mkE d16
  m_Field_linked_by_all:=mkE d17
  m_Field_calls:=mkE d19
  m_Field_linked:=mkE d20
  m_Field_behind:=mkE d21
  b_bool:=Er X G z_bool
  b_enumerate:=Er X G z_enumerate
  b_int:=Er X G z_int
  b_isinstance:=Er X G z_isinstance
  b_len:=Er X G z_len
  b_max:=Er X G z_max
  b_min:=Er X G z_min
  b_range:=Er X G z_range
  b_sorted:=Er X G z_sorted
  b_sum:=Er X G z_sum
  b_tuple:=Er X G z_tuple
  g_MOST_PLACES:=⟨qo,dX X G g_MOST_PLACES⟩
  g_MOST_STANDINGS:=⟨qh,dX X G g_MOST_STANDINGS⟩
  g_MOST_PLACES_GUARDED:=⟨qd,dX X G g_MOST_PLACES_GUARDED⟩ }
 refine⟨W,T,?_,Dk,λs v=>.of_eq rfl⟩;have e:=Ϛ.symm.trans (dX X G zl);cases e;rfl
theorem walk{l:OpenLaw}{q:Ba}{loose:List Str}{XP:(Str->Option AH)->Cu->Prop}{YP:Bx->Cu->Prop}{d:DefRec}{K:Params->Frag}(hn:l.most=some 63)(u0:d.params.defaults=[])
  (hY:∀(w:Bx) (h:Cu),YP w h->(K w.params).In h)
  (F:∀(w:Bx) (mg:Str->Option AH) (fa:AU) (h:Cu),(K w.params).In h->h.Ns BL mg->mg d.name=some (.ref fa) ->
   ∃(W:Wd) (T:Txt (K w.params) mg W),fa=T.d_law.f/\W.excs.Nodup/\∀(s:AL) (v:AH),V5 s T.d_law.fd ⟨[v],[]⟩ [("script",v)])
  (lF:∀(W:Wd),W.excs.Nodup->∀ns:List Int,ns.length<=63->∃S',YK W [.fro (ns.map D.int)] []=.ok (.bl true) S') :
  WalkO q loose XP YP l.row.toRowW d [] (λf vs=>Yc f vs):=
 L2.dq (n:=63) (k:=20) (x:="script") (CX:=λw=>CXG l.prog w) (sp:=λw=>am (K w.params)) hn (by decide) u0 ⟨rfl,by decide,by decide⟩ hY
  (λw mg fa h KX G sW=>by
   obtain⟨W,T,e,nd,hb⟩:=F w mg fa h KX G sW;subst e
   exact⟨T.d_law.fd,hb,λbase _ _=>b8 (kY T) (lF W nd)⟩)
  (λ_ _ a ns hl hO hS=>⟨a,ns,rfl,lO hO hS,hl,λ_=>rfl⟩) (λw H s e s' z=>lb z)
end M
open PySem PySem.W PyProof.Rows
set_option maxRecDepth 100000 in
set_option maxHeartbeats 0 in
theorem PySem.Challenge.cw_guardround_k32_whole_known_webs_holds : PySem.Challenge.rw_guardround_k32_whole_known_webs.Holds := by
 w_on;o_law;k_head;(case hw=>w_witness2)
 k_fill
 refine M.walk (l:=G0) rfl rfl (λw h Y=>by first | exact kIn_of Y | exact km_in_of Y) ?F M.lF
 case F=>
  intro w mg fa h KX G sW;refine' M.lq (l:=G0) (w:=w) KX G sW ?o_Web ?o_Field ?d1 ?d2 ?d4 ?d5 ?d6 ?d7 ?d8 ?d9 ?d10 ?d11 ?d12 ?d13 ?d14 ?d15 ?d22 ?d23 ?d24 ?d25 ?d26 ?d27 ?d28 ?d29 ?d30 ?d31 ?d32 ?d33 ?d3 ?d16 ?d17 ?d18 ?d19 ?d20 ?d21 ?n_Web_places ?n_Web_ties ?n_Web_near_sets ?n_Field_everything ?n_Field_kind ?n_Field_takes ?n_Field_numbers ?n_Field_having ?n_Field_place_bits ?n_Field_known ?z_bool ?z_enumerate ?z_int ?z_isinstance ?z_len ?z_max ?z_min ?z_range ?z_sorted ?z_sum ?z_tuple ?g_MOST_PLACES ?g_MOST_STANDINGS ?g_MOST_PLACES_GUARDED
  (case o_Web | o_Field=>exact⟨by k_is,by k_is,by k_is,by k_is,by k_is,by k_is,by k_is⟩)
  (case d1 | d2 | d4 | d5 | d6 | d7 | d8 | d9 | d10 | d11 | d12 | d13 | d14 | d15 | d22 | d23 | d24 | d25 | d26 | d27 | d28 | d29 | d30 | d31 | d32 | d33=>exact⟨by k_is,_,_,_,_,_,_,_,_,_,by k_is,by k_is,by k_is⟩)
  (case d3 | d16 | d17 | d18 | d19 | d20 | d21=>exact⟨by k_is,by k_is,_,_,_,_,_,_,_,_,_,by k_is,by k_is,by k_is⟩)
  (case n_Web_places | n_Web_ties | n_Web_near_sets | n_Field_everything | n_Field_kind | n_Field_takes | n_Field_numbers | n_Field_having | n_Field_place_bits | n_Field_known | z_bool | z_enumerate | z_int | z_isinstance | z_len | z_max | z_min | z_range | z_sorted | z_sum | z_tuple | g_MOST_PLACES | g_MOST_STANDINGS | g_MOST_PLACES_GUARDED=>k_is)
#print axioms PySem.Challenge.cw_guardround_k32_whole_known_webs_holds
