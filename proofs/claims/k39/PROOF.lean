import PyProof.Rows.All
import Wide.All
import OpenK.AllK
import Wide.FinOn
import Lean
import PyProof.EqAt
import PyProof.EqKinds
import PyProof.TupleCall
import PyProof.ExcBaseAll.ValueError
import PyProof.NsDelKeeps
import PyProof.NeKinds
import PyProof.Rows.SortShell
import PyProof.Rows.FStr
import PyProof.FString
import PyProof.ExcAttrAll.ValueError
import PyProof.ExcArgsOwn
import PyProof.Rows.SortRuns
import PyProof.TupleIter
import PyProof.Dict
import KE.KDictSum
import PyProof.Rows.SetFrom
import PyProof.SetRoads
import PyProof.Rows.Range3
import PyProof.WalksMore
import PyProof.TupleOfSeq
import PyProof.EnumMake
import PyProof.SliceList
import PyProof.MinMaxWalk
import PyProof.Rows.EnumRows
import PyProof.WalkInts
import PyProof.Rows.SeqCalls
import KE.KRevIter
import PyProof.CollectIter
import PyProof.TupleOfGen
import PyProof.Rows.FactsT2
import PyProof.ListRange
import PyProof.Rows.CallKwBuiltin
import PyProof.ZipIter
import PyProof.Rows.ZipGen
import PyProof.Rows.RuleM_int
import PyProof.Rows.AssignMoreSeq
import PySem.Challenge.RW_guardround_k39_two_colours_or_a_ring
set_option Elab.async false
set_option linter.all false
set_option maxRecDepth 100000
set_option maxHeartbeats 8000000
theorem qX{c:Prop}{h:Decidable c}(hc:c){α:Sort u}{t e:α}:ite c t e=t:=if_pos hc
theorem qY{c:Prop}{h:Decidable c}(hc:Not c){α:Sort u}{t e:α}:ite c t e=e:=if_neg hc
theorem wX{p:Prop}[i:Decidable p](h:p):decide p=true:=decide_eq_true h
theorem wY{p:Prop}[i:Decidable p](h:Not p):decide p=false:=decide_eq_false h
theorem zX{a b:Prop}(h:a)(n:Not a):b:=absurd h n
noncomputable section
open Array renaming append_assoc->XZ,getD_eq_getD_getElem?->Ed,getElem?_eq_some_iff->Et,getElem?_setIfInBounds_ne->Nd,getElem?_toList->Uh,length_toList->Bu,mem_extract_iff_getElem->OR,mem_of_getElem?->Co,mem_toList_iff->BR,perm_iff_toList_perm->Es,toList->iE,toList_append->BI,toList_map->Jc,toList_modify->WL,toList_push->Iv,toList_reverse->Er,toList_setIfInBounds->QV
open Array.Perm renaming refl->Mv
open Bool renaming and_eq_true->D9,false_eq_true->B1,false_ne_true->AR,false_or->iD,not_eq_true'->ZP,not_true->JX,or_eq_true->cZ,true_and->iC
open Eq renaming trans->C8
open False renaming elim->Dr
open ForInStep renaming yield->G4
open Int renaming ediv_le_self->cX,ediv_nonneg->gW,emod_lt_of_pos->Ie,emod_nonneg->Kq,eq_ofNat_of_zero_le->CV,le_antisymm->QT,le_refl->XX,lt_of_le_of_lt->ZO,lt_of_lt_of_le->ZN,natCast_add->gR,toNat_natCast->BN,toNat_of_nonneg->Ci,zero_add->N8
open List renaming all_eq_true->OQ,all_map->Ue,any_cons->HC,any_eq_true->OP,any_toArray->Ju,append_assoc->BE,append_nil->BJ,drop_drop->Qu,drop_eq_getElem_cons->Ir,drop_eq_nil_of_le->Ud,ext_getElem->cL,ext_getElem?->Eh,extract->Na,filterMap_cons->L5,filterMap_cons_none->Fc,filterMap_cons_some->Fb,filter_append->IT,find?_cons->BY,find?_eq_none->Y5,flatten_append->XW,foldl_append->ZL,foldl_cons->cW,forIn_cons->cV,forIn_nil->gN,getD->cK,getD_eq_getElem?_getD->IS,getElem?_append_left->Ac,getElem?_append_right->A9,getElem?_drop->Ft,getElem?_eq_getElem->BG,getElem?_eq_none->BX,getElem?_eq_none_iff->Bh,getElem?_eq_some_iff->AF,getElem?_map->AX,getElem?_range->Bg,getElem?_replicate->DA,getElem?_set->JE,getElem?_set_ne->Am,getElem?_set_self->Az,getElem?_take_of_lt->Sn,getElem?_toArray->Uy,getElem_append_left->JW,getElem_drop->ZK,getElem_inj->cJ,getElem_map->OO,getElem_of_mem->XV,getElem_range->Mu,length->Fv,length_append->Ao,length_cons->A6,length_drop->D8,length_erase_of_mem->Sm,length_filter_le->Kp,length_map->AH,length_nil->Hi,length_pos_of_mem->Uc,length_range->JD,length_replicate->Ko,length_reverse->Hq,length_set->Hh,length_singleton->DY,length_take->CH,lookup->HS,lookup_cons->DV,map->Qt,mapM_toArray->ZJ,map_append->BC,map_congr_left->FM,map_cons->A5,map_id->WH,map_id'->ka,map_map->BP,map_nil->KA,map_reverse->ON,map_take->iB,mem_append->Aw,mem_append_left->A3,mem_append_right->A4,mem_cons->Au,mem_cons_of_mem->AW,mem_cons_self->Ag,mem_filter->Bc,mem_filterMap->Y4,mem_flatMap->cI,mem_flatten->OM,mem_iff_getElem->HR,mem_map->A7,mem_map_of_mem->XU,mem_of_getElem?->A8,mem_of_mem_take->WG,mem_range->CQ,mem_reverse->cH,mem_singleton->AY,mergeSort_perm->XT,nodup_append->CL,nodup_cons->DC,nodup_nil->IR,not_mem_nil->CG,of_mem_zip->QH,pairwise_append->Bb,pairwise_cons->Mt,pairwise_iff_getElem->Rh,pairwise_map->C9,pairwise_mergeSort->Sy,pairwise_reverse->Kn,pairwise_singleton->Jt,perm_append_comm->Ux,range->AT,range_succ->Fq,range_succ_eq_map->Ub,replicate->BU,reverse_cons->JC,singleton_append->G3,size_toArray->AU,take_add_one->JB,take_append_drop->Ec,take_length->B5,take_of_length_le->DQ,take_sublist->ZI,zipIdx_nil->cU
open List.Pairwise renaming imp_of_mem->M0,nil->Qv
open List.Perm renaming append_left->Jb,append_right->QS,of_eq->WI
open List.Sublist renaming refl->nM
open Nat renaming add_le_add_left->Y3,add_zero->N7,le_of_eq->Uv,le_of_lt->N6,le_of_not_lt->Oq,le_refl->AL,le_succ->GU,le_trans->Ax,lt_irrefl->Cz,lt_of_le_of_lt->BD,lt_of_lt_of_le->Ae,lt_or_eq_of_le->ZH,lt_succ_of_lt->Eo,lt_succ_self->CU,lt_trans->ko,min_le_right->J2,ne_of_gt->KF,ne_of_lt->Ak,not_lt->Ic,not_lt_zero->Ho,sub_self->kn,succ_ne_self->cT,zero_add->Gc,zero_le->Cm
open Nat.succ renaming inj->Qs
open Ne renaming symm->Bw
open Option renaming bind_eq_some_iff->Rg,bind_some->Ai,getD_none->Y2,getD_some->Y1,isSome_iff_exists->Qr,isSome_map->Ms,map->kZ
open Option.some renaming inj->CW
open Or renaming inl->QG,inr->QF
open Prod renaming ext->Qq
open PyProof renaming noPylong_small->Rf
open PyProof.Rows renaming AllBare->II,IntsAre->nL,IsTup->kb,Keyed->Ap,SetOf_congr->nK,SortKind->FR,SortSt->BK,Subscript_->Us,arrOf->AV,boot_all->nJ,boot_any->nI,boot_bool->nH,boot_int->nG,boot_isinstance->nF,boot_list->IP,boot_max->nE,boot_min->Op,boot_range->hZ,boot_reversed->nD,boot_set->nC,boot_sorted->nB,boot_sum->nA,boot_tuple->N5,bubble->hX,callWith_builtin1->LJ,callWith_type1->Bi,codeAny_set_update_loopS->m9,elem'_eq->cQ,envOfC->LV,failedOf->IJ,firstMet->Fp,firstOfTuple'->XQ,general'->Um,listUpdate_at->XO,ltAt'->kS,mirror->JZ,mirror_perm->Sj,pairsOf->J8,pendingOf->Aa,reverseSlice'->OL,reverseSlice'_eq->Kx,seqEpoch_at->cP,seqObj->Ia,setObjOf_fresh->m8,slot_tuple_getitem->Fa,sortedHeap->g9,subscriptTail->OK,subscriptTail_builtinR->ZA,tuples'->kQ,wpS_bind->AN,wpS_forRange->B2,wpS_get->HB,wpS_modify->DR,wpS_mono->DD,wpS_pure->AO
open PyProof.Rows.IntsAre renaming int_at->Y0
open PyProof.Rows.IsTup renaming new->ZM
open PyProof.Rows.SortSt renaming mk'->Gw
open PySem renaming Addr->AK,Around->BA,BindsTo->Ug,CmpOp->Sr,DictEntry->Nb,FuncData->Dh,GenState->M2,Heap->Bq,IsEnum->Rj,IsPart->Ri,IsRangeIter->So,Keyword->LX,Model->Uw,NameKind->QR,Paired->Gb,PassesOwn->NZ,Program->Aq,Result->ZF,Scope->IK,Shared->AG,Stmt->Cg,Value->AD,Within->Sx,World->BF,argBest->Iy,assign->Oj,assignEach->Ef,atKey->Uo,attributeBase->EC,backTo->DX,backToKw->cS,behindInMarks->CJ,binaryOp->D7,bindC->Yw,bindL->Yv,bootBuiltins->Ee,builtinLookup_eq_fast->cF,builtinsNs->hV,cLine->Eb,call->XR,call_meets->hU,callerA->QP,cellsFrom->kh,checkBuiltinCall->kg,codeAny->J9,codeAny_call_builtin->cR,codeAny_mono->Ix,compareOp->Bp,concat_meets->ZE,eval->Bm,firstArgMember->Mx,foldedSetIterable->FC,getItem->NY,holding->kT,intKind->ZD,isSubtype_type->Ul,isTrue->Uk,keywordEach->Sk,letOwnedTupleGo->L3,mainGlobals->Af,mem_of_lookup->D6,model->AZ,noFill_tuple_add->Rb,noteFrame->Yu,preSum->hG,pyIter->ZC,pyNext->Ra,rawInt->EO,relabel->Iw,scanBound->RZ,seq_tuple_add->XN,setField->cO,sizeLine_eq->Si,sliceBounds->Ea,slicePick->Yt,slot_list_getitem->QO,spliced->ZB,standAt->kR,starEach->AS,subscripted->Sh,swapsWith->Fo,sysModules->DS,truthy->g8,tupleKind->RY,tupleKind_room_in1->JY,typeLookup->Uj,typeLookup_type->mq,valueAt->QN,wpAny->Al,wpAny_Call_Name_kw->C6,wpAny_Dict_empty->kf,wpAny_Name->g7,wpAny_assign_Name->kP,wpAny_attempt->IH,wpAny_bind->AB,wpAny_call->Oi,wpAny_callSpecial?_slot->DP,wpAny_call_entry->Dd,wpAny_comprehension_free->XM,wpAny_dictEntries->QM,wpAny_dictEpoch->Sv,wpAny_eqBool_int->ke,wpAny_execs_cons->kd,wpAny_execs_nil->Lz,wpAny_field->DE,wpAny_fieldsOf->Mw,wpAny_getItem_list_slice->XJ,wpAny_holding->E2,wpAny_isInstance->RX,wpAny_isOneOf_keyiter->L6,wpAny_isTrue_Compare1->cE,wpAny_loadPart'->Ly,wpAny_mono->GZ,wpAny_newObj_type->B9,wpAny_of_eq->cN,wpAny_passesOwn->Ep,wpAny_pure->AM,wpAny_pyIter_enum->J7,wpAny_pyIter_list->QK,wpAny_pyIter_range->gz,wpAny_pyIter_rangeiter->Y9,wpAny_pyIter_tuple->Dg,wpAny_pyNext_range_end->Y8,wpAny_rule->gy,wpAny_seqItems->Ui,wpAny_setField->FQ,wpAny_specialOf->Su,wpAny_truthy_bool->CT,wpAny_typeNameOfWhole_keyiter->EZ,wpAny_typeNameOf_keyiter->GV,wpAny_typeOf->Y7
open PySem.Around renaming under->Ss
open PySem.Builtin.Dict renaming dictSlotNone->nQ,showsAll->Ot
open PySem.Builtin.Dict_items renaming ownsTuple->KB
open PySem.Builtin.Frozenset renaming updateFrom->cY
open PySem.Builtin.List renaming listExtendWith->EE,listItems->Du,listLengthHint->nP,listSameRef->Nc,listTooLong->Hj,listUpdate->nO
open PySem.Builtin.ObjectAttr renaming bindTo->cM
open PySem.Builtin.Range renaming rangeFitsLong->kz,rangeSize->E3,small->QJ
open PySem.Builtin.Slice renaming sliceAdjust->HD,sliceApplied->MB,sliceFields->kx,slicePartIndex->ku,slicePlaces->ES
open PySem.Builtin.SmallTypes renaming nextOf->ED
open PySem.Builtin.Tuple renaming tupleExact->Ei,tupleItemsOf->kt
open PySem.Calls renaming Name_function_global->QU,callWith_builtin->J3,evalArgs_plain->Kz,spliced_cons->IL,spliced_nil->Iu
open PySem.Challenge renaming pw_guardround_k39_two_colours_or_a_ring->iA,rw_guardround_k39_two_colours_or_a_ring->Fs
open PySem.CmpOf renaming ints_lt->gX
open PySem.Code renaming frames->kr,isFrame->Uf
open PySem.Data renaming cell->Sz,fields->Os
open PySem.EntryCells renaming newEntry->Ro
open PySem.F renaming args_dict_keyiterator_next_1->Ky,args_tuple_add_2->Ib,args_tuple_iterator_next_1->Rm,called_set->FS,entry_dict_keyiterator_next->LH,entry_tuple_add->JA,entry_tuple_iterator_next->Sq,excAttr_ValueError->Oo,plainAttrs_list->Iz,slot_dict_iter->Re,slot_dict_keyiterator_next->CS,slot_dict_update->QQ,slot_enumerate_next->Y6,slot_tuple_add->Ja,slot_tuple_iterator_next->FD
open PySem.Heap renaming ExtBut->WK,SameBut->EI,get?_none_of_le->WJ,get?_push_of_some->AI,get?_push_size->Ah,get?_update_ne->XY,get?_update_other->Ce,get?_update_self->DZ,lt_size->Ab,size_push->Cd
open PySem.Heap.IsSliceOf renaming new->QI
open PySem.Heap.SameBut renaming refl->nN,update->Ge
open PySem.IsRange renaming new->gP
open PySem.NameKind renaming free->IQ
open PySem.Obj renaming cls_mapFields->JV,data_mapFields->CA,isFreed_of_fields->Eg,mapFields->Cy,mapSeq->E7
open PySem.Paired renaming length->EQ,snoc->Ua
open PySem.SeqAt.RcAt renaming tuples->kl
open PySem.Str renaming empty->UX,ofString->Ga
open PySem.Value renaming bool->L8,builtin->gM,bytes->kY,float->Ur,int->N2,isInt->kX,isStrOf->gK,none->BQ,ref->A0,str->N1,type->EF
open PySem.W renaming Frag->AA,InstAt->ZG,callWith_K->Uu,cellsFrom_some->Rc,clsIn->LG,codeIn->On,emptyDict->Ca,excIn->cG,findIn->CZ,findObj->Yz,fnOf->HW,handedIn->XS,hasDictIn->MA,hideAll->Js,hideAll_get->UZ,hideAll_none->KD,instObj->Da,kdu_collect->UY,keepIn->Fu,kia_one->B8,kitOne->CY,kitx_dict->WF,kitx_list->WE,lookIn->Om,looks_findIn->KC,makesIn->Yy,methodObj->L9,mg_none_of->Cn,mg_of->Dt,mroIn->LF,nsOkIn->Ol,of_hideAll->LW,plainGet->Mz,plainOver->WD,specialIn->WC,tail_of_in->Ut,takerIn->N4,takesIn->Yx
open PySem.W.Looks renaming here->km
open PySem.W.WData renaming int->mw
open PySem.W.WShape renaming has->kW
open PySem.Walks renaming list->kj,range->kU,tuple->Uq
open PySem.Within renaming cons->mz
open Sum renaming inl->Cf,inr->N3
open Sum.inl renaming inj->Sw
open True renaming intro->Cv
namespace L2
open PySem PySem.Spec PyProof.Rows
abbrev Key:=Sum Int Str
def RA:Key->AD->Bool
 | .inl k,v=>kX k v
 | .inr x,v=>gK x v
def keyH (w:BF):Key->Int
 | .inl k=>hashInt k
 | .inr x=>hashStr w x
theorem DJ:∀ {k:Key} {v:AD},RA k v=true->(∃i t,k=Cf i/\v=N2 i t)∨(∃x t,k=N3 x/\v=N1 x t)
 | .inl i,v,h=>by
  obtain ⟨t,e⟩:=AD.isInt_shape (k:=i) (v:=v) h;exact .inl ⟨i,t,rfl,e⟩
 | .inr x,v,h=>by
  obtain ⟨t,e⟩:=AD.isStrOf_shape (x:=x) (v:=v) h;exact .inr ⟨x,t,rfl,e⟩
theorem YD (i:Int) (t:Tok):RA (.inl i) (.int i t)=true:=by simp [RA,kX]
theorem YC (x:Str) (t:Tok):RA (.inr x) (.str x t)=true:=by simp [RA,gK]
theorem jn (a b:Int):decide ((Cf a:Key)=Cf b)=(a==b):=by
 by_cases e:a=b
 ·subst e;simp
 ·have h:¬(Cf a:Key)=Cf b:=λq=>e (Sw q)
  rw [wY h];exact (beq_eq_false_iff_ne.mpr e).symm
theorem jk (a b:Str):decide ((N3 a:Key)=N3 b)=decide (a=b):=by
 by_cases e:a=b
 ·subst e;simp
 ·have h:¬(N3 a:Key)=N3 b:=λq=>e (N3.inj q)
  rw [wY h,wY e]
theorem jm (a:Int) (b:Str):decide ((Cf a:Key)=N3 b)=false:=wY (λq=>nomatch q)
theorem jl (a:Str) (b:Int):decide ((N3 a:Key)=Cf b)=false:=wY (λq=>nomatch q)
def DW (prog:Aq) (w:BF):PySem.KeyKind prog w Key where
 is:=RA
 hash:=keyH w
 inj:=λv a b ha hb=>by
  rcases DJ ha with ⟨i,t,rfl,rfl⟩ | ⟨x,t,rfl,rfl⟩
  ·rcases DJ hb with ⟨j,u,rfl,e⟩ | ⟨y,u,rfl,e⟩
   ·injection e with e1 _;rw [e1]
   ·exact nomatch e
  ·rcases DJ hb with ⟨j,u,rfl,e⟩ | ⟨y,u,rfl,e⟩
   ·exact nomatch e
   ·injection e with e1 _;rw [e1]
 byValue:=λk v h=>by
  rcases DJ h with ⟨i,t,rfl,rfl⟩ | ⟨x,t,rfl,rfl⟩ <;> rfl
 pyHash:=λhv h=>by
  rcases DJ hv with ⟨i,t,rfl,rfl⟩ | ⟨x,t,rfl,rfl⟩
  ·exact wpAny_pyHash_int h
  ·exact wpAny_pyHash_str h
 eqBool:=λhu hv h=>by
  rcases DJ hu with ⟨i,t,rfl,rfl⟩ | ⟨x,t,rfl,rfl⟩
  ·rcases DJ hv with ⟨j,u,rfl,rfl⟩ | ⟨y,u,rfl,rfl⟩
   ·rw [jn] at h;exact ke h
   ·rw [jm] at h;exact SeqAt.EqAt.int_str i t y u _ _ _ _ h
  ·rcases DJ hv with ⟨j,u,rfl,rfl⟩ | ⟨y,u,rfl,rfl⟩
   ·rw [jl] at h;exact SeqAt.EqAt.str_int x t j u _ _ _ _ h
   ·rw [jk] at h;exact wpAny_eqBool_str h
 «strs»:=λk x t v h=>by
  rcases DJ h with ⟨i,u,rfl,e⟩ | ⟨y,u,rfl,e⟩
  ·exact nomatch e
  ·injection e with e1 _
   subst e1
   cases v <;> rfl
theorem Tw (prog:Aq) (w:BF) (i:Int) (t:Tok):(DW prog w).is (.inl i) (.int i t)=true:=YD i t
theorem Tv (prog:Aq) (w:BF) (x:Str) (t:Tok):(DW prog w).is (.inr x) (.str x t)=true:=YC x t
inductive V where
 | non | bl (b:Bool) | int (i:Int) | str (x:Str) | byt (b:Array UInt8) | flt (b:UInt64) | ref (a:AK) | ty (n:String)
 deriving DecidableEq
def RelV:V->AD->Prop
 | .non,u=>u=BQ
 | .bl b,u=>u=L8 b
 | .int i,u=>∃t,u=N2 i t
 | .str x,u=>∃t,u=N1 x t
 | .byt b,u=>∃t,u=kY b t
 | .flt b,u=>∃t,u=Ur b t
 | .ref a,u=>u=A0 a
 | .ty n,u=>u=EF n
abbrev Bd:List V->List AD->Prop:=Gb RelV
theorem Bd.length {xs:List V} {us:List AD} (r:Bd xs us):xs.length=us.length:=EQ r
theorem Bd.get:∀ {xs:List V} {us:List AD} {i:Nat} {x:V},Bd xs us->xs[i]?=some x->∃u,us[i]?=some u/\RelV x u
 | _,_,_,_,.nil,e=>by simp at e
 | _,_,0,_,.cons r _,e=>by simp at e;subst e;exact ⟨_,rfl,r⟩
 | _,_,i+1,x,.cons _ t,e=>by
  obtain ⟨u,h1,h2⟩:=Bd.get (i:=i) (x:=x) t (by simpa using e);exact ⟨u,by simpa using h1,h2⟩
theorem Bd.append:∀ {xs ys:List V} {us ws:List AD},Bd xs us->Bd ys ws->Bd (xs++ys) (us++ws)
 | _,_,_,_,.nil,s=>s
 | _,_,_,_,.cons r t,s=>.cons r (Bd.append t s)
theorem Bd.take:∀ {xs:List V} {us:List AD} (n:Nat),Bd xs us->Bd (xs.take n) (us.take n)
 | _,_,0,_=>.nil
 | _,_,_+1,.nil=>.nil
 | _,_,n+1,.cons r t=>.cons r (Bd.take n t)
theorem Bd.drop:∀ {xs:List V} {us:List AD} (n:Nat),Bd xs us->Bd (xs.drop n) (us.drop n)
 | _,_,0,r=>r
 | _,_,_+1,.nil=>.nil
 | _,_,n+1,.cons _ t=>Bd.drop n t
def NX:Option V->Option AD->Prop
 | some v,some u=>RelV v u
 | none,none=>True
 | _,_=>False
def KV {κ:Type}:List (κ×V)->List (κ×AD)->Prop:=Gb λ(p:κ×V) (q:κ×AD)=>p.1=q.1/\RelV p.2 q.2
def kV:Key->V
 | .inl i=>.int i
 | .inr x=>.str x
inductive HO where
 | lst (xs:List V)
 | tup (xs:List V)
 | dK (kvs:List (Key×V)) | dT (kvs:List (List Key×V))
 | set (S:Int->Bool) (n:Nat)
 | ins (C dx:AK) (fs:List (Str×V))
 | own (x:AK)
 | xd (fs:List (Str×V))
 | met (f x:AK)
 | rng (lo hi:Int)
 | frz (o:Obj) (u:HO)
 | tbl (ps:Array AD)
 | ext (φ:Bq->Prop)
abbrev Hp:=AK->Option HO
def upd (H:Hp) (a:AK) (o:HO):Hp:=λb=>if b=a then some o else H b
theorem Bj {H:Hp} {a:AK} {o:HO}:upd H a o a=some o:=by unfold upd;rw [qX rfl]
theorem By {H:Hp} {a b:AK} {o:HO} (h:b≠a):upd H a o b=H b:=by unfold upd;rw [qY h]
theorem lr {H:Hp} {a b:AK} {o u:HO} (h:H a=some o) (h':H b=some u) (d:o≠u):a≠b:=by
 intro e;subst e;rw [h] at h';exact d (CW h')
theorem CI {H:Hp} {a b:AK} {o:HO} (h:H a=some o) (h':H b=none):a≠b:=by
 intro e;subst e;rw [h] at h';cases h'
section
variable (P:Aq) (w:BF)
def Ct (H:Hp) (h:Bq) (a:AK):HO->Prop
 | .lst xs=>xs.length<=sizeLine/\∃(its:List AD) (n:Nat),Bd xs its/\h.get? a=some { cls:=.type "list",data:=.seq its.toArray n }
 | .tup xs=>xs.length<=sizeLine/\∃its:List AD,Bd xs its/\kb h a its.toArray
 | .dK kvs=>kvs.length<=sizeLine/\(a==DS)=false/\∃vs,KV kvs vs/\h.DictOf (DW P w) a vs
 | .dT kvs=>kvs.length<=sizeLine/\(a==DS)=false/\∃xs:List (List Key×AK×AD),
   Gb (λ(p:List Key×V) (q:List Key×AK×AD)=>p.1=q.1/\H q.2.1=some (.tup (p.1.map kV))/\RelV p.2 q.2.2) kvs xs /\
   ∃o es ep,h.get? a=some o/\o.ExactDict/\o.data=.dict es ep/\es.toList=xs.map (entryOfKey (RY (DW P w)))/\(xs.map (·.1)).Nodup
 | .set S n=>h.SetOf (ZD P w) a S n
 | .ins C dx fs=>H dx=some (.own a)/\fs.length<=1000/\dx≠a/\h.get? a=some (Da C dx) /\
   ∃mA,h.Ns1 dx mA/\(∀f,NX (fs.lookup f) (mA f))/\Sx mA (fs.map (·.1))
 | .own _=>∃o,h.get? a=some o
 | .xd fs=>∃mA,h.Ns1 a mA/\∀f,NX (fs.lookup f) (mA f)
 | .rng lo hi=>∃t u v,h.get? a=some { cls:=.type "range",data:=.fields #[.int lo t,.int hi u,.int 1 v] }
 | .frz o u=>h.get? a=some o/\Ct H h a u
 | .tbl ps=>h.get? a=some { cls:=.none,data:=.fields ps }
 | .met f x=>h.get? a=some (L9 (.ref f) (.ref x))
 | .ext φ=>φ h/\(∃o,h.get? a=some o)/\∀h1 h2:Bq,φ h1->(∀o,h1.get? a=some o->h2.get? a=some o)->φ h2
def HOk (H:Hp) (h:Bq):Prop:=∀a o,H a=some o->Ct P w H h a o
end
section
variable {P:Aq} {w:BF} {H H':Hp} {h h':Bq} {a:AK} {o:HO}
theorem Ct.lt (x:Ct P w H h a o):a < h.objs.size:=by
 cases o with
 | lst xs=>obtain ⟨_,_,_,_,e⟩:=x;exact Ab e
 | tup xs=>obtain ⟨_,_,_,p⟩:=x;exact p.lt
 | dK kvs=>obtain ⟨_,_,_,_,o,_,_,e,_⟩:=x;exact Ab e
 | dT kvs=>obtain ⟨_,_,_,_,o,_,_,e,_⟩:=x;exact Ab e
 | set S n=>obtain ⟨o,_,_,_,e,_⟩:=x;exact Ab e
 | ins C dx fs=>obtain ⟨_,_,_,e,_⟩:=x;exact Ab e
 | own y=>obtain ⟨_,e⟩:=x;exact Ab e
 | xd fs=>obtain ⟨_,⟨_,_,_,e,_⟩,_⟩:=x;exact Ab e
 | rng lo hi=>obtain ⟨_,_,_,e⟩:=x;exact Ab e
 | frz ob u=>obtain ⟨e,_⟩:=x;exact Ab e
 | tbl ps=>exact Ab (show h.get? a=some _ from x)
 | met f y=>exact Ab (show h.get? a=some _ from x)
 | ext φ=>obtain ⟨_,⟨_,e⟩,_⟩:=x;exact Ab e
theorem Gb.mapP {α β:Type} {F G:α->β->Prop}:∀ {l₁:List α} {l₂:List β},Gb F l₁ l₂->(∀a b,F a b->G a b)->Gb G l₁ l₂
 | _,_,.nil,_=>.nil
 | _,_,.cons r t,f=>.cons (f _ _ r) (Gb.mapP t f)
theorem Ct.stay (x:Ct P w H h a o) (k:∀b u,(b=a∨H b=some (.own a))->h.get? b=some u->h'.get? b=some u)
  (ho:∀b,H b=some (.own a)->H' b=some (.own a)) (ht:∀b xs,H b=some (.tup xs)->H' b=some (.tup xs)):Ct P w H' h' a o:=by
 induction o with
 | lst xs=>obtain ⟨z,its,n,r,e⟩:=x;exact ⟨z,its,n,r,k _ _ (.inl rfl) e⟩
 | tup xs=>obtain ⟨z,its,r,ob,e,c⟩:=x;exact ⟨z,its,r,ob,k _ _ (.inl rfl) e,c⟩
 | dK kvs=>obtain ⟨z,y,vs,r,ob,es,ep,e,c⟩:=x;exact ⟨z,y,vs,r,ob,es,ep,k _ _ (.inl rfl) e,c⟩
 | dT kvs=>
  obtain ⟨z,y,xs,r,ob,es,ep,e,c⟩:=x;exact ⟨z,y,xs,Gb.mapP r λp q z=>⟨z.1,ht _ _ z.2.1,z.2.2⟩,ob,es,ep,k _ _ (.inl rfl) e,c⟩
 | set S n=>obtain ⟨ob,es,ep,t,e,c⟩:=x;exact ⟨ob,es,ep,t,k _ _ (.inl rfl) e,c⟩
 | ins C dx fs=>
  obtain ⟨d,z,ne,e,mA,⟨od,es,ep,e2,c⟩,r⟩:=x;exact ⟨ho _ d,z,ne,k _ _ (.inl rfl) e,mA,⟨od,es,ep,k _ _ (.inr d) e2,c⟩,r⟩
 | own y=>obtain ⟨ob,e⟩:=x;exact ⟨ob,k _ _ (.inl rfl) e⟩
 | xd fs=>obtain ⟨mA,⟨od,es,ep,e,c⟩,r⟩:=x;exact ⟨mA,⟨od,es,ep,k _ _ (.inl rfl) e,c⟩,r⟩
 | rng lo hi=>obtain ⟨t,u,v,e⟩:=x;exact ⟨t,u,v,k _ _ (.inl rfl) e⟩
 | frz ob u ih=>obtain ⟨e,q⟩:=x;exact ⟨k _ _ (.inl rfl) e,ih q⟩
 | tbl ps=>
  have e:h.get? a=some { cls:=.none,data:=.fields ps }:=x;show h'.get? a=some { cls:=.none,data:=.fields ps };exact k a _ (.inl rfl) e
 | met f y=>
  have e:h.get? a=some (L9 (.ref f) (.ref y)):=x;show h'.get? a=some (L9 (.ref f) (.ref y));exact k a _ (.inl rfl) e
 | ext φ=>obtain ⟨p,⟨o,e⟩,st⟩:=x;exact ⟨st _ _ p λo q=>k _ _ (.inl rfl) q,⟨o,k _ _ (.inl rfl) e⟩,st⟩
theorem HOk.lt (x:HOk P w H h) (e:H a=some o):a < h.objs.size:=(x a o e).lt
theorem HOk.fresh (x:HOk P w H h) (e:h.objs.size<=a):H a=none:=by
 cases q:H a with
 | none=>rfl
 | some u=>exact zX (Ae (x.lt q) e) (Cz _)
theorem HOk.kept (x:HOk P w H h) (k:∀b u,h.get? b=some u->h'.get? b=some u):HOk P w H h':=λa o e=>
 (x a o e).stay (λb u _ q=>k b u q) (λ_ q=>q) λ_ _ q=>q
theorem HOk.laid (x:HOk P w H h) (k:∀b u,h.get? b=some u->h'.get? b=some u) (hp:h.objs.size<=a) (new:Ct P w (upd H a o) h' a o):HOk P w (upd H a o) h':=λb u e=>by
 have hn:=x.fresh hp
 by_cases hb:b=a
 ·subst hb;rw [Bj] at e;cases e;exact new
 ·rw [By hb] at e
  exact (x b u e).stay (λc v _ q=>k c v q) (λc q=>by rw [By (CI q hn)];exact q) λc xs q=>by rw [By (CI q hn)];exact q
end
def Rd (H:Hp) (a:AK) (u:HO):Prop:=H a=some u∨∃o,H a=some (.frz o u)
theorem Rd.ok {P:Aq} {w:BF} {H:Hp} {h:Bq} {a:AK} {u:HO} (r:Rd H a u) (x:HOk P w H h):Ct P w H h a u:=by
 rcases r with r | ⟨o,r⟩
 ·exact x a u r
 ·obtain ⟨_,q⟩:=x a _ r
  exact q
def Mut:Option HO->Prop
 | some (.lst _)=>True
 | some (.dK _)=>True
 | some (.dT _)=>True
 | some (.set _ _)=>True
 | some (.ins _ _ _)=>True
 | some (.ext _)=>True
 | _=>False
section
variable {P:Aq} {w:BF} {H:Hp} {h h':Bq} {x e:AK} {o':HO}
theorem HOk.write (ok:HOk P w H h) (mu:Mut (H x)) (he:e=x∨H e=some (.own x)) (k:∀b u,b≠e->h.get? b=some u->h'.get? b=some u) (heo:∃u,h'.get? e=some u)
  (new:Ct P w (upd H x o') h' x o'):HOk P w (upd H x o') h':=λb u q=>by
 have nown:∀c y,H c=some (.own y)->c≠x:=λc y r z=>by subst z;rw [r] at mu;exact mu
 have ntup:∀c xs,H c=some (.tup xs)->c≠x:=λc xs r z=>by subst z;rw [r] at mu;exact mu
 by_cases hb:b=x
 ·subst hb;rw [Bj] at q;cases q;exact new
 ·rw [By hb] at q
  by_cases hbe:b=e
  ·have q':H b=some (.own x):=by
    rcases he with z | z
    ·exact zX (hbe.trans z) hb
    ·rw [hbe];exact z
   rw [q] at q';cases q';obtain ⟨v,hv⟩:=heo;exact ⟨v,by rw [hbe];exact hv⟩
  ·refine (ok b u q).stay (λc v hc r=>k c v ?_ r) (λc r=>by rw [By (nown c b r)];exact r) λc xs r=>by rw [By (ntup c xs r)];exact r
   rcases hc with rfl | hc
   ·exact hbe
   ·rintro rfl
    rcases he with z | z
    ·exact nown c b hc z
    ·rw [hc] at z;cases z;exact hb rfl
end
structure Un (fs ex:List AK) (H H':Hp) (h h':Bq):Prop where
 keep:∀b o,h.get? b=some o->H b=none->b∉fs->b∉ex->h'.get? b=some o
 slot:∀b o,h.get? b=some o->H b=none->b∈fs->b∉ex->∃sl,h'.get? b=some { o with slots:=sl }
 free:∀b o,h.get? b=some o->H b=none->b∉ex->H' b=none
 there:∀b o,h.get? b=some o->b∉ex->∃o',h'.get? b=some o'
 tups:∀b xs,H b=some (.tup xs)->H' b=some (.tup xs)
 frzs:∀b o u,H b=some (.frz o u)->H' b=some (.frz o u)
 tbls:∀b ps,H b=some (.tbl ps)->∃more,H' b=some (.tbl (ps++more))
section
variable {fs fs' ex ex':List AK} {H H1 H2:Hp} {h h1 h2 h':Bq} {a x e:AK} {o:HO}
theorem Un.any (u:Un fs ex H H1 h h1) {b:AK} {ob:Obj} (q:h.get? b=some ob) (n:H b=none) (hx:b∉ex):∃sl,h1.get? b=some { ob with slots:=sl }:=by
 by_cases hb:b∈fs
 ·exact u.slot b ob q n hb hx
 ·exact ⟨ob.slots,u.keep b ob q n hb hx⟩
theorem Un.kept (k:∀b u,h.get? b=some u->h'.get? b=some u):Un fs ex H H h h':=
 ⟨λb ob q _ _ _=>k b ob q,λb ob q _ _ _=>⟨ob.slots,k b ob q⟩,λ_ _ _ n _=>n,λb ob q _=>⟨ob,k b ob q⟩,λ_ _ q=>q,λ_ _ _ q=>q,λ_ ps q=>⟨#[],by rw [q];simp⟩⟩
theorem Un.refl:Un fs ex H H h h:=Un.kept λ_ _ q=>q
theorem Un.laid (k:∀b u,h.get? b=some u->h'.get? b=some u) (hp:h.objs.size<=a) (hn:H a=none):Un fs ex H (upd H a o) h h' where
 keep:=λb u q _ _ _=>k b u q
 slot:=λb u q _ _ _=>⟨u.slots,k b u q⟩
 free:=λb u q n _=>by rw [By (Ak (Ae (Ab q) hp))];exact n
 there:=λb u q _=>⟨u,k b u q⟩
 tups:=λb xs q=>by rw [By (CI q hn)];exact q
 frzs:=λb u xs q=>by rw [By (CI q hn)];exact q
 tbls:=λb ps q=>⟨#[],by rw [By (CI q hn),q];simp⟩
theorem Un.write (mu:Mut (H x)) (he:e=x∨H e=some (.own x)) (k:∀b u,b≠e->h.get? b=some u->h'.get? b=some u) (heo:∃u,h'.get? e=some u):Un fs ex H (upd H x o) h h':=by
 have hx:∀b,H b=none->b≠x:=λb n z=>by subst z;rw [n] at mu;exact mu
 have hb:∀b,H b=none->b≠e:=λb n z=>by
  subst z
  rcases he with r | r
  ·exact hx b n r
  ·rw [n] at r;cases r
 have hm:∀b u,H b=some u->¬Mut (some u)->b≠x:=λb u q nm z=>by subst z;rw [q] at mu;exact nm mu
 refine ⟨λb u q n _ _=>k b u (hb b n) q,λb u q n _ _=>⟨u.slots,k b u (hb b n) q⟩,λb u q n _=>by rw [By (hx b n)];exact n,λb u q _=>?_,
  λb xs q=>by rw [By (hm b _ q λz=>z)];exact q,λb u xs q=>by rw [By (hm b _ q λz=>z)];exact q,λb ps q=>⟨#[],by rw [By (hm b _ q λz=>z),q];simp⟩⟩
 by_cases hbe:b=e
 ·subst hbe;exact heo
 ·exact ⟨u,k b u hbe q⟩
end
def trk (h:Bq) (H:Hp):List AK:=(AT h.objs.size).filter λa=>(H a).isSome
def SH (h:Bq) (H:Hp):Bq:=Js h (trk h H)
theorem YK (h:Bq) (H:Hp):(SH h H).objs.size=h.objs.size:=PySem.W.hideAll_size _ _
theorem bL {h:Bq} {H:Hp} {b:AK} {o:Obj} (e:h.get? b=some o) (n:H b=none):(SH h H).get? b=some o:=
 UZ _ e λhm=>by
  have q:(H b).isSome=true:=(Bc.mp hm).2;rw [n] at q;simp at q
theorem ee {h:Bq} {H:Hp} {b:AK} {o:Obj} (e:(SH h H).get? b=some o):h.get? b=some o/\H b=none:=by
 have e':h.get? b=some o:=LW (trk h H) e;refine ⟨e',?_⟩
 cases q:H b with
 | none=>rfl
 | some x=>
  have hm:b∈trk h H:=Bc.mpr ⟨CQ.mpr (Ab e'),by simp [q]⟩;have z:(SH h H).get? b=none:=KD (trk h H) hm;rw [z] at e;cases e
structure Mod (K:AA) (mg:Str->Option AD) (base:Bq):Prop where
 kin:K.In base
 glob:base.Ns Af mg
 blt:∃mb,base.Ns hV mb/\∀x:Str,x≠"__name__"->mb x=Ee x
 nolimit:base.NoLimit
structure Cx where
 prog:Aq
 w:BF
 K:AA
 mg:Str->Option AD
 base:Bq
 A:BA
 N:List Str
 s₀:AG
 H₀:Hp
 env:Env
 outer:List Env
 stack:List Env
 ex:List AK
 fn:Str->Bool
 calm:Bool
 pn:List (AK×Obj)
 xe:AD->AG->Prop
def frs (l:List Env):List AK:=l.filterMap (·.frame)
abbrev Cx.fs (X:Cx):List AK:=frs X.outer
def Vis (sc:IK) (x:Str):Prop:=sc.names.lookup x=some .local∨sc.names.lookup x=some .cell∨sc.names.lookup x=some .free
def Loc (sc:IK) (x:Str):Prop:=sc.names.lookup x=some .local∨sc.names.lookup x=some .cell
def Look (env:Env) (h:Bq) (m:Str->Option AD) (x:Str) (u:AD):Prop:=
 (env.kindOf x=some .local/\m x=some u)∨((env.kindOf x=some .cell∨env.kindOf x=some .free)/\∃c,env.cells.lookup x=some c/\h.IsCell c (some u))
structure Cx.Ok (X:Cx):Prop where
 mod:Mod X.K X.mg X.base
 kind:X.env.scope.kind=.function
 glob:X.env.globals=Af
 blt:X.env.builtins=hV
 above:X.s₀.heap.objs.size<=X.env.locals
 inj:∀x y c,X.env.cells.lookup x=some c->X.env.cells.lookup y=some c->x=y
 has:∀x,(X.env.kindOf x=some .cell∨X.env.kindOf x=some .free)->∃c,X.env.cells.lookup x=some c
 cab:∀x c,X.fn x=true->X.env.cells.lookup x=some c->X.s₀.heap.objs.size<=c
 hd:X.calm=true->X.A.handled=none
 frames:X.A.frames=some X.stack
 stk:X.stack=X.outer∨(X.stack=X.env :: X.outer/\X.env.frame=some X.env.locals)
 exf:∀b∈X.ex,b≠X.env.locals/\∀x c,X.env.cells.lookup x=some c->c≠b
 bs:∀b o,X.base.get? b=some o->X.s₀.heap.get? b=some o/\X.H₀ b=none
 bsz:X.base.objs.size<=X.s₀.heap.objs.size
 noex:∀b o,X.base.get? b=some o->b∉X.ex
 exfs:∀b∈X.ex,b∉X.fs
 funs:X.s₀.heap.FunFrames X.base X.outer
 frf:∀b∈X.fs,X.H₀ b=none
structure Inv (X:Cx) (pins:List (AK×Obj)) (σ:List (Option V)) (H:Hp) (s:AG):Prop where
 ok:X.Ok
 os:s.os=X.s₀.os
 bare:II s.gens
 base:Un X.fs X.ex X.H₀ H X.s₀.heap s.heap
 loc:∃m,s.heap.Ns X.env.locals m/\∀(i:Nat) (x:Str) (v:V),X.N[i]?=some x->σ[i]?=some (some v)->Vis X.env.scope x->∃u,RelV v u/\Look X.env s.heap m x u
 cell:∀x c,X.env.cells.lookup x=some c->∃v,s.heap.IsCell c v
 free:H X.env.locals=none
 freeC:∀x c,X.env.cells.lookup x=some c->H c=none
 pin:∀p∈X.pn++pins,s.heap.get? p.1=some p.2/\H p.1=none/\p.1≠X.env.locals/\p.1∉X.fs/\∀v,p.2.data≠.cell v
 hok:HOk X.prog X.w H s.heap
 len:σ.length=X.N.length
section
variable {X:Cx} {pins:List (AK×Obj)} {σ:List (Option V)} {H H':Hp} {s:AG} {h':Bq}
theorem Cx.Ok.nofr (ok:X.Ok) {b:AK} {o:Obj} (e:X.base.get? b=some o):b∉X.fs:=λhb=>by
 have:=(ok.funs.mem hb).1;rw [e] at this;cases this
theorem Inv.bs (I:Inv X pins σ H s):∀b o,X.base.get? b=some o->s.heap.get? b=some o/\H b=none:=λb o e=>
 ⟨I.base.keep b o (I.ok.bs b o e).1 (I.ok.bs b o e).2 (I.ok.nofr e) (I.ok.noex b o e),I.base.free b o (I.ok.bs b o e).1 (I.ok.bs b o e).2 (I.ok.noex b o e)⟩
theorem Inv.bk (I:Inv X pins σ H s):∀b o,X.base.get? b=some o->s.heap.get? b=some o:=λb o e=>(I.bs b o e).1
theorem Inv.mod (I:Inv X pins σ H s):Mod X.K X.mg X.base:=I.ok.mod
theorem Inv.kIn (I:Inv X pins σ H s):X.K.In s.heap:=I.ok.mod.kin.keeps I.bk
theorem Inv.lt (I:Inv X pins σ H s):X.env.locals < s.heap.objs.size:=let ⟨_,hn,_⟩:=I.loc;hn.lt
theorem Inv.sz (I:Inv X pins σ H s):X.s₀.heap.objs.size<=s.heap.objs.size:=Ax I.ok.above (N6 I.lt)
theorem Inv.nofs (I:Inv X pins σ H s) {a:AK} (h:s.heap.objs.size<=a):a∉X.fs:=λhb=>by
 obtain ⟨_,o,ho,_⟩:=I.ok.funs.mem hb;exact zX (Ae (Ab ho) (Ax I.sz h)) (Cz _)
theorem Inv.cne (I:Inv X pins σ H s):∀x c,X.env.cells.lookup x=some c->c≠X.env.locals:=λx c e z=>by
 obtain ⟨v,o,ho,hd⟩:=I.cell x c e;obtain ⟨m,⟨o',es,ep,ho',hd',_⟩,_⟩:=I.loc;rw [z,ho'] at ho;cases ho;rw [hd'] at hd;cases hd
theorem Inv.funs (I:Inv X pins σ H s):s.heap.FunFrames X.base X.outer:=by
 have all:∀(l:List Env),(∀b∈frs l,b∈X.fs)->X.s₀.heap.FunFrames X.base l->s.heap.FunFrames X.base l:=by
  intro l
  induction l with
  | nil=>intro _ _;trivial
  | cons env r ih=>
   intro hs hl;obtain ⟨hk,⟨L,o,hf,hn,ho,hd⟩,hr⟩:=hl;have hL:L∈X.fs:=hs L (by unfold frs;rw [L5,hf];exact Ag)
   obtain ⟨sl,e⟩:=I.base.slot L o ho (I.ok.frf L hL) hL λz=>I.ok.exfs L z hL
   exact ⟨hk,⟨L,_,hf,hn,e,hd⟩,ih (λb hb=>hs b (by unfold frs;rw [L5,hf];exact AW _ hb)) hr⟩
 exact all X.outer (λ_ hb=>hb) I.ok.funs
theorem Inv.stack (I:Inv X pins σ H s):s.heap.FunFrames X.base X.stack:=by
 rcases I.ok.stk with e | ⟨e,hf⟩
 ·rw [e];exact I.funs
 ·rw [e]
  obtain ⟨m,hn,_⟩:=I.loc;refine .cons (by rw [I.ok.kind];decide) hf hn ?_ I.funs;exact WJ (Ax I.ok.bsz I.ok.above)
theorem Inv.stkSub (I:Inv X pins σ H s):∀b∈frs X.stack,b∈X.env.locals :: X.fs:=λb hb=>by
 rcases I.ok.stk with e | ⟨e,hf⟩
 ·rw [e] at hb;exact AW _ hb
 ·rw [e] at hb
  unfold frs at hb;rw [L5,hf] at hb;exact hb
theorem Inv.stkFree (I:Inv X pins σ H s):∀b∈frs X.stack,H b=none:=λb hb=>by
 rcases Au.mp (I.stkSub b hb) with e | hb
 ·rw [e];exact I.free
 ·obtain ⟨_,o,ho,_⟩:=I.ok.funs.mem hb
  exact I.base.free b o ho (I.ok.frf b hb) λz=>I.ok.exfs b z hb
theorem Inv.step {g':Array M2} {t':Nat} {d':Drawn} {ch:List AK} (I:Inv X pins σ H s)
  (hch:∀b∈ch,(b∈X.ex∨X.s₀.heap.objs.size<=b)/\b≠X.env.locals/\(∀x c,X.env.cells.lookup x=some c->c≠b)/\∀p∈X.pn++pins,p.1≠b)
  (keep:∀b o,b≠X.env.locals->b∉X.fs->b∉ch->s.heap.get? b=some o->H b=none->h'.get? b=some o)
  (slot:∀b o,b≠X.env.locals->b∈X.fs->b∉ch->s.heap.get? b=some o->H b=none->∃sl,h'.get? b=some { o with slots:=sl }) (free:∀b o,b∉ch->s.heap.get? b=some o->H b=none->H' b=none)
  (there:∀b o,b∉ch->s.heap.get? b=some o->∃o',h'.get? b=some o')
  (tups:∀b xs,H b=some (.tup xs)->H' b=some (.tup xs)) (frzs:∀b o u,H b=some (.frz o u)->H' b=some (.frz o u)) (tbls:∀b ps,H b=some (.tbl ps)->∃more,H' b=some (.tbl (ps++more)))
  (ns:∀m,s.heap.Ns X.env.locals m->h'.Ns X.env.locals m) (hok:HOk X.prog X.w H' h') (hg:II g') :
  Inv X pins σ H' { s with heap:=h',gens:=g',drawn:=d',toks:=t' }:=by
 have neL:∀b o,X.s₀.heap.get? b=some o->b≠X.env.locals:=λb o e=>Ak (Ae (Ab e) I.ok.above)
 have neC:∀b o,X.s₀.heap.get? b=some o->b∉X.ex->b∉ch:=λb o e hx hb=>by
  rcases (hch b hb).1 with z | z
  ·exact hx z
  ·exact zX (Ae (Ab e) z) (Cz _)
 have cellK:∀x c,X.env.cells.lookup x=some c->∀v,s.heap.IsCell c v->h'.IsCell c v:=λx c e v ⟨o,ho,hd⟩=>by
  have nch:c∉ch:=λz=>(hch c z).2.2.1 x c e rfl
  by_cases hc:c∈X.fs
  ·obtain ⟨sl,q⟩:=slot c o (I.cne x c e) hc nch ho (I.freeC x c e)
   exact ⟨_,q,hd⟩
  ·exact ⟨o,keep c o (I.cne x c e) hc nch ho (I.freeC x c e),hd⟩
 refine ⟨I.ok,I.os,hg,⟨λb o e n hb hx=>?_,λb o e n hb hx=>?_,λb o e n hx=>?_,λb o e hx=>?_,λb xs e=>tups b xs (I.base.tups b xs e),λb o xs e=>frzs b o xs (I.base.frzs b o xs e),λb ps e=>?_⟩,?_,λx c e=>?_,?_,λx c e=>?_,λp hp=>?_,hok,I.len⟩
 ·exact keep b o (neL b o e) hb (neC b o e hx) (I.base.keep b o e n hb hx) (I.base.free b o e n hx)
 ·obtain ⟨sl,e1⟩:=I.base.slot b o e n hb hx
  obtain ⟨sl',e2⟩:=slot b _ (neL b o e) hb (neC b o e hx) e1 (I.base.free b o e n hx);exact ⟨sl',e2⟩
 ·obtain ⟨o',e1⟩:=I.base.there b o e hx
  exact free b o' (neC b o e hx) e1 (I.base.free b o e n hx)
 ·obtain ⟨o',e1⟩:=I.base.there b o e hx
  exact there b o' (neC b o e hx) e1
 ·obtain ⟨m1,e1⟩:=I.base.tbls b ps e
  obtain ⟨m2,e2⟩:=tbls b _ e1;exact ⟨m1++m2,by rw [e2,XZ]⟩
 ·obtain ⟨m,hn,hl⟩:=I.loc
  refine ⟨m,ns m hn,λi x v e1 e2 e3=>?_⟩;obtain ⟨u,r,l⟩:=hl i x v e1 e2 e3;refine ⟨u,r,?_⟩
  rcases l with l | ⟨k,c,e,z⟩
  ·exact .inl l
  ·exact .inr ⟨k,c,e,cellK x c e _ z⟩
 ·obtain ⟨v,z⟩:=I.cell x c e
  exact ⟨v,cellK x c e v z⟩
 ·obtain ⟨m,⟨o,_,_,ho,_⟩,_⟩:=I.loc
  exact free _ o (λz=>(hch _ z).2.1 rfl) ho I.free
 ·obtain ⟨v,o,ho,hd⟩:=I.cell x c e
  exact free c o (λz=>(hch c z).2.2.1 x c e rfl) ho (I.freeC x c e)
 ·obtain ⟨e,n,ne,nf,d⟩:=I.pin p hp
  have nch:p.1∉ch:=λz=>(hch p.1 z).2.2.2 p hp rfl
  exact ⟨keep p.1 p.2 ne nf nch e n,free p.1 p.2 nch e n,ne,nf,d⟩
theorem Inv.stepN {g':Array M2} {t':Nat} {d':Drawn} {ch:List AK} (I:Inv X pins σ H s)
  (hch:∀b∈ch,(b∈X.ex∨X.s₀.heap.get? b=none)/\b≠X.env.locals/\(∀x c,X.env.cells.lookup x=some c->c≠b)/\∀p∈X.pn++pins,p.1≠b)
  (keep:∀b o,b≠X.env.locals->b∉X.fs->b∉ch->s.heap.get? b=some o->H b=none->h'.get? b=some o)
  (slot:∀b o,b≠X.env.locals->b∈X.fs->b∉ch->s.heap.get? b=some o->H b=none->∃sl,h'.get? b=some { o with slots:=sl }) (free:∀b o,b∉ch->s.heap.get? b=some o->H b=none->H' b=none)
  (there:∀b o,b∉ch->s.heap.get? b=some o->∃o',h'.get? b=some o')
  (tups:∀b xs,H b=some (.tup xs)->H' b=some (.tup xs)) (frzs:∀b o u,H b=some (.frz o u)->H' b=some (.frz o u)) (tbls:∀b ps,H b=some (.tbl ps)->∃more,H' b=some (.tbl (ps++more)))
  (ns:∀m,s.heap.Ns X.env.locals m->h'.Ns X.env.locals m) (hok:HOk X.prog X.w H' h') (hg:II g') :
  Inv X pins σ H' { s with heap:=h',gens:=g',drawn:=d',toks:=t' }:=by
 have neL:∀b o,X.s₀.heap.get? b=some o->b≠X.env.locals:=λb o e=>Ak (Ae (Ab e) I.ok.above)
 have neC:∀b o,X.s₀.heap.get? b=some o->b∉X.ex->b∉ch:=λb o e hx hb=>by
  rcases (hch b hb).1 with z | z
  ·exact hx z
  ·rw [z] at e;cases e
 have cellK:∀x c,X.env.cells.lookup x=some c->∀v,s.heap.IsCell c v->h'.IsCell c v:=λx c e v ⟨o,ho,hd⟩=>by
  have nch:c∉ch:=λz=>(hch c z).2.2.1 x c e rfl
  by_cases hc:c∈X.fs
  ·obtain ⟨sl,q⟩:=slot c o (I.cne x c e) hc nch ho (I.freeC x c e)
   exact ⟨_,q,hd⟩
  ·exact ⟨o,keep c o (I.cne x c e) hc nch ho (I.freeC x c e),hd⟩
 refine ⟨I.ok,I.os,hg,⟨λb o e n hb hx=>?_,λb o e n hb hx=>?_,λb o e n hx=>?_,λb o e hx=>?_,λb xs e=>tups b xs (I.base.tups b xs e),λb o xs e=>frzs b o xs (I.base.frzs b o xs e),λb ps e=>?_⟩,?_,λx c e=>?_,?_,λx c e=>?_,λp hp=>?_,hok,I.len⟩
 ·exact keep b o (neL b o e) hb (neC b o e hx) (I.base.keep b o e n hb hx) (I.base.free b o e n hx)
 ·obtain ⟨sl,e1⟩:=I.base.slot b o e n hb hx
  obtain ⟨sl',e2⟩:=slot b _ (neL b o e) hb (neC b o e hx) e1 (I.base.free b o e n hx);exact ⟨sl',e2⟩
 ·obtain ⟨o',e1⟩:=I.base.there b o e hx
  exact free b o' (neC b o e hx) e1 (I.base.free b o e n hx)
 ·obtain ⟨o',e1⟩:=I.base.there b o e hx
  exact there b o' (neC b o e hx) e1
 ·obtain ⟨m1,e1⟩:=I.base.tbls b ps e
  obtain ⟨m2,e2⟩:=tbls b _ e1;exact ⟨m1++m2,by rw [e2,XZ]⟩
 ·obtain ⟨m,hn,hl⟩:=I.loc
  refine ⟨m,ns m hn,λi x v e1 e2 e3=>?_⟩;obtain ⟨u,r,l⟩:=hl i x v e1 e2 e3;refine ⟨u,r,?_⟩
  rcases l with l | ⟨k,c,e,z⟩
  ·exact .inl l
  ·exact .inr ⟨k,c,e,cellK x c e _ z⟩
 ·obtain ⟨v,z⟩:=I.cell x c e
  exact ⟨v,cellK x c e v z⟩
 ·obtain ⟨m,⟨o,_,_,ho,_⟩,_⟩:=I.loc
  exact free _ o (λz=>(hch _ z).2.1 rfl) ho I.free
 ·obtain ⟨v,o,ho,hd⟩:=I.cell x c e
  exact free c o (λz=>(hch c z).2.2.1 x c e rfl) ho (I.freeC x c e)
 ·obtain ⟨e,n,ne,nf,d⟩:=I.pin p hp
  have nch:p.1∉ch:=λz=>(hch p.1 z).2.2.2 p hp rfl
  exact ⟨keep p.1 p.2 ne nf nch e n,free p.1 p.2 nch e n,ne,nf,d⟩
theorem Inv.un {t':Nat} (I:Inv X pins σ H s) (u:Un X.fs [] H H' s.heap h') (hok:HOk X.prog X.w H' h'):Inv X pins σ H' { s with heap:=h',toks:=t' }:=by
 obtain ⟨m,⟨o,es,ep,ho,r⟩,_⟩:=id I.loc;obtain ⟨sl,hL⟩:=u.any ho I.free (by simp)
 exact I.step (g':=s.gens) (d':=s.drawn) (ch:=[]) (λ_ z=>nomatch z) (λb o _ hb _ e n=>u.keep b o e n hb (by simp)) (λb o _ hb _ e n=>u.slot b o e n hb (by simp)) (λb o _ e n=>u.free b o e n (by simp)) (λb o _ e=>u.there b o e (by simp)) u.tups u.frzs u.tbls (λm' hm=>by
  obtain ⟨o',es',ep',ho',r'⟩:=hm;rw [ho] at ho';cases ho'
  exact ⟨_,es',ep',hL,r'⟩) hok I.bare
theorem Inv.call {g':Array M2} {t':Nat} {d':Drawn} {ch:List AK} (I:Inv X pins σ H s) (u:Un (frs X.stack) ch H H' s.heap h') (hok:HOk X.prog X.w H' h') (hg:II g')
  (hch:∀b∈ch,(b∈X.ex∨X.s₀.heap.objs.size<=b)/\b≠X.env.locals/\(∀x c,X.env.cells.lookup x=some c->c≠b)/\∀p∈X.pn++pins,p.1≠b) :
  Inv X pins σ H' { s with heap:=h',gens:=g',drawn:=d',toks:=t' }:=by
 obtain ⟨m,⟨o,es,ep,ho,r⟩,_⟩:=id I.loc
 obtain ⟨sl,hL⟩:=u.any ho I.free λz=>(hch _ z).2.1 rfl
 exact I.step (ch:=ch) hch (λb o hL hb hc e n=>u.keep b o e n (λz=>(Au.mp (I.stkSub b z)).elim hL hb) hc) (λb o _ _ hc e n=>u.any e n hc) (λb o hc e n=>u.free b o e n hc) (λb o hc e=>u.there b o e hc) u.tups u.frzs u.tbls (λm' hm=>by
  obtain ⟨o',es',ep',ho',r'⟩:=hm;rw [ho] at ho';cases ho'
  exact ⟨_,es',ep',hL,r'⟩) hok hg
theorem Inv.turned {t':Nat} {it:AK} (I:Inv X pins σ H s) (k:∀b o,b≠it->s.heap.get? b=some o->h'.get? b=some o) (hn:H it=none) (hL:it≠X.env.locals)
  (h1:it∈X.ex∨X.s₀.heap.objs.size<=it) (h2:∀x c,X.env.cells.lookup x=some c->c≠it) (h3:∀p∈X.pn++pins,p.1≠it):Inv X pins σ H { s with heap:=h',toks:=t' }:=by
 have nit:∀b u,H b=some u->b≠it:=λb u e z=>by rw [z,hn] at e;cases e
 refine I.step (g':=s.gens) (d':=s.drawn) (ch:=[it]) (λb hb=>?_) (λb o _ _ hc e _=>k b o (λz=>hc (by simp [z])) e) (λb o _ _ hc e _=>⟨o.slots,k b o (λz=>hc (by simp [z])) e⟩) (λ_ _ _ _ n=>n)
  (λb o hc e=>⟨o,k b o (λz=>hc (by simp [z])) e⟩) (λ_ _ e=>e) (λ_ _ _ e=>e) (λb ps e=>⟨#[],by rw [e];simp⟩) (λm hm=>?_) (λb u e=>?_) I.bare
 ·have e:b=it:=by simpa using hb
  subst e;exact ⟨h1,hL,h2,h3⟩
 ·obtain ⟨o,es,ep,ho,r⟩:=hm
  exact ⟨o,es,ep,k _ o (Bw hL) ho,r⟩
 ·refine (I.hok b u e).stay (λc v hc q=>k c v ?_ q) (λ_ q=>q) λ_ _ q=>q
  rcases hc with z | z
  ·rw [z];exact nit b u e
  ·exact nit c _ z
theorem Inv.tok (I:Inv X pins σ H s) (t:Nat):Inv X pins σ H { s with toks:=t }:=I.un (h':=s.heap) (t':=t) Un.refl I.hok
theorem Inv.kept {t':Nat} (I:Inv X pins σ H s) (k:∀b u,s.heap.get? b=some u->h'.get? b=some u):Inv X pins σ H { s with heap:=h',toks:=t' }:=I.un (Un.kept k) (I.hok.kept k)
theorem Inv.laid {a:AK} {o:HO} {t':Nat} (I:Inv X pins σ H s) (k:∀b u,s.heap.get? b=some u->h'.get? b=some u) (hp:s.heap.objs.size<=a) (new:Ct X.prog X.w (upd H a o) h' a o) :
  Inv X pins σ (upd H a o) { s with heap:=h',toks:=t' }:=I.un (Un.laid k hp (I.hok.fresh hp)) (I.hok.laid k hp new)
theorem Inv.write {x e:AK} {o:HO} {t':Nat} (I:Inv X pins σ H s) (mu:Mut (H x)) (he:e=x∨H e=some (.own x)) (k:∀b u,b≠e->s.heap.get? b=some u->h'.get? b=some u) (heo:∃u,h'.get? e=some u)
  (new:Ct X.prog X.w (upd H x o) h' x o):Inv X pins σ (upd H x o) { s with heap:=h',toks:=t' }:=I.un (Un.write mu he k heo) (I.hok.write mu he k heo new)
theorem Inv.pins_of {pins':List (AK×Obj)} (I:Inv X pins σ H s) (h:∀p∈pins',s.heap.get? p.1=some p.2/\H p.1=none/\p.1≠X.env.locals/\p.1∉X.fs/\∀v,p.2.data≠.cell v):Inv X pins' σ H s:=
 ⟨I.ok,I.os,I.bare,I.base,I.loc,I.cell,I.free,I.freeC,λp hp=>(Aw.mp hp).elim (λz=>I.pin p (A3 _ z)) (h p),I.hok,I.len⟩
theorem Tu {N:List Str} (hN:N.Nodup) {i j:Nat} {x:Str} (a:N[i]?=some x) (b:N[j]?=some x):i=j:=by
 obtain ⟨h1,e1⟩:=AF.mp a;obtain ⟨h2,e2⟩:=AF.mp b;exact (cJ hN).mp (e1.trans e2.symm)
theorem Qz {M:Uw} {A:BA} {E:AD->AG->Prop} {i:Nat} {x:Str} {v:V} {u:AD} {Q:Unit->AG->Prop} (I:Inv X pins σ H s) (hN:X.N.Nodup) (hi:X.N[i]?=some x) (hx:Loc X.env.scope x) (r:RelV v u)
  (h:∀s',Inv X pins (σ.set i (some v)) H s'->(∃a,EI a s.heap s'.heap/\(a=X.env.locals∨X.env.cells.lookup x=some a))->Q () s') (hf:X.fn x=true∨X.env.scope.names.lookup x=some .local:=by first | exact .inl rfl | exact .inr rfl | assumption):Al M A (storeName X.env x u) Q E s:=by
 obtain ⟨m,hn,hl⟩:=id I.loc
 have hcls:(X.env.scope.kind==.class||(X.env.scope.kind==.module&&X.env.locals != X.env.globals))=false:=by rw [I.ok.kind];rfl
 have hiσ:i < σ.length:=by rw [I.len];exact (AF.mp hi).1
 have cne:=I.cne
 have tracked:∀ {a:AK} {h':Bq},(∃o,s.heap.get? a=some o/\H a=none)->EI a s.heap h'->HOk X.prog X.w H h':=λ{a h'} ha hs b ob e=>by
  obtain ⟨_,_,hfree⟩:=ha
  refine (I.hok b ob e).stay (λc w' hc q=>(hs.2 c ?_).trans q) (λ_ q=>q) λ_ _ q=>q
  rintro rfl
  rcases hc with rfl | hc
  ·rw [hfree] at e;cases e
  ·rw [hfree] at hc;cases hc
 rcases hx with hk | hk
 ·refine wpAny_storeName_local hk hn (λh' hn' hs=>?_) hcls
  obtain ⟨oL,_,_,hoL,_⟩:=id hn;refine h _ ⟨I.ok,I.os,I.bare,⟨λb o e n hb hx=>?_,λb o e n hb hx=>?_,I.base.free,λb o e hx=>?_,I.base.tups,I.base.frzs,I.base.tbls⟩,⟨_,hn',λj y v' e1 e2 e3=>?_⟩,λy c e=>?_,I.free,I.freeC,λp hp=>?_,tracked ⟨oL,hoL,I.free⟩ hs,by simpa using I.len⟩ ⟨_,hs,.inl rfl⟩
  ·exact (hs.2 b (Ak (Ae (Ab e) I.ok.above))).trans (I.base.keep b o e n hb hx)
  ·obtain ⟨sl,e1⟩:=I.base.slot b o e n hb hx
   exact ⟨sl,(hs.2 b (Ak (Ae (Ab e) I.ok.above))).trans e1⟩
  ·obtain ⟨o',e1⟩:=I.base.there b o e hx
   exact ⟨o',(hs.2 b (Ak (Ae (Ab e) I.ok.above))).trans e1⟩
  ·by_cases hj:j=i
   ·subst hj
    rw [hi] at e1;cases e1;rw [Az hiσ] at e2;cases e2;exact ⟨u,r,.inl ⟨hk,by simp⟩⟩
   ·rw [Am (Bw hj)] at e2
    obtain ⟨u',r',q⟩:=hl j y v' e1 e2 e3;refine ⟨u',r',?_⟩
    rcases q with ⟨k,e⟩ | ⟨k,c,e,z⟩
    ·refine .inl ⟨k,?_⟩
     have:y≠x:=λe=>hj (Tu hN e1 (e▸hi))
     simp [this,e]
    ·exact .inr ⟨k,c,e,z.sameBut hs (cne y c e)⟩
  ·obtain ⟨w',z⟩:=I.cell y c e
   exact ⟨w',z.sameBut hs (cne y c e)⟩
  ·obtain ⟨e,n,ne,nf,d⟩:=I.pin p hp
   exact ⟨(hs.2 p.1 ne).trans e,n,ne,nf,d⟩
 ·have hfn:X.fn x=true:=by
   rcases hf with z | z
   ·exact z
   ·rw [z] at hk;cases hk
  obtain ⟨c,hc⟩:=I.ok.has x (.inl hk);obtain ⟨w',z⟩:=I.cell x c hc;refine wpAny_storeName_cell I.ok.kind hk hc z (λh' hc' hs=>?_);obtain ⟨oc,hoc,hocd⟩:=id z;refine h { s with heap:=h' } ⟨I.ok,I.os,I.bare,⟨λb o e n hb hx=>?_,λb o e n hb hx=>?_,I.base.free,λb o e hx=>?_,I.base.tups,I.base.frzs,I.base.tbls⟩,⟨m,hn.sameBut hs (Bw (cne x c hc)),λj y v' e1 e2 e3=>?_⟩,λy c' e=>?_,I.free,I.freeC,λp hp=>?_,tracked ⟨oc,hoc,I.freeC x c hc⟩ hs,by simpa using I.len⟩ ⟨c,hs,.inr hc⟩
  ·exact (hs.2 b (Ak (Ae (Ab e) (I.ok.cab x c hfn hc)))).trans (I.base.keep b o e n hb hx)
  ·obtain ⟨sl,e1⟩:=I.base.slot b o e n hb hx
   exact ⟨sl,(hs.2 b (Ak (Ae (Ab e) (I.ok.cab x c hfn hc)))).trans e1⟩
  ·obtain ⟨o',e1⟩:=I.base.there b o e hx
   exact ⟨o',(hs.2 b (Ak (Ae (Ab e) (I.ok.cab x c hfn hc)))).trans e1⟩
  ·by_cases hj:j=i
   ·subst hj
    rw [hi] at e1;cases e1;rw [Az hiσ] at e2;cases e2;exact ⟨u,r,.inr ⟨.inl hk,c,hc,hc'⟩⟩
   ·rw [Am (Bw hj)] at e2
    obtain ⟨u',r',q⟩:=hl j y v' e1 e2 e3;refine ⟨u',r',?_⟩
    rcases q with q | ⟨k,c',e,z'⟩
    ·exact .inl q
    ·refine .inr ⟨k,c',e,z'.sameBut hs ?_⟩
     rintro rfl;exact hj (Tu hN e1 (I.ok.inj _ _ _ e hc▸hi))
  ·by_cases hcc:c'=c
   ·subst hcc;exact ⟨_,hc'⟩
   ·obtain ⟨w2,z2⟩:=I.cell y c' e
    exact ⟨w2,z2.sameBut hs hcc⟩
  ·obtain ⟨e,n,ne,nf,d⟩:=I.pin p hp
   refine ⟨(hs.2 p.1 ?_).trans e,n,ne,nf,d⟩;intro q;rw [q,hoc] at e;have q':oc=p.2:=CW e;exact d w' (by rw [<-q'];exact hocd)
theorem TX {M:Uw} {A:BA} {E:AD->AG->Prop} {i:Nat} {x:Str} {v:V} {u:AD} {Q:Unit->AG->Prop} (I:Inv X pins σ H s) (hN:X.N.Nodup) (hi:X.N[i]?=some x) (hx:Loc X.env.scope x) (r:RelV v u)
  (h:∀s',Inv X pins (σ.set i (some v)) H s'->Q () s') (hf:X.fn x=true∨X.env.scope.names.lookup x=some .local:=by first | exact .inl rfl | exact .inr rfl | assumption):Al M A (storeName X.env x u) Q E s:=
 Qz I hN hi hx r (λs' I' _=>h s' I') hf
theorem Inv.call' {s':AG} {ch:List AK} (I:Inv X pins σ H s) (ho:s'.os=s.os) (u:Un (frs X.stack) ch H H' s.heap s'.heap) (hok:HOk X.prog X.w H' s'.heap) (hg:II s'.gens)
  (hch:∀b∈ch,(b∈X.ex∨X.s₀.heap.objs.size<=b)/\b≠X.env.locals/\(∀x c,X.env.cells.lookup x=some c->c≠b)/\∀p∈X.pn++pins,p.1≠b):Inv X pins σ H' s':=by
 obtain ⟨h',g',d',t',o'⟩:=s';have e:o'=s.os:=ho;subst e;exact I.call (g':=g') (t':=t') (d':=d') u hok hg hch
end
abbrev XK:=AD->Option AK->Hp->Prop
abbrev St:=List (Option V)
abbrev VK:=V->Hp->Prop
abbrev TE:=St->Hp->VK->Prop
abbrev TT:=St->Hp->(Bool->Hp->Prop)->Prop
abbrev TA:=St->Hp->(List V->Hp->Prop)->Prop
structure WB where
 nx:St->Hp->Prop
 rt:VK
 bk:St->Hp->Prop:=λ_ _=>False
 ct:St->Hp->Prop:=λ_ _=>False
abbrev TS:=WB->St->Hp->Prop
def EP (X:Cx) (pins:List (AK×Obj)) (σ:St) (Q:VK) (u:AD) (s':AG):Prop:=∃v H',Inv X pins σ H' s'/\RelV v u/\Q v H'
def TP (X:Cx) (pins:List (AK×Obj)) (σ:St) (Q:Bool->Hp->Prop) (b:Bool) (s':AG):Prop:=∃H',Inv X pins σ H' s'/\Q b H'
def AP (X:Cx) (pins:List (AK×Obj)) (σ:St) (Q:List V->Hp->Prop) (us:List AD) (s':AG):Prop:=∃vs H',Inv X pins σ H' s'/\Bd vs us/\Q vs H'
def SP (X:Cx) (pins:List (AK×Obj)) (D:WB) (f:Flow) (s':AG):Prop:=
 match f with
 | .next=>∃σ' H',Inv X pins σ' H' s'/\D.nx σ' H'
 | .brk=>∃σ' H',Inv X pins σ' H' s'/\D.bk σ' H'
 | .cont=>∃σ' H',Inv X pins σ' H' s'/\D.ct σ' H'
 | .ret u=>∃v σ' H',Inv X pins σ' H' s'/\RelV v u/\D.rt v H'
def PE (X:Cx) (e:Expr) (t:TE):Prop:=
 ∀(pins:List (AK×Obj)) (s:AG) (σ:St) (H:Hp) (Q:VK),Inv X pins σ H s->t σ H Q->Al (AZ X.prog X.w) X.A (Bm e X.env) (EP X pins σ Q) X.xe s
def PT (X:Cx) (e:Expr) (t:TT):Prop:=
 ∀(pins:List (AK×Obj)) (s:AG) (σ:St) (H:Hp) (Q:Bool->Hp->Prop),Inv X pins σ H s->t σ H Q->Al (AZ X.prog X.w) X.A (Uk e X.env (Bm e X.env)) (TP X pins σ Q) X.xe s
def PW (X:Cx) (e:Expr) (t:TT):Prop:=
 ∀(whole:Sem AD) (pins:List (AK×Obj)) (s:AG) (σ:St) (H:Hp) (Q:Bool->Hp->Prop),Inv X pins σ H s->t σ H Q->Al (AZ X.prog X.w) X.A (Uk e X.env whole) (TP X pins σ Q) X.xe s
theorem PW.pt {X:Cx} {e:Expr} {t:TT} (h:PW X e t):PT X e t:=h _
def PA (X:Cx) (es:List Expr) (t:TA):Prop:=
 ∀(pos:Pos) (pins:List (AK×Obj)) (s:AG) (σ:St) (H:Hp) (Q:List V->Hp->Prop),Inv X pins σ H s->t σ H Q->Al (AZ X.prog X.w) X.A (ZB (DX pos (AS es X.env))) (AP X pins σ Q) X.xe s
def PS (X:Cx) (st:Cg) (t:TS):Prop:=
 ∀(pins:List (AK×Obj)) (s:AG) (σ:St) (H:Hp) (D:WB),Inv X pins σ H s->t D σ H->Al (AZ X.prog X.w) X.A (exec st X.env) (SP X pins D) X.xe s
def PSs (X:Cx) (st:List Cg) (t:TS):Prop:=
 ∀(pins:List (AK×Obj)) (s:AG) (σ:St) (H:Hp) (D:WB),Inv X pins σ H s->t D σ H->Al (AZ X.prog X.w) X.A (execs st X.env) (SP X pins D) X.xe s
theorem thn {α:Type} {t:Sem α} {Q Q':α->AG->Prop} {M:Uw} {A:BA} {E:AD->AG->Prop} {s:AG} (h:Al M A t Q E s) (hQ:∀a s,Q a s->Q' a s):Al M A t Q' E s:=GZ h hQ λ_ _ x=>x
section
variable {X:Cx}
def ig (i:Nat):TE:=λσ H Q=>∃v,σ[i]?=some (some v)/\Q v H
def tC (v:V):TE:=λ_ H Q=>Q v H
theorem jI {i:Nat} {x:Str} {pos:Pos} (hN:X.N[i]?=some x) (hv:Vis X.env.scope x) (hd:(x==("__debug__" : Str))=false:=by decide) (hcd:(x==("__classdict__" : Str))=false:=by decide):PE X (.Name x pos) (ig i):=by
 intro pins s σ H Q I h;obtain ⟨v,e,h⟩:=h;obtain ⟨m,hn,hl⟩:=I.loc;obtain ⟨u,r,l⟩:=hl i x v hN e hv;have fin:EP X pins σ Q u s:=⟨v,H,I,r,h⟩
 rcases l with ⟨hk,hm⟩ | ⟨hk,c,hc,hcell⟩
 ·exact g7 (wpAny_loadName_local I.ok.kind hk hn hm fin) hd
 ·rcases hk with hk | hk
  ·exact g7 (wpAny_loadName_cell I.ok.kind hk hc hcell fin) hd
  ·exact g7 (wpAny_loadName_free I.ok.kind hk hc hcell fin hcd) hd
theorem jP {i j pos}:PE X (.Constant (.int i) j pos) (tC (.int i)):=λ_ _ _ H _ I h=>wpAny_Constant_int ⟨.int i,H,I.tok _,⟨_,rfl⟩,h⟩
theorem lY {b j pos}:PE X (.Constant (.bool b) j pos) (tC (.bl b)):=λ_ _ _ H _ I h=>Constant_bool ⟨.bl b,H,I,rfl,h⟩
theorem jN {j pos}:PE X (.Constant .none j pos) (tC .non):=λ_ _ _ H _ I h=>Constant_none ⟨.non,H,I,rfl,h⟩
theorem jK {x j pos}:PE X (.Constant (.str x) j pos) (tC (.str x)):=λ_ _ _ H _ I h=>Calls.Constant_str ⟨.str x,H,I.tok _,⟨_,rfl⟩,h⟩
def Gl (X:Cx) (x:Str):Prop:=X.env.kindOf x=some .globalImplicit
theorem OZ {E:AD->AG->Prop} {pins:List (AK×Obj)} {s:AG} {σ:St} {H:Hp} {x:Str} {u:AD} {pos:Pos} {Q:AD->AG->Prop} (I:Inv X pins σ H s) (hg:Gl X x) (hm:X.mg x=some u) (h:Q u s)
  (hd:(x==("__debug__" : Str))=false:=by decide):Al (AZ X.prog X.w) X.A (Bm (.Name x pos) X.env) Q E s:=
 QU I.ok.kind hg (Calls.loadGlobal_global (by rw [I.ok.glob];exact I.mod.glob.keeps I.bk) hm h) hd
theorem Hv {E:AD->AG->Prop} {pins:List (AK×Obj)} {s:AG} {σ:St} {H:Hp} {x:Str} {u:AD} {pos:Pos} {Q:AD->AG->Prop} (I:Inv X pins σ H s) (hg:Gl X x) (hm:X.mg x=none) (hv:Ee x=some u) (h:Q u s)
  (hn:x≠"__name__":=by decide) (hd:(x==("__debug__" : Str))=false:=by decide):Al (AZ X.prog X.w) X.A (Bm (.Name x pos) X.env) Q E s:=by
 obtain ⟨mb,h1,h2⟩:=I.mod.blt;exact QU I.ok.kind hg (Calls.loadGlobal_builtin (by rw [I.ok.glob];exact I.mod.glob.keeps I.bk) hm (by rw [I.ok.blt];exact h1.keeps I.bk) ((h2 x hn).trans hv) h) hd
theorem eJ {x:Str} {v:V} {u:AD} {pos:Pos} (hg:Gl X x) (hm:X.mg x=some u) (r:RelV v u) (hd:(x==("__debug__" : Str))=false:=by decide):PE X (.Name x pos) (tC v):=
 λ_ _ _ H _ I h=>OZ I hg hm ⟨v,H,I,r,h⟩ hd
theorem OV {x:Str} {v:V} {u:AD} {pos:Pos} (hg:Gl X x) (hm:X.mg x=none) (hv:Ee x=some u) (r:RelV v u) (hn:x≠"__name__":=by decide) (hd:(x==("__debug__" : Str))=false:=by decide):PE X (.Name x pos) (tC v):=
 λ_ _ _ H _ I h=>Hv I hg hm hv ⟨v,H,I,r,h⟩ hn hd
variable {a b:Expr} {ta tb:TE} {pos:Pos}
def PC (X:Cx) (op:Sr) (a b:Expr) (t:TE):Prop:=
 ∀(pins:List (AK×Obj)) (s:AG) (σ:St) (H:Hp) (Q:VK),Inv X pins σ H s->t σ H Q ->
  Al (AZ X.prog X.w) X.A (Bm a X.env) (λv s₁=>Al (AZ X.prog X.w) X.A (Bm b X.env) (λu s₂=>Al (AZ X.prog X.w) X.A (Bp op v u) (EP X pins σ Q) X.xe s₂) X.xe s₁) X.xe s
def tB (t:TE):TT:=λσ H Q=>t σ H λx H1=>∃c,x=.bl c/\Q c H1
theorem jR {op:Sr} {t:TE} (h:PC X op a b t) (h1:CJ op b=false:=by first | exact nobehind _ (by decide) (by decide) | rfl):PE X (.Compare a [op] [b] pos) t:=λpins s σ H Q I hw=>wpAny_Compare1 (h pins s σ H Q I hw) h1
theorem aC {op:Sr} {t:TE} (h:PC X op a b t) (h1:CJ op b=false:=by first | exact nobehind _ (by decide) (by decide) | rfl):PT X (.Compare a [op] [b] pos) (tB t):=by
 intro pins s σ H Q I hw;refine cE (thn (h pins s σ H _ I hw) λv s1 h1=>thn h1 λu s2 h2=>thn h2 λc s3 ⟨x,H1,I1,r1,q1⟩=>?_) h1;obtain ⟨d,rfl,q⟩:=q1;cases r1;exact CT ⟨H1,I1,q⟩
theorem i9 {e:Expr} {t:TE} (h:PE X e t) (he:∀whole,Uk e X.env whole=(do let v <-whole;kR e.pos;kT [v] (g8 v)):=by intro _;rfl):PT X e (tB t):=by
 intro pins s σ H Q I hw;refine isTrue_plain (thn (h pins s σ H _ I hw) λv s1 ⟨x,H1,I1,r1,q1⟩=>?_) (he _);obtain ⟨d,rfl,q⟩:=q1;cases r1;exact CT ⟨H1,I1,q⟩
variable {tA tB':TT} {rest:List Expr}
def lM (t u:TT):TT:=λσ H Q=>t σ H λc H1=>if c=true then u σ H1 Q else Q false H1
def tOr (t u:TT):TT:=λσ H Q=>t σ H λc H1=>if c=true then Q true H1 else u σ H1 Q
def tNot (t:TT):TT:=λσ H Q=>t σ H λc H1=>Q (!c) H1
theorem dj (ha:PT X a tA):PW X (.BoolOp .And [a] pos) tA:=by
 intro wh pins s σ H Q I h;refine isTrue_and (thn (ha pins s σ H Q I h) λc s1 e=>?_)
 cases c with
 | true=>exact isTrue_and_nil e
 | false=>exact e
theorem i7 (ha:PT X a tA):PW X (.BoolOp .Or [a] pos) tA:=by
 intro wh pins s σ H Q I h;refine isTrue_or (thn (ha pins s σ H Q I h) λc s1 e=>?_)
 cases c with
 | false=>exact isTrue_or_nil e
 | true=>exact e
theorem i8 (ha:PT X a tA) (hb:PW X (.BoolOp .And (b :: rest) pos) tB'):PW X (.BoolOp .And (a :: b :: rest) pos) (lM tA tB'):=by
 intro wh pins s σ H Q I h;refine isTrue_and (thn (ha pins s σ H _ I h) λc s1 ⟨H1,I1,q1⟩=>?_)
 cases c with
 | true=>exact hb wh pins s1 σ H1 Q I1 q1
 | false=>exact ⟨H1,I1,q1⟩
theorem lT (ha:PT X a tA) (hb:PW X (.BoolOp .Or (b :: rest) pos) tB'):PW X (.BoolOp .Or (a :: b :: rest) pos) (tOr tA tB'):=by
 intro wh pins s σ H Q I h;refine isTrue_or (thn (ha pins s σ H _ I h) λc s1 ⟨H1,I1,q1⟩=>?_)
 cases c with
 | true=>exact ⟨H1,I1,q1⟩
 | false=>exact hb wh pins s1 σ H1 Q I1 q1
theorem jA (ha:PT X a tA):PT X (.UnaryOp .Not a pos) (tNot tA):=by
 intro pins s σ H Q I h;exact isTrue_not (ha pins s σ H (λc H1=>Q (!c) H1) I h)
def lL (ta tb:TE):TE:=λσ H Q=>ta σ H λx H1=>∃c,x=.bl c/\if c=true then tb σ H1 Q else Q (.bl false) H1
def lB (ta:TE):TE:=λσ H Q=>ta σ H λx H1=>∃c,x=.bl c/\Q (.bl (!c)) H1
theorem jL {op} {t:TE} (h:PE X a t):PE X (.BoolOp op [a] pos) t:=λpins s σ H Q I hw=>BoolOp_one (h pins s σ H Q I hw)
theorem jT (ha:PE X a ta) (hb:PE X (.BoolOp .And (b :: rest) pos) tb):PE X (.BoolOp .And (a :: b :: rest) pos) (lL ta tb):=by
 intro pins s σ H Q I h;refine BoolOp_and (thn (ha pins s σ H _ I h) λv s1 ⟨x,H1,I1,r1,q1⟩=>?_);obtain ⟨c,rfl,q1⟩:=q1;cases r1;refine CT ?_
 cases c with
 | true=>exact hb pins s1 σ H1 Q I1 q1
 | false=>exact ⟨.bl false,H1,I1,rfl,q1⟩
theorem jM (ha:PE X a ta):PE X (.UnaryOp .Not a pos) (lB ta):=by
 intro pins s σ H Q I h;refine UnaryOp_ (thn (ha pins s σ H _ I h) λv s1 ⟨x,H1,I1,r1,q1⟩=>?_);obtain ⟨c,rfl,q1⟩:=q1;cases r1;exact not_of (CT ⟨.bl (!c),H1,I1,rfl,q1⟩)
end
def SqL (K:AA) (H:Hp) (a:AK) (xs:List V):Prop:=
 Rd H a (.lst xs) ∨
  ∃(o:Obj) (its:Array AD) (n:Nat),K.lookup a=some o/\o.cls=.type "list"/\o.dict=none/\o.data=.seq its n/\its.size<=sizeLine/\Bd xs its.toList
def SqT (K:AA) (H:Hp) (a:AK) (xs:List V):Prop:=
 Rd H a (.tup xs) ∨
  ∃(o:Obj) (its:Array AD) (n:Nat),K.lookup a=some o/\o.cls=.type "tuple"/\o.data=.seq its n/\its.size<=sizeLine/\Bd xs its.toList
def absV:AD->Option V
 | .none=>some .non
 | .bool b=>some (.bl b)
 | .int i _=>some (.int i)
 | .str x _=>some (.str x)
 | .bytes b _=>some (.byt b)
 | .float b _=>some (.flt b)
 | .ref a=>some (.ref a)
 | .type n=>some (.ty n)
 | _=>none
theorem RelV.abs {x:V} {u:AD} (r:RelV x u):absV u=some x:=by
 cases x with
 | non=>cases r;rfl
 | bl _=>cases r;rfl
 | int _=>obtain ⟨t,rfl⟩:=r;rfl
 | str _=>obtain ⟨t,rfl⟩:=r;rfl
 | byt _=>obtain ⟨t,rfl⟩:=r;rfl
 | flt _=>obtain ⟨t,rfl⟩:=r;rfl
 | ref _=>cases r;rfl
 | ty _=>cases r;rfl
theorem RelV.inj {x y:V} {u:AD} (r:RelV x u) (q:RelV y u):x=y:=CW (r.abs.symm.trans q.abs)
theorem Bd.inj:∀ {xs ys:List V} {us:List AD},Bd xs us->Bd ys us->xs=ys
 | _,_,_,.nil,.nil=>rfl
 | _,_,_,.cons r t,.cons r' t'=>by rw [r.inj r',Bd.inj t t']
section
variable {X:Cx} {pins:List (AK×Obj)} {σ:St} {H:Hp} {s:AG} {a:AK} {xs ys:List V}
theorem Inv.list (I:Inv X pins σ H s) (h:SqL X.K H a xs):∃its:List AD,Bd xs its/\PlainL s.heap a its.toArray/\xs.length<=sizeLine:=by
 rcases h with h | ⟨o,its,n,hk,hc,hd,hs,hz,r⟩
 ·obtain ⟨z,its,n,r,e⟩:=h.ok I.hok
  exact ⟨its,r,⟨_,n,e,rfl,rfl,rfl⟩,z⟩
 ·refine ⟨its.toList,r,⟨o,n,I.kIn a o hk,hc,hd,by simpa using hs⟩,?_⟩
  have e:=r.length;simp only [Bu] at e
  lia
theorem Inv.tuple (I:Inv X pins σ H s) (h:SqT X.K H a xs):∃its:List AD,Bd xs its/\kb s.heap a its.toArray/\xs.length<=sizeLine:=by
 rcases h with h | ⟨o,its,n,hk,hc,hs,hz,r⟩
 ·obtain ⟨z,its,r,p⟩:=h.ok I.hok
  exact ⟨its,r,p,z⟩
 ·refine ⟨its.toList,r,⟨o,I.kIn a o hk,hc,n,by simpa using hs⟩,?_⟩
  have e:=r.length;simp only [Bu] at e
  lia
theorem Inv.list_inj (I:Inv X pins σ H s) (h:SqL X.K H a xs) (h':SqL X.K H a ys):xs=ys:=by
 obtain ⟨its,r,⟨o,n,e,_,_,d⟩,_⟩:=I.list h;obtain ⟨its',r',⟨o',n',e',_,_,d'⟩,_⟩:=I.list h';rw [e] at e';cases e';rw [d] at d'
 injection d' with d1 _
 have:its=its':=by simpa using congrArg iE d1
 subst this;exact r.inj r'
theorem Inv.tuple_inj (I:Inv X pins σ H s) (h:SqT X.K H a xs) (h':SqT X.K H a ys):xs=ys:=by
 obtain ⟨its,r,⟨o,e,_,n,d⟩,_⟩:=I.tuple h;obtain ⟨its',r',⟨o',e',_,n',d'⟩,_⟩:=I.tuple h';rw [e] at e';cases e';rw [d] at d'
 injection d' with d1 _
 have:its=its':=by simpa using congrArg iE d1
 subst this;exact r.inj r'
end
section
variable {X:Cx} {pins:List (AK×Obj)} {σ:St} {H:Hp} {s:AG} {E:AD->AG->Prop}
end
section
variable {X:Cx} {st:Cg} {rest:List Cg} {t u:TS} {e:Expr} {te:TE} {pos:Pos}
def lC:TS:=λD σ H=>D.nx σ H
def tSeq (t u:TS):TS:=λD σ H=>t { D with nx:=u D } σ H
theorem dq:PSs X [] lC:=λ_ _ σ H _ I h=>Lz ⟨σ,H,I,h⟩
theorem aE (h1:PS X st t) (h2:PSs X rest u):PSs X (st :: rest) (tSeq t u):=by
 intro pins s σ H D I h;refine kd (thn (h1 pins s σ H { D with nx:=u D } I h) λf s1 q=>?_)
 cases f with
 | next=>
  obtain ⟨σ',H',I',q⟩:=q;exact h2 pins s1 σ' H' D I' q
 | ret v=>exact q
 | brk=>exact q
 | cont=>exact q
theorem dn (h1:PS X st t):PSs X [st] t:=by
 intro pins s σ H D I h;refine kd (thn (h1 pins s σ H D I h) λf s1 q=>?_)
 cases f with
 | next=>exact Lz q
 | ret v=>exact q
 | brk=>exact q
 | cont=>exact q
theorem Inv.quiet {pins:List (AK×Obj)} {σ:St} {H:Hp} {s:AG} (I:Inv X pins σ H s):interactive X.env=false:=by simp [interactive,I.ok.kind]
def lE (te:TE):TS:=λD σ H=>te σ H λ_ H1=>D.nx σ H1
theorem du (he:PE X e te) (hs:Fo e none pos.line X.env=pure false:=by rfl):PS X (.Expr e pos) (lE te):=by
 intro pins s σ H D I h;exact wpAny_Expr_any (thn (he pins s σ H _ I h) λv s1 ⟨x,H1,I1,r1,q1⟩=>⟨σ,H1,I1,q1⟩) I.quiet hs
def tRet (te:TE):TS:=λD σ H=>te σ H D.rt
theorem jC (he:PE X e te):PS X (.Return (some e) pos) (tRet te):=by
 intro pins s σ H D I h;exact wpAny_Return_some (thn (he pins s σ H _ I h) λv s1 ⟨x,H1,I1,r1,q1⟩=>⟨x,σ,H1,I1,r1,q1⟩)
def tIfS (c:TT) (t u:TS):TS:=λD σ H=>c σ H λb H1=>if b=true then t D σ H1 else u D σ H1
theorem lU {c:Expr} {a b:List Cg} {tc:TT} (hc:PT X c tc) (ha:PSs X a t) (hb:PSs X b u):PS X (.If c a b pos) (tIfS tc t u):=by
 intro pins s σ H D I h;refine wpAny_If (thn (hc pins s σ H _ I h) λd s1 ⟨H1,I1,q1⟩=>?_)
 cases d with
 | true=>exact ha pins s1 σ H1 D I1 q1
 | false=>exact hb pins s1 σ H1 D I1 q1
end
abbrev TG:=V->St->Hp->(St->Hp->Prop)->Prop
abbrev TGs:=List V->St->Hp->(St->Hp->Prop)->Prop
def PG (X:Cx) (target:Expr) (t:TG):Prop:=
 ∀(pins:List (AK×Obj)) (s:AG) (σ:St) (H:Hp) (v:V) (u:AD) (Q:St->Hp->Prop),Inv X pins σ H s->RelV v u->t v σ H Q ->
  Al (AZ X.prog X.w) X.A (Oj target X.env u) (λ_ s'=>∃σ' H',Inv X pins σ' H' s'/\Q σ' H') X.xe s
def PGs (X:Cx) (ts:List Expr) (t:TGs):Prop:=
 ∀(pins:List (AK×Obj)) (s:AG) (σ:St) (H:Hp) (vs:List V) (us:List AD) (Q:St->Hp->Prop),Inv X pins σ H s->Bd vs us->t vs σ H Q ->
  Al (AZ X.prog X.w) X.A (assignInOrder ((Ef ts X.env).map (·.2)) us) (λ_ s'=>∃σ' H',Inv X pins σ' H' s'/\Q σ' H') X.xe s
section
variable {X:Cx} {pos:Pos}
def W0 (i:Nat):TG:=λv σ H Q=>Q (σ.set i (some v)) H
theorem eE {i:Nat} {x:Str} (hN:X.N.Nodup) (hi:X.N[i]?=some x) (hx:Loc X.env.scope x) (hf:X.fn x=true∨X.env.scope.names.lookup x=some .local:=by first | exact .inl rfl | exact .inr rfl | assumption):PG X (.Name x pos) (W0 i):=by
 intro pins s σ H v u Q I r h;exact kP (TX I hN hi hx r (λs' I'=>⟨_,H,I',h⟩) hf)
def gNil:TGs:=λvs σ H Q=>vs=[]/\Q σ H
def mR (t:TG) (u:TGs):TGs:=λvs σ H Q=>∃v r,vs=v :: r/\t v σ H λσ' H'=>u r σ' H' Q
theorem eD:PGs X [] gNil:=by
 intro pins s σ H vs us Q I r h;obtain ⟨e,h⟩:=h;subst e;cases r;exact assignInOrder_nil ⟨σ,H,I,h⟩
theorem aL {e:Expr} {es:List Expr} {t:TG} {u:TGs} (h1:PG X e t) (h2:PGs X es u)
  (hs:(Ef (e :: es) X.env).map (·.2)=Oj e X.env :: (Ef es X.env).map (·.2):=by rfl):PGs X (e :: es) (mR t u):=by
 intro pins s σ H vs us Q I r h;obtain ⟨v,vr,e1,h⟩:=h;subst e1
 cases r with
 | cons r rr=>
  rw [hs];refine assignInOrder_cons (thn (h1 pins s σ H _ _ _ I r h) λ_ s1 ⟨σ1,H1,I1,q1⟩=>?_);exact h2 pins s1 σ1 H1 _ _ Q I1 rr q1
def gTup (K:AA) (n:Nat) (t:TGs):TG:=λv σ H Q=>∃a xs,v=.ref a/\SqT K H a xs/\xs.length=n/\t xs σ H Q
theorem jH {es:List Expr} {k:Nat} {t:TGs} {n:Nat} (hc:X.calm=true) (h:PGs X es t)
  (hn:(Ef es X.env).length=n:=by rfl) (hst:(Ef es X.env).findIdx? (·.1)=none:=by rfl):PG X (.Tuple es k pos) (gTup X.K n t):=by
 intro pins s σ H v u Q I r hw;obtain ⟨a,xs,e1,hq,hl,hw⟩:=hw;subst e1;cases r;obtain ⟨its,rv,ht,hz⟩:=I.tuple hq
 refine assign_Tuple_tuple (I.ok.hd hc) ht (by simp [hn,<-hl,rv.length]) hst λh' hx=>?_
 have I1:Inv X pins σ H { s with heap:=h' }:=I.kept (t':=s.toks) λb o e=>hx b o (Ak (Ab e)) e
 exact h pins _ σ H xs _ Q I1 (by simpa using rv) hw
def il (te:TE) (g:TG):TS:=λD σ H=>te σ H λx H1=>g x σ H1 D.nx
theorem jF {tg e:Expr} {te:TE} {g:TG} (he:PE X e te) (hg:PG X tg g) (hs:swapsWithSole [tg] e pos.line X.env=pure false:=by rfl) (hw:swappedStores [tg] e X.env=pure none:=by rfl)
  (h1:(Ef [tg] X.env).map (·.2)=[Oj tg X.env]:=by rfl):PS X (.Assign [tg] e pos) (il te g):=by
 intro pins s σ H D I h;refine wpAny_Assign_stores (thn (he pins s σ H _ I h) λv s1 ⟨x,H1,I1,r1,q1⟩=>?_) hs hw;rw [h1]
 exact thn (hg pins s1 σ H1 x v _ I1 r1 q1) λ_ s2 q=>q
theorem jB {i:Nat} {x:Str} {e:Expr} {te:TE} {pos':Pos} (hN:X.N.Nodup) (hi:X.N[i]?=some x) (hx:Loc X.env.scope x) (he:PE X e te) (hs:Fo e (some (.Name x pos')) pos.line X.env=pure false:=by rfl) (hf:X.fn x=true∨X.env.scope.names.lookup x=some .local:=by first | exact .inl rfl | exact .inr rfl | assumption) :
  PS X (.Assign [.Name x pos'] e pos) (il te (W0 i)):=by
 intro pins s σ H D I h;refine wpAny_Assign_Name (thn (he pins s σ H _ I h) λv s1 ⟨y,H1,I1,r1,q1⟩=>?_) hs;exact TX I1 hN hi hx r1 (λs2 I2=>⟨_,H1,I2,q1⟩) hf
end
section
variable {X:Cx} {pos:Pos}
def ie (c:TT) (tb:TS):TS:=λD σ H=>∃W:Nat->St->Hp->Prop,(∃m,W m σ H)/\∀m σ H,W m σ H ->
 c σ H λb H1=>if b=true then ∃N:St->Hp->Prop,(∀σ' H',N σ' H'->∃m',m' < m/\W m' σ' H')/\tb { D with nx:=N,ct:=N,bk:=D.nx } σ H1 else D.nx σ H1
theorem aF {c:Expr} {body:List Cg} {tc:TT} {tb:TS} (hp:NZ (AZ X.prog X.w) X.A X.env X.xe) (hc:PT X c tc) (hb:PSs X body tb):PS X (.While c body [] pos) (ie tc tb):=by
 intro pins s σ H D I h;obtain ⟨W,⟨m0,w0⟩,turn⟩:=h;refine wpAny_While (codeAny_whileLoop (λn s'=>∃σ' H',Inv X pins σ' H' s'/\W n σ' H') ?_ m0 ⟨σ,H,I,w0⟩);rintro n s1 ⟨σ1,H1,I1,w1⟩;refine Ep hp (thn (hc pins s1 σ1 H1 _ I1 (turn n σ1 H1 w1)) λb s2 ⟨H2,I2,q2⟩=>?_)
 cases b with
 | true=>
  obtain ⟨N,hN,q2⟩:=q2;rw [qX rfl];refine Ep hp (thn (hb pins s2 σ1 H2 _ I2 q2) λf s3 q3=>?_)
  cases f with
  | next=>
   obtain ⟨σ3,H3,I3,n3⟩:=q3;obtain ⟨m',hm,w3⟩:=hN σ3 H3 n3;exact ⟨m',hm,σ3,H3,I3,w3⟩
  | cont=>
   obtain ⟨σ3,H3,I3,n3⟩:=q3;obtain ⟨m',hm,w3⟩:=hN σ3 H3 n3;exact ⟨m',hm,σ3,H3,I3,w3⟩
  | brk=>exact q3
  | ret v=>exact q3
 | false=>
  rw [qY AR];exact Lz ⟨σ1,H2,I2,q2⟩
end
structure It where
 go:Nat->Hp->Prop
 yld:Nat->Hp->V->Hp->Prop
 stop:Nat->Hp->Prop
def Lw (X:Cx) (pins:List (AK×Obj)) (H:Hp) (b:AK):Prop:=
 H b=none/\b≠X.env.locals/\b∉X.fs/\(b∈X.ex∨X.s₀.heap.objs.size<=b)/\(∀x c,X.env.cells.lookup x=some c->c≠b)/\∀p∈X.pn++pins,p.1≠b
theorem Inv.fpOk {X:Cx} {pins:List (AK×Obj)} {σ:St} {H H':Hp} {s:AG} {b:AK} (I:Inv X pins σ H s) (hb:s.heap.objs.size<=b) (hn:H' b=none):Lw X pins H' b:=by
 refine ⟨hn,KF (Ae I.lt hb),I.nofs hb,.inr (Ax I.sz hb),λx c e z=>?_,λp hp z=>?_⟩
 ·obtain ⟨v,q⟩:=I.cell x c e
  exact zX (Ae q.lt (by rw [z];exact hb)) (Cz _)
 ·exact zX (Ae (Ab (I.pin p hp).1) (by rw [z];exact hb)) (Cz _)
structure Sb (P:Aq) (w:BF) (K:AA) (tg:Expr) (J:It) (fp:List AK) (it:AK) (tn:Nat->Bq->Prop):Prop where
 mem:it∈fp
 obj:∀i h,tn i h->∀b∈fp,∃o,h.get? b=some o/\∀v,o.data≠.cell v
 keep:∀i h h',tn i h->(∀b∈fp,∀o,h.get? b=some o->h'.get? b=some o)->tn i h'
 item:∀(X:Cx),X.prog=P->X.w=w->X.K=K->X.calm=true->∀(i:Nat) (pins:List (AK×Obj)) (s:AG) (σ:St) (H:Hp) (E:AD->AG->Prop),Inv X pins σ H s->(∀b∈fp,Lw X pins H b)->tn i s.heap->J.go i H ->
  Al (AZ P w) X.A (Ra (.ref it)) (λr s1=>∃u,r=some u /\
   Al (AZ P w) X.A (L3 tg (.ref it) u) (λ_ s2=>∃x H',Inv X pins σ H' s2/\RelV x u/\J.yld i H x H'/\tn (i+1) s2.heap/\∀b∈fp,H' b=none) E s1) E s
 done:∀(X:Cx),X.prog=P->X.w=w->X.K=K->X.calm=true->∀(i:Nat) (pins:List (AK×Obj)) (s:AG) (σ:St) (H:Hp) (E:AD->AG->Prop),Inv X pins σ H s->(∀b∈fp,Lw X pins H b)->tn i s.heap->J.stop i H ->
  Al (AZ P w) X.A (Ra (.ref it)) (λr s1=>r=none/\Inv X pins σ H s1) E s
 self:∀(A:BA) (i:Nat) (s:AG) (Q:AD->AG->Prop) (E:AD->AG->Prop),tn i s.heap->Q (.ref it) s->Al (AZ P w) A (ZC (.ref it)) Q E s
abbrev TI:=St->Hp->(It->Hp->Prop)->Prop
def PIE (X:Cx) (pins:List (AK×Obj)) (σ:St) (tg:Expr) (R:It->Hp->Prop) (itv:AD) (s2:AG):Prop:=
 ∃(it:AK) (fp:List AK) (tn:Nat->Bq->Prop) (J:It) (H':Hp),itv=.ref it/\Inv X pins σ H' s2/\Sb X.prog X.w X.K tg J fp it tn/\tn 0 s2.heap/\(∀b∈fp,Lw X pins H' b)/\R J H'
def PI (X:Cx) (tg iter:Expr) (wi:TI):Prop:=
 ∀(pins:List (AK×Obj)) (s:AG) (σ:St) (H:Hp) (R:It->Hp->Prop),Inv X pins σ H s->wi σ H R ->
  Al (AZ X.prog X.w) X.A (Bm iter X.env) (λv s1=>Al (AZ X.prog X.w) X.A (ZC v) (PIE X pins σ tg R) X.xe s1) X.xe s
theorem Wu {M:Uw} {A:BA} {E:AD->AG->Prop} {s:AG} {tg:Expr} {it:AK} {u:AD} {o:Obj} {n:String} {vs:Array AD} {Q:Unit->AG->Prop} (ho:s.heap.get? it=some o) (hc:o.cls=.type n) (hd:o.data=.fields vs)
  (hn:["enumerate", "zip", "dict_itemiterator", "dict_reverseitemiterator", "odict_iterator", "itertools.zip_longest", "itertools.pairwise"].contains n=false) (hQ:Q () s):Al M A (L3 tg (.ref it) u) Q E s:=by
 unfold L3
 cases tg <;> first
  | exact AM hQ
  | (cases u <;> first
    | exact AM hQ
    | (refine AB (wpAny_load ho ?_)
       rw [hc,hd];show Al M A (if (["enumerate", "zip", "dict_itemiterator", "dict_reverseitemiterator", "odict_iterator", "itertools.zip_longest", "itertools.pairwise"].contains n&&vs[0]?==some (EO _))=true then _ else _) Q E s;rw [qY (by intro h;rw [hn,Bool.false_and] at h;cases h)]
       exact AM hQ))
def Itl (K:AA) (a:AK):It:=
 ⟨λi H=>∃xs x,SqL K H a xs/\xs[i]?=some x,λi H x H'=>H'=H/\∀xs,SqL K H a xs->xs[i]?=some x,λi H=>∃xs,SqL K H a xs/\xs.length<=i⟩
def Itt (K:AA) (a:AK):It:=
 ⟨λi H=>∃xs x,SqT K H a xs/\xs[i]?=some x,λi H x H'=>H'=H/\∀xs,SqT K H a xs->xs[i]?=some x,λi H=>∃xs,SqT K H a xs/\xs.length<=i⟩
def Itr (lo:Int) (n:Nat):It:=⟨λi _=>i < n,λi H x H'=>H'=H/\x=.int (lo+i),λi _=>n<=i⟩
theorem Xi {P:Aq} {w:BF} {K:AA} {tg:Expr} (a it:AK):Sb P w K tg (Itl K a) [it] it (λi h=>h.IsListIter it a i) where
 mem:=by simp
 obj:=λi h st b hb=>by
  have e:b=it:=by simpa using hb
  subst e;obtain ⟨o,e,c,d⟩:=st;exact ⟨o,e,λv z=>by rw [d] at z;cases z⟩
 keep:=λi h h' st k=>st.at λo e=>k it (by simp) o e
 item:=by
  intro X hP hw hK hc i pins s σ H E I hf st hg;subst hP hw hK;obtain ⟨xs,x,hq,hx⟩:=hg;obtain ⟨its,rv,p,hz⟩:=I.list hq;obtain ⟨u,hu,ru⟩:=rv.get hx;obtain ⟨f0,f1,f2,f3,f4,f5⟩:=hf it (by simp)
  refine wpAny_pyNext_list_item st p.isList (x:=u) (by simpa using hu) λh' st' sb=>?_
  have I1:Inv X pins σ H { s with heap:=h' }:=I.turned (t':=s.toks) (λb o hb e=>(sb.2 b hb).trans e) f0 f1 f3 f4 f5;obtain ⟨o,e,c,d⟩:=id st';exact ⟨u,rfl,Wu (s:={ s with heap:=h' }) e c d (by decide) ⟨x,H,I1,ru,⟨rfl,λys hy=>by rw [I.list_inj hy hq];exact hx⟩,st',λb hb=>(hf b hb).1⟩⟩
 done:=by
  intro X hP hw hK hc i pins s σ H E I hf st hg;subst hP hw hK;obtain ⟨xs,hq,hx⟩:=hg;obtain ⟨its,rv,p,hz⟩:=I.list hq;obtain ⟨f0,f1,f2,f3,f4,f5⟩:=hf it (by simp);have hl:=rv.length
  exact wpAny_pyNext_list_end (I.ok.hd hc) st p.isList (by simp;lia) λh' eb=>⟨rfl,I.turned (t':=s.toks) (λb o hb e=>eb b o hb e) f0 f1 f3 f4 f5⟩
 self:=λ_ _ _ _ _ st h=>wpAny_pyIter_listiter st h
theorem VC {P:Aq} {w:BF} {K:AA} {tg:Expr} (a it:AK):Sb P w K tg (Itt K a) [it] it (λi h=>h.IsTupleIter it a i) where
 mem:=by simp
 obj:=λi h st b hb=>by
  have e:b=it:=by simpa using hb
  subst e;obtain ⟨o,e,c,d⟩:=st;exact ⟨o,e,λv z=>by rw [d] at z;cases z⟩
 keep:=λi h h' st k=>st.at λo e=>k it (by simp) o e
 item:=by
  intro X hP hw hK hc i pins s σ H E I hf st hg;subst hP hw hK;obtain ⟨xs,x,hq,hx⟩:=hg;obtain ⟨its,rv,p,hz⟩:=I.tuple hq;obtain ⟨u,hu,ru⟩:=rv.get hx;obtain ⟨f0,f1,f2,f3,f4,f5⟩:=hf it (by simp)
  refine wpAny_pyNext_tuple_item st (show s.heap.IsTuple a its.toArray from p) (x:=u) (by simpa using hu) λh' st' sb=>?_
  have I1:Inv X pins σ H { s with heap:=h' }:=I.turned (t':=s.toks) (λb o hb e=>(sb.2 b hb).trans e) f0 f1 f3 f4 f5;obtain ⟨o,e,c,d⟩:=id st';exact ⟨u,rfl,Wu (s:={ s with heap:=h' }) e c d (by decide) ⟨x,H,I1,ru,⟨rfl,λys hy=>by rw [I.tuple_inj hy hq];exact hx⟩,st',λb hb=>(hf b hb).1⟩⟩
 done:=by
  intro X hP hw hK hc i pins s σ H E I hf st hg;subst hP hw hK;obtain ⟨xs,hq,hx⟩:=hg;obtain ⟨its,rv,p,hz⟩:=I.tuple hq;obtain ⟨f0,f1,f2,f3,f4,f5⟩:=hf it (by simp);have hl:=rv.length
  exact wpAny_pyNext_tuple_end (I.ok.hd hc) st (show s.heap.IsTuple a its.toArray from p) (by simp;lia) λh' eb=>⟨rfl,I.turned (t':=s.toks) (λb o hb e=>eb b o hb e) f0 f1 f3 f4 f5⟩
 self:=λ_ _ _ _ _ st h=>wpAny_pyIter_tupleiter st h
theorem VD {P:Aq} {w:BF} {K:AA} {tg:Expr} (it:AK) (lo:Int) (n:Nat):Sb P w K tg (Itr lo n) [it] it (λi h=>So h it (lo+(i:Nat) * 1) ((n:Int) - (i:Nat)) 1) where
 mem:=by simp
 obj:=λi h st b hb=>by
  have e:b=it:=by simpa using hb
  subst e
  exact ⟨_,st,λv z=>by
   have z':Os _=Sz v:=z
   cases z'⟩
 keep:=λi h h' st k=>k it (by simp) _ st
 item:=by
  intro X hP hw hK hc i pins s σ H E I hf st hg;subst hP hw hK;obtain ⟨f0,f1,f2,f3,f4,f5⟩:=hf it (by simp);have W:=kU (prog:=X.prog) (w:=X.w) (I.ok.hd hc) it lo 1 n
  refine W.item i s _ _ hg st λv h' tk hv st' kk=>?_
  obtain ⟨t,rfl⟩:=hv;have I1:Inv X pins σ H { s with heap:=h',toks:=tk }:=I.turned (λb o hb e=>kk b o (by simpa using hb) e) f0 f1 f3 f4 f5;refine ⟨_,rfl,Wu (s:={ s with heap:=h',toks:=tk }) (n:="range_iterator") st' rfl rfl (by decide) ⟨.int (lo+i),H,I1,⟨t,?_⟩,⟨rfl,rfl⟩,st',λb hb=>(hf b hb).1⟩⟩;rw [Int.mul_one]
 done:=by
  intro X hP hw hK hc i pins s σ H E I hf st hg;subst hP hw hK;obtain ⟨f0,f1,f2,f3,f4,f5⟩:=hf it (by simp)
  exact Y8 (I.ok.hd hc) st (by have:n<=i:=hg;lia) λh' eb=>⟨rfl,I.turned (t':=s.toks) (λb o hb e=>eb b o hb e) f0 f1 f3 f4 f5⟩
 self:=λ_ _ _ _ _ st h=>Y9 st h
section
variable {X:Cx} {tg:Expr}
def mK (K:AA) (tl:TE):TI:=λσ H R=>tl σ H λx H1=>∃a,x=.ref a/\(∃xs,SqL K H1 a xs)/\R (Itl K a) H1
def iTup (K:AA) (tl:TE):TI:=λσ H R=>tl σ H λx H1=>∃a,x=.ref a/\(∃xs,SqT K H1 a xs)/\R (Itt K a) H1
theorem d9 {l:Expr} {tl:TE} (hl:PE X l tl):PI X tg l (mK X.K tl):=by
 intro pins s σ H R I h
 refine thn (hl pins s σ H _ I h) λv s1 ⟨x,H1,I1,r1,q1⟩=>?_
 obtain ⟨a,e,⟨xs,hq⟩,q⟩:=q1;subst e;cases r1;obtain ⟨its,rv,p,hz⟩:=I1.list hq;refine QK p.isList ?_;refine ⟨s1.heap.objs.size,[s1.heap.objs.size],_,_,H1,rfl,I1.kept (t':=s1.toks) λb o e=>AI _ e,Xi a _,⟨_,Ah _ rfl,rfl,rfl⟩,λb hb=>?_,q⟩
 have e:b=s1.heap.objs.size:=by simpa using hb
 subst e;exact I1.fpOk (AL _) (I1.hok.fresh (AL _))
theorem jG {l:Expr} {tl:TE} (hl:PE X l tl):PI X tg l (iTup X.K tl):=by
 intro pins s σ H R I h
 refine thn (hl pins s σ H _ I h) λv s1 ⟨x,H1,I1,r1,q1⟩=>?_
 obtain ⟨a,e,⟨xs,hq⟩,q⟩:=q1;subst e;cases r1;obtain ⟨its,rv,p,hz⟩:=I1.tuple hq;refine Dg (show s1.heap.IsTuple a its.toArray from p) ?_;refine ⟨s1.heap.objs.size,[s1.heap.objs.size],_,_,H1,rfl,I1.kept (t':=s1.toks) λb o e=>AI _ e,VC a _,⟨_,Ah _ rfl,rfl,rfl⟩,λb hb=>?_,q⟩
 have e:b=s1.heap.objs.size:=by simpa using hb
 subst e;exact I1.fpOk (AL _) (I1.hok.fresh (AL _))
theorem Tl {pins:List (AK×Obj)} {σ:St} {H:Hp} {s:AG} {R:It->Hp->Prop} {E:AD->AG->Prop} {lo hi:Int} {t u v:Tok} {tk:Nat} (I:Inv X pins σ H s) (h1:-(2 ^ 62)<=lo) (h2:lo < 2 ^ 62) (h3:-(2 ^ 62)<=hi) (h4:hi < 2 ^ 62)
  (q:R (Itr lo (hi - lo).toNat) H):Al (AZ X.prog X.w) X.A (ZC (.ref s.heap.objs.size)) (PIE X pins σ tg R) E { s with heap:=s.heap.push { cls:=.type "range",data:=.fields #[.int lo t,.int hi u,.int 1 v] },toks:=tk }:=by
 refine gz (gP ..) (small_one h1 h2 h3 h4) ?_
 have I1:Inv X pins σ H { s with heap:=s.heap.push { cls:=.type "range",data:=.fields #[.int lo t,.int hi u,.int 1 v] },toks:=tk }:=I.kept λb o e=>AI _ e
 refine ⟨(s.heap.push { cls:=.type "range",data:=.fields #[.int lo t,.int hi u,.int 1 v] }).objs.size,[(s.heap.push { cls:=.type "range",data:=.fields #[.int lo t,.int hi u,.int 1 v] }).objs.size],_,_,H,rfl,
  I1.kept (t':=tk) λb o e=>AI _ e,VD _ lo (hi - lo).toNat,?_,λb hb=>?_,q⟩
 ·have e1:lo+((0:Nat):Int) * 1=lo:=by simp
  have e2:(((hi - lo).toNat:Nat):Int) - ((0:Nat):Int)=E3 lo hi 1:=by rw [rangeSize_one];split <;> lia
  show So _ _ (lo+((0:Nat):Int) * 1) ((((hi - lo).toNat:Nat):Int) - ((0:Nat):Int)) 1;rw [e1,e2];exact Ah _ rfl
 ·have e:b=(s.heap.push { cls:=.type "range",data:=.fields #[.int lo t,.int hi u,.int 1 v] }).objs.size:=by simpa using hb
  subst e;exact I1.fpOk (AL _) (I1.hok.fresh (AL _))
def mI (ta:TA):TI:=λσ H R=>ta σ H λvs H1=>∃j:Int,vs=[.int j]/\-(2 ^ 62)<=j/\j < 2 ^ 62/\R (Itr 0 j.toNat) H1
def mH (ta:TA):TI:=λσ H R=>ta σ H λvs H1=>∃i j:Int,vs=[.int i,.int j]/\(-(2 ^ 62)<=i/\i < 2 ^ 62/\-(2 ^ 62)<=j/\j < 2 ^ 62)/\R (Itr i (j - i).toNat) H1
theorem Xz {a:Expr} {ta:TA} {p pos:Pos} (hg:Gl X "range") (hm:X.mg "range" = none) (ha:PA X [a] ta) (hs:AS [a] X.env=[(false,Bm a X.env)]:=by rfl):PI X tg (.Call (.Name "range" p) [a] [] pos) (mI ta):=by
 intro pins s σ H R I h;refine Call_ (Hv I hg hm hZ (Bi (thn (ha pos pins s σ H _ I h) λus s1 ⟨vs,H1,I1,r1,q1⟩=>?_) hs rfl));obtain ⟨j,e,q1,q2,q⟩:=q1;subst e
 cases r1 with
 | cons r rr=>
  cases rr;obtain ⟨t,rfl⟩:=r;exact call_range_1 (Tl I1 (by lia) (by lia) q1 q2 (by simpa using q))
theorem Xy {a b:Expr} {ta:TA} {p pos:Pos} (hg:Gl X "range") (hm:X.mg "range" = none) (ha:PA X [a,b] ta) (hs:AS [a,b] X.env=[(false,Bm a X.env),(false,Bm b X.env)]:=by rfl) (hs2:AS [b] X.env=[(false,Bm b X.env)]:=by rfl) :
  PI X tg (.Call (.Name "range" p) [a,b] [] pos) (mH ta):=by
 intro pins s σ H R I h;refine Call_ (Hv I hg hm hZ (Bi (thn (ha pos pins s σ H _ I h) λus s1 ⟨vs,H1,I1,r1,q1⟩=>?_) (by rw [hs,hs2]) (by rw [hs2];rfl)));obtain ⟨i,j,e,⟨q1,q2,q3,q4⟩,q⟩:=q1;subst e
 cases r1 with
 | cons r rr=>
  cases rr with
  | cons r' rr=>
   cases rr;obtain ⟨t,rfl⟩:=r;obtain ⟨t',rfl⟩:=r';exact call_range_2 (Tl I1 q1 q2 q3 q4 q)
def tFor (wi:TI) (g:TG) (tb:TS):TS:=λD σ H=>wi σ H λJ H1=>∃W:Nat->Nat->St->Hp->Prop,(∃m,W 0 m σ H1)/\∀i m σ H,W i m σ H ->
 (J.stop i H/\D.nx σ H)∨(J.go i H/\∃N:St->Hp->Prop,(∀σ' H',N σ' H'->∃m',m' < m/\W (i+1) m' σ' H')/\∀x H',J.yld i H x H'->g x σ H' λσ2 H2=>tb { D with nx:=N,ct:=N,bk:=D.nx } σ2 H2)
def PN (fp:List AK) (h:Bq):List (AK×Obj):=fp.filterMap λb=>(h.get? b).map λo=>(b,o)
theorem Jl {fp:List AK} {h:Bq} {b:AK} {o:Obj} (hb:b∈fp) (e:h.get? b=some o):(b,o)∈PN fp h:=Y4.mpr ⟨b,hb,by rw [e];rfl⟩
theorem X6 {fp:List AK} {h:Bq} {p:AK×Obj} (hp:p∈PN fp h):p.1∈fp/\h.get? p.1=some p.2:=by
 obtain ⟨b,hb,e⟩:=Y4.mp hp
 cases q:h.get? b with
 | none=>rw [q] at e;cases e
 | some o=>
  rw [q] at e;have e':(b,o)=p:=CW e;subst e';exact ⟨hb,q⟩
theorem Inv.pinned {pins:List (AK×Obj)} {σ:St} {H:Hp} {s:AG} {fp:List AK} (I:Inv X pins σ H s) (hf:∀b∈fp,Lw X pins H b) (ho:∀b∈fp,∃o,s.heap.get? b=some o/\∀v,o.data≠.cell v):Inv X (pins++PN fp s.heap) σ H s:=
 I.pins_of λp hp=>(Aw.mp hp).elim (λz=>I.pin p (A4 _ z)) λz=>by
  obtain ⟨hb,e⟩:=X6 z;obtain ⟨f0,f1,f2,_⟩:=hf p.1 hb;obtain ⟨o,e',d⟩:=ho p.1 hb;rw [e] at e';cases e';exact ⟨e,f0,f1,f2,d⟩
theorem Inv.unpinned {pins pl:List (AK×Obj)} {σ:St} {H:Hp} {s:AG} (I:Inv X (pins++pl) σ H s):Inv X pins σ H s:=I.pins_of λp hp=>I.pin p (A4 _ (A3 _ hp))
theorem jD {iter:Expr} {body:List Cg} {wi:TI} {g:TG} {tb:TS} {pos:Pos} (hp:NZ (AZ X.prog X.w) X.A X.env X.xe) (hc:X.calm=true) (hi:PI X tg iter wi) (hg:PG X tg g) (hb:PSs X body tb)
  (hs:∀x,FC iter X.env x=pure x:=by intro _;rfl):PS X (.For tg iter body [] pos) (tFor wi g tb):=by
 intro pins s σ H D I h;refine wpAny_For (thn (hi pins s σ H _ I h) λv s1 h1=>thn h1 λitv s2 h2=>?_) hs;obtain ⟨it,fp,tn,J,H2,e,I2,T,st2,f2,W,⟨m0,w0⟩,turn⟩:=h2;subst e
 have stat:∀ {H':Hp},(∀b∈fp,H' b=none)->∀b∈fp,Lw X pins H' b:=λhn b hb=>⟨hn b hb,(f2 b hb).2⟩
 refine codeAny_forLoop_any (λn s'=>∃i σ' H',Inv X pins σ' H' s'/\tn i s'.heap/\(∀b∈fp,H' b=none)/\W i n σ' H') ?_ m0 ⟨0,σ,H2,I2,st2,λb hb=>(f2 b hb).1,w0⟩;rintro n s3 ⟨i,σ3,H3,I3,st3,fr3,w3⟩
 rcases turn i n σ3 H3 w3 with ⟨stop,qn⟩ | ⟨go,N,hN,step⟩
 ·refine Ep hp (thn (T.done X rfl rfl rfl hc i pins s3 σ3 H3 X.xe I3 (stat fr3) st3 stop) λr s4 ⟨hr,I4⟩=>?_)
  subst hr;exact Lz ⟨σ3,H3,I4,qn⟩
 ·refine Ep hp (thn (T.item X rfl rfl rfl hc i pins s3 σ3 H3 X.xe I3 (stat fr3) st3 go) λr s4 ⟨u,hr,h4⟩=>?_)
  subst hr;refine Ep hp (thn h4 λ_ s5 ⟨x,H5,I5,r5,y5,st5,fr5⟩=>?_);have I5':=I5.pinned (stat fr5) (T.obj _ _ st5);refine Ep hp (thn (hg _ s5 σ3 H5 x u _ I5' r5 (step x H5 y5)) λ_ s6 ⟨σ6,H6,I6,q6⟩=>?_);refine Ep hp (thn (hb _ s6 σ6 H6 _ I6 q6) λf s7 q7=>?_)
  have again:∀ {σ7:St} {H7:Hp},Inv X (pins++PN fp s5.heap) σ7 H7 s7->N σ7 H7->∃m,m < n/\∃i σ' H',Inv X pins σ' H' s7/\tn i s7.heap/\(∀b∈fp,H' b=none)/\W i m σ' H':=λ{σ7 H7} I7 n7=>by
   obtain ⟨m',hm,w7⟩:=hN σ7 H7 n7;refine ⟨m',hm,i+1,σ7,H7,I7.unpinned,T.keep _ _ _ st5 λb hb o e=>(I7.pin (b,o) (A4 _ (A4 _ (Jl hb e)))).1,λb hb=>?_,w7⟩;obtain ⟨o,e,d⟩:=T.obj _ _ st5 b hb;exact (I7.pin (b,o) (A4 _ (A4 _ (Jl hb e)))).2.1
  cases f with
  | next=>obtain ⟨σ7,H7,I7,n7⟩:=q7;exact again I7 n7
  | cont=>obtain ⟨σ7,H7,I7,n7⟩:=q7;exact again I7 n7
  | brk=>obtain ⟨σ7,H7,I7,q7⟩:=q7;exact ⟨σ7,H7,I7.unpinned,q7⟩
  | ret v=>obtain ⟨x7,σ7,H7,I7,r7,q7⟩:=q7;exact ⟨x7,σ7,H7,I7.unpinned,r7,q7⟩
end
abbrev R2:=V->V->Hp->VK->Prop
def OpR (X:Cx) (f:AD->AD->Sem AD) (r:R2):Prop:=
 ∀(pins:List (AK×Obj)) (s:AG) (σ:St) (H:Hp) (x y:V) (v u:AD) (Q:VK),Inv X pins σ H s->RelV x v->RelV y u->r x y H Q ->
  Al (AZ X.prog X.w) X.A (f v u) (EP X pins σ Q) X.xe s
def UnR (X:Cx) (f:AD->Sem AD) (r:V->Hp->VK->Prop):Prop:=
 ∀(pins:List (AK×Obj)) (s:AG) (σ:St) (H:Hp) (x:V) (v:AD) (Q:VK),Inv X pins σ H s->RelV x v->r x H Q ->
  Al (AZ X.prog X.w) X.A (f v) (EP X pins σ Q) X.xe s
def HV (X:Cx) (f:AD) (r:List V->Hp->VK->Prop):Prop:=
 ∀(pins:List (AK×Obj)) (s:AG) (σ:St) (H:Hp) (xs:List V) (us:List AD) (Q:VK),Inv X pins σ H s->Bd xs us->r xs H Q ->
  Al (AZ X.prog X.w) X.A (call f us) (EP X pins σ Q) X.xe s
def TruR (X:Cx) (r:V->Hp->(Bool->Hp->Prop)->Prop):Prop:=
 ∀(pins:List (AK×Obj)) (s:AG) (σ:St) (H:Hp) (x:V) (v:AD) (Q:Bool->Hp->Prop),Inv X pins σ H s->RelV x v->r x H Q ->
  Al (AZ X.prog X.w) X.A (g8 v) (TP X pins σ Q) X.xe s
def tOp (r:R2) (ta tb:TE):TE:=λσ H Q=>ta σ H λx H1=>tb σ H1 λy H2=>r x y H2 Q
def tUn (r:V->Hp->VK->Prop) (ta:TE):TE:=λσ H Q=>ta σ H λx H1=>r x H1 Q
def rI (C:Int->Int->Prop) (g:Int->Int->V):R2:=λx y H Q=>∃i j,x=.int i/\y=.int j/\C i j/\Q (g i j) H
def rI0 (g:Int->Int->V):R2:=λx y H Q=>∃i j,x=.int i/\y=.int j/\Q (g i j) H
def rU (g:Int->V):V->Hp->VK->Prop:=λx H Q=>∃i,x=.int i/\Q (g i) H
section
variable {X:Cx} {a b c:Expr} {ta tb tc:TE} {pos:Pos}
theorem kJ (ha:PE X a ta) (hb:PE X b tb) {pins:List (AK×Obj)} {s:AG} {σ:St} {H:Hp} {R:V->V->Hp->Prop} (I:Inv X pins σ H s)
  (h:ta σ H λx H1=>tb σ H1 λy H2=>R x y H2) {Q:AD->AG->Prop} {f:AD->AD->Sem AD}
  (hf:∀v u s2 x y H2,Inv X pins σ H2 s2->RelV x v->RelV y u->R x y H2->Al (AZ X.prog X.w) X.A (f v u) Q X.xe s2) :
  Al (AZ X.prog X.w) X.A (Bm a X.env) (λv s₁=>Al (AZ X.prog X.w) X.A (Bm b X.env) (λu s₂=>Al (AZ X.prog X.w) X.A (f v u) Q X.xe s₂) X.xe s₁) X.xe s:=by
 refine thn (ha pins s σ H _ I h) λv s1 ⟨x,H1,I1,r1,q1⟩=>?_
 refine thn (hb pins s1 σ H1 _ I1 q1) λu s2 ⟨y,H2,I2,r2,q2⟩=>?_
 exact hf v u s2 x y H2 I2 r1 r2 q2
theorem lW {op:Operator} {r:R2} (ho:OpR X (D7 op) r) (ha:PE X a ta) (hb:PE X b tb):PE X (.BinOp a op b pos) (tOp r ta tb):=by
 intro pins s σ H Q I h;exact wpAny_BinOp (kJ ha hb I h λv u s2 x y H2 I2 rx ry q=>ho pins s2 σ H2 x y v u Q I2 rx ry q)
theorem lV {op:UnaryOp} {r:V->Hp->VK->Prop} (ho:UnR X (unaryOp op) r) (ha:PE X a ta):PE X (.UnaryOp op a pos) (tUn r ta):=by
 intro pins s σ H Q I h;exact UnaryOp_ (thn (ha pins s σ H _ I h) λv s1 ⟨x,H1,I1,r1,q1⟩=>ho pins s1 σ H1 x v Q I1 r1 q1)
theorem opI {f:AD->AD->Sem AD} {C:Int->Int->Prop} {g:Int->Int->Int}
  (rule:∀(i j:Int) (t u:Tok) (s:AG) (Q:AD->AG->Prop) (E:AD->AG->Prop),C i j->Q (.int (g i j) s.toks) { s with toks:=s.toks+1 }->Al (AZ X.prog X.w) X.A (f (.int i t) (.int j u)) Q E s) :
  OpR X f (rI C λi j=>.int (g i j)):=by
 intro pins s σ H x y v u Q I rx ry h;obtain ⟨i,j,rfl,rfl,hc,q⟩:=h;obtain ⟨t,rfl⟩:=rx;obtain ⟨t',rfl⟩:=ry;exact rule i j t t' s _ _ hc ⟨.int (g i j),H,I.tok _,⟨_,rfl⟩,q⟩
theorem lg {f:AD->AD->Sem AD} {g:Int->Int->Int}
  (rule:∀(i j:Int) (t u:Tok) (s:AG) (Q:AD->AG->Prop) (E:AD->AG->Prop),Q (.int (g i j) s.toks) { s with toks:=s.toks+1 }->Al (AZ X.prog X.w) X.A (f (.int i t) (.int j u)) Q E s) :
  OpR X f (rI0 λi j=>.int (g i j)):=by
 intro pins s σ H x y v u Q I rx ry h;obtain ⟨i,j,rfl,rfl,q⟩:=h;obtain ⟨t,rfl⟩:=rx;obtain ⟨t',rfl⟩:=ry;exact rule i j t t' s _ _ ⟨.int (g i j),H,I.tok _,⟨_,rfl⟩,q⟩
theorem eZ {f:AD->AD->Sem AD} {g:Int->Int->Bool}
  (rule:∀(i j:Int) (t u:Tok) (s:AG) (Q:AD->AG->Prop) (E:AD->AG->Prop),Q (.bool (g i j)) s->Al (AZ X.prog X.w) X.A (f (.int i t) (.int j u)) Q E s) :
  OpR X f (rI0 λi j=>.bl (g i j)):=by
 intro pins s σ H x y v u Q I rx ry h;obtain ⟨i,j,rfl,rfl,q⟩:=h;obtain ⟨t,rfl⟩:=rx;obtain ⟨t',rfl⟩:=ry;exact rule i j t t' s _ _ ⟨.bl (g i j),H,I,rfl,q⟩
def gH (i j:Int):Prop:=0 < j/\j < 1073741824
def Ys (i j:Int):Prop:=(-(2 ^ 64) < i/\i < 2 ^ 64)∨(-(2 ^ 64) < j/\j < 2 ^ 64)
theorem Ys.ok {i j:Int} (h:Ys i j):IntMulOk i j:=by
 rcases h with ⟨h1,h2⟩ | ⟨h1,h2⟩
 ·exact .of_left (intBits_le_64 h1 h2)
 ·exact .of_right (intBits_le_64 h1 h2)
theorem ja:OpR X (D7 .Add) (rI0 λi j=>.int (i+j)):=lg λ_ _ _ _ _ _ _ q=>add_int q
theorem jV:OpR X (D7 .Sub) (rI0 λi j=>.int (i - j)):=lg λ_ _ _ _ _ _ _ q=>sub_int q
theorem jW:OpR X (D7 .Mult) (rI Ys λi j=>.int (i * j)):=opI λ_ _ _ _ _ _ _ hc q=>mul_int q hc.ok
theorem eW:OpR X (D7 .FloorDiv) (rI gH λi j=>.int (i / j)):=opI λi j _ _ _ _ _ hc q=>by
 have h1:(0:Int) < j:=hc.1;have h2:j < 1073741824:=hc.2;exact floordiv_int (by lia) (by rw [Int.fdiv_eq_ediv_of_nonneg i (by lia)];exact q) (.inl (Rf (by omega)))
theorem jX:OpR X (D7 .Mod) (rI (λ_ j=>0 < j) λi j=>.int (i % j)):=opI λi j _ _ _ _ _ hc q=>by
 have h1:(0:Int) < j:=hc;exact mod_int' (by lia) (by rw [Int.fmod_eq_emod_of_nonneg i (by lia)];exact q)
theorem unI {f:AD->Sem AD} {g:Int->Int}
  (rule:∀(i:Int) (t:Tok) (s:AG) (Q:AD->AG->Prop) (E:AD->AG->Prop),Q (.int (g i) s.toks) { s with toks:=s.toks+1 }->Al (AZ X.prog X.w) X.A (f (.int i t)) Q E s) :
  UnR X f (rU λi=>.int (g i)):=by
 intro pins s σ H x v Q I rx h;obtain ⟨i,rfl,q⟩:=h;obtain ⟨t,rfl⟩:=rx;exact rule i t s _ _ ⟨.int (g i),H,I.tok _,⟨_,rfl⟩,q⟩
theorem iW:UnR X (unaryOp .USub) (rU λi=>.int (-i)):=unI λ_ _ _ _ _ q=>neg_int q
end
section
variable {X:Cx} {a b c:Expr} {ta tb tc:TE} {pos:Pos}
theorem bV {pins:List (AK×Obj)} {σ:St} {H:Hp} {s:AG} {Q:VK} {k k':Bool} (I:Inv X pins σ H s) (q:Q (.bl k) H) (e:k=k'):EP X pins σ Q (.bool k') s:=by
 subst e;exact ⟨.bl k,H,I,rfl,q⟩
theorem lZ:OpR X (Bp .Lt) (rI0 λi j=>.bl (decide (i < j))):=eZ λ_ _ _ _ _ _ _ q=>lt_int q
theorem lb:OpR X (Bp .LtE) (rI0 λi j=>.bl (decide (i<=j))):=eZ λ_ _ _ _ _ _ _ q=>le_int q
theorem lc:OpR X (Bp .Gt) (rI0 λi j=>.bl (decide (j < i))):=eZ λ_ _ _ _ _ _ _ q=>gt_int q
theorem lf:OpR X (Bp .GtE) (rI0 λi j=>.bl (decide (j<=i))):=eZ λ_ _ _ _ _ _ _ q=>ge_int q
theorem jY:OpR X (Bp .Is) (λx y H Q=>y=.non/\Q (.bl (decide (x=.non))) H):=by
 intro pins s σ H x y v u Q I rx ry h;obtain ⟨rfl,q⟩:=h;cases ry;refine is_none_gen (bV I q ?_)
 cases x <;> first
  | (cases rx;rfl)
  | (obtain ⟨t,rfl⟩:=rx;rfl)
theorem eV:OpR X (Bp .IsNot) (λx y H Q=>y=.non/\Q (.bl (!decide (x=.non))) H):=by
 intro pins s σ H x y v u Q I rx ry h;obtain ⟨rfl,q⟩:=h;cases ry;refine isnot_none_gen (bV I q ?_)
 cases x <;> first
  | (cases rx;rfl)
  | (obtain ⟨t,rfl⟩:=rx;rfl)
theorem OpR.or {f:AD->AD->Sem AD} {r r':R2} (h:OpR X f r) (h':OpR X f r'):OpR X f (λx y H Q=>r x y H Q∨r' x y H Q):=by
 intro pins s σ H x y v u Q I rx ry q
 rcases q with q | q
 ·exact h pins s σ H x y v u Q I rx ry q
 ·exact h' pins s σ H x y v u Q I rx ry q
theorem CM (b:Expr) {op:Sr} (h:op≠.In:=by decide) (h2:op≠.NotIn:=by decide):CJ op b=false:=by
 have e1:(op==Sr.In)=false:=by cases op <;> first | rfl | exact zX rfl h
 have e2:(op==Sr.NotIn)=false:=by cases op <;> first | rfl | exact zX rfl h2
 cases b <;> simp [CJ,e1,e2]
theorem eR {op:Sr} {r:R2} (ho:OpR X (Bp op) r) (ha:PE X a ta) (hb:PE X b tb) (hm:CJ op b=false):PE X (.Compare a [op] [b] pos) (tOp r ta tb):=by
 intro pins s σ H Q I h;exact wpAny_Compare1 (kJ ha hb I h λv u s2 x y H2 I2 rx ry q=>ho pins s2 σ H2 x y v u Q I2 rx ry q) hm
def gc (t:TE):TT:=λσ H Q=>t σ H λx H'=>∃k,x=.bl k/\Q k H'
theorem dm {op:Sr} {r:R2} (ho:OpR X (Bp op) r) (ha:PE X a ta) (hb:PE X b tb) (hm:CJ op b=false):PT X (.Compare a [op] [b] pos) (gc (tOp r ta tb)):=by
 intro pins s σ H Q I h
 refine cE (thn (ha pins s σ H _ I h) λv s1 ⟨x,H1,I1,r1,q1⟩=>thn (hb pins s1 σ H1 _ I1 q1) λu s2 ⟨y,H2,I2,r2,q2⟩=>
  thn (ho pins s2 σ H2 x y v u _ I2 r1 r2 q2) λc s3 ⟨z,H3,I3,r3,k,e,q3⟩=>?_) hm
 subst e;cases r3;exact CT ⟨H3,I3,q3⟩
def Zq (r r':R2) (ta tb tc:TE):TE:=λσ H Q=>ta σ H λx H1=>tb σ H1 λy H2=>r x y H2 λz H3=>∃k,z=.bl k /\
 (if k=true then tc σ H3 λw' H4=>r' y w' H4 Q else Q (.bl false) H3)
theorem aD {op op':Sr} {r r':R2} (ho:OpR X (Bp op) r) (ho':OpR X (Bp op') r') (ha:PE X a ta) (hb:PE X b tb) (hc:PE X c tc)
  (hm:lastMarks [op,op'] [b,c]=false:=by with_unfolding_all rfl):PT X (.Compare a [op,op'] [b,c] pos) (gc (Zq r r' ta tb tc)):=by
 intro pins s σ H Q I h
 refine isTrue_chain (thn (ha pins s σ H _ I h) λv s1 ⟨x,H1,I1,r1,q1⟩=>test_link (thn (hb pins s1 σ H1 _ I1 q1) λu s2 ⟨y,H2,I2,r2,q2⟩=>
  thn (ho pins s2 σ H2 x y v u _ I2 r1 r2 q2) λd s3 ⟨z,H3,I3,r3,k,e,q3⟩=>?_)) hm
 subst e;cases r3;refine CT ?_
 cases k with
 | false=>
  obtain ⟨k',e',q'⟩:=q3;cases e';exact ite_ff ⟨H3,I3,q'⟩
 | true=>
  refine ite_tt (test_last (thn (hc pins s3 σ H3 _ I3 q3) λw' s4 ⟨z',H4,I4,r4,q4⟩=>thn (ho' pins s4 σ H4 y z' u w' _ I4 r2 r4 q4) λd' s5 ⟨z2,H5,I5,r5,k2,e2,q5⟩=>?_));subst e2;cases r5;exact CT ⟨H5,I5,q5⟩
def kL (K:AA) (x:V) (H:Hp) (k:Bool):Prop:=
 match x with
 | .non=>k=false
 | .bl b=>k=b
 | .int i=>k=(i != 0)
 | .str y=>y.length<=sizeLine/\k=((y.length:Int) != 0)
 | .byt y=>y.size<=sizeLine/\k=((y.size:Int) != 0)
 | .ref p=>(∃xs,SqL K H p xs/\k = !xs.isEmpty)∨(∃xs,SqT K H p xs/\k = !xs.isEmpty)∨∃kvs,H p=some (.dK kvs)/\k = !kvs.isEmpty
 | _=>False
theorem Vn {κ:Type} {kvs:List (κ×V)} {vs:List (κ×AD)} (r:KV kvs vs):(!vs.isEmpty) = !kvs.isEmpty:=by
 cases r <;> rfl
theorem Po {xs:List V} {its:List AD} (r:Bd xs its):(!its.toArray.isEmpty) = !xs.isEmpty:=by
 cases r <;> simp
theorem SB:(sizeLine:Nat) < 2 ^ 63:=by rw [Si];decide
theorem iZ:TruR X (λx H Q=>∃k,kL X.K x H k/\Q k H):=by
 intro pins s σ H x v Q I rx h;obtain ⟨k,e,q⟩:=h;have hl:=SB;have hs:sizeLine=16777216:=Si
 cases x with
 | non=>
  cases rx;have e':k=false:=e;subst e';exact truthy_none ⟨H,I,q⟩
 | bl b=>
  cases rx;have e':k=b:=e;subst e';exact CT ⟨H,I,q⟩
 | int i=>
  obtain ⟨t,rfl⟩:=rx;have e':k=(i != 0):=e;subst e';exact PySem.P.truthy_int ⟨H,I,q⟩
 | str y=>
  obtain ⟨t,rfl⟩:=rx;obtain ⟨hy,e'⟩:y.length<=sizeLine/\k=((y.length:Int) != 0):=e;subst e';exact PySem.P.truthy_str (by lia) ⟨H,I.tok _,q⟩
 | byt y=>
  obtain ⟨t,rfl⟩:=rx;obtain ⟨hy,e'⟩:y.size<=sizeLine/\k=((y.size:Int) != 0):=e;subst e';exact PySem.W.truthy_bytes (by lia) ⟨H,I.tok _,q⟩
 | ref p=>
  cases rx
  have e':(∃xs,SqL X.K H p xs/\k = !xs.isEmpty)∨(∃xs,SqT X.K H p xs/\k = !xs.isEmpty)∨∃kvs,H p=some (.dK kvs)/\k = !kvs.isEmpty:=e
  rcases e' with ⟨xs,hx,e'⟩ | ⟨xs,hx,e'⟩ | ⟨kvs,hx,e'⟩
  ·subst e'
   obtain ⟨its,r,pl,hz⟩:=I.list hx;have hlen:=r.length;exact wpAny_truthy_list pl.isList (by simp only [AU];lia) ⟨H,I.tok _,by rw [Po r];exact q⟩
  ·subst e'
   obtain ⟨its,r,pl,hz⟩:=I.tuple hx;have hlen:=r.length;exact truthy_tuple pl (by simp only [AU];lia) ⟨H,I.tok _,by rw [Po r];exact q⟩
  ·subst e'
   obtain ⟨hz,hS,vs,r,m⟩:kvs.length<=sizeLine/\(p==DS)=false/\∃vs,KV kvs vs/\s.heap.DictOf (DW X.prog X.w) p vs:=I.hok p _ hx
   have hlen:kvs.length=vs.length:=EQ r;exact wpAny_truthy_dict hS m (by lia) ⟨H,I.tok _,by rw [Vn r];exact q⟩
 | _=>exact (show False from e).elim
theorem aB (ha:PE X a ta) (he:∀whole,Uk a X.env whole=(do let v <-whole;kR a.pos;kT [v] (g8 v))) :
  PT X a (λσ H Q=>ta σ H λx H'=>∃k,kL X.K x H' k/\Q k H'):=by
 intro pins s σ H Q I h;exact isTrue_plain (thn (ha pins s σ H _ I h) λv s1 ⟨x,H1,I1,r1,q1⟩=>iZ pins s1 σ H1 x v Q I1 r1 q1) (he _)
theorem vals1 {x:V} {us:List AD} (r:Bd [x] us):∃u,us=[u]/\RelV x u:=by
 cases r with
 | cons r1 r2=>cases r2;exact ⟨_,rfl,r1⟩
theorem vals2 {x y:V} {us:List AD} (r:Bd [x,y] us):∃u w',us=[u,w']/\RelV x u/\RelV y w':=by
 cases r with
 | cons r1 r2=>
  cases r2 with
  | cons r3 r4=>cases r4;exact ⟨_,_,rfl,r1,r3⟩
theorem Yl (hc:X.calm=true):HV X (.builtin "max") (λxs H Q=>∃i j,xs=[.int i,.int j]/\Q (.int (if j > i then j else i)) H):=by
 intro pins s σ H xs us Q I r h;obtain ⟨i,j,rfl,q⟩:=h;obtain ⟨u,w',rfl,⟨t,rfl⟩,⟨t',rfl⟩⟩:=vals2 r
 refine max_two_ints (I.ok.hd hc) λh' tk k=>⟨_,H,I.kept k,?_,q⟩
 by_cases hj:j > i
 ·rw [qX hj,qX hj];exact ⟨_,rfl⟩
 ·rw [qY hj,qY hj];exact ⟨_,rfl⟩
theorem Yj (hc:X.calm=true):HV X (.builtin "min") (λxs H Q=>∃i j,xs=[.int i,.int j]/\Q (.int (if j < i then j else i)) H):=by
 intro pins s σ H xs us Q I r h;obtain ⟨i,j,rfl,q⟩:=h;obtain ⟨u,w',rfl,⟨t,rfl⟩,⟨t',rfl⟩⟩:=vals2 r
 refine min_two_ints (I.ok.hd hc) λh' tk k=>⟨_,H,I.kept k,?_,q⟩
 by_cases hj:j < i
 ·rw [qX hj,qX hj];exact ⟨_,rfl⟩
 ·rw [qY hj,qY hj];exact ⟨_,rfl⟩
end
structure Yr (h:Bq) (x dx C:AK) (mA:Str->Option AD):Prop where
 obj:h.get? x=some (Da C dx)
 ns:h.Ns1 dx mA
 ne:dx≠x
theorem X9 {h:Bq} {dx:AK} {mA:Str->Option AD} (n:h.Ns1 dx mA):∃od,h.get? dx=some od/\∀name,Om name od=some (mA name):=by
 obtain ⟨o,es,ep,ho,hd,hk,_,hm⟩:=n;refine ⟨o,ho,λname=>?_⟩;have e:=hm name;unfold nsFind findBy at e;rw [<-Array.find?_toList] at e;unfold Om;rw [hd];dsimp only;split
 ·rename_i y q
  rw [q] at e;exact congrArg some e
 ·rename_i q
  rw [q] at e
  have a:es.toList.any (·.refKey)=false:=by
   rw [List.any_eq_false];intro y hy;obtain ⟨z,t,hkey⟩:=hk y (BR.mp hy);simp [Nb.refKey,hkey]
  have a':¬es.toList.any (·.refKey)=true:=by rw [a];exact AR
  rw [qY a'];exact congrArg some e
theorem Yr.look {h:Bq} {x dx C:AK} {mA:Str->Option AD} (I:Yr h x dx C mA):∃od,ZG h x (Da C dx) C (some od)/\∀name,Om name od=some (mA name):=
 let ⟨od,ho,hl⟩:=X9 I.ns
 ⟨od,⟨I.obj,rfl,rfl,ho⟩,hl⟩
section
variable {prog:Aq} {w:BF} {A:BA} {E:AD->AG->Prop} {s:AG} {K:AA} {x dx C f:AK} {mA:Str->Option AD} {name:Str} {v:AD}
theorem fO {expr:Bool} {Q:AD->AG->Prop} (X:K.In s.heap) (I:Yr s.heap x dx C mA) (hg:Mz K C name=true) (hh:MA K C=true)
  (ha:CZ K (.ref C) name=some none) (hv:mA name=some v) (hv':XS v=true) (h:Q v { s with toks:=s.toks+1 }) :
  Al (AZ prog w) A (getAttr (.ref x) name expr) Q E s:=by
 obtain ⟨od,J,hl⟩:=I.look;exact PySem.W.get_value X J (PySem.W.plainGet_of hg).1 (PySem.W.findObj_own hh ha rfl (by rw [hl,hv])) hv' h
theorem da {ns:List Str} {Q:Unit->AG->Prop} (X:K.In s.heap) (I:Yr s.heap x dx C mA)
  (hs:CZ K (.ref C) "__setattr__" = some (some (.builtin "object.__setattr__"))) (hp:WD K C=true) (ht:N4 K C name=some none) (hh:MA K C=true)
  (hw:Sx mA ns) (hsz:ns.length<=sizeLine)
  (h:∀h',Yr h' x dx C (λy=>if y=name then some v else mA y)->EI dx s.heap h'->Q () { s with heap:=h',toks:=s.toks+2 }) :
  Al (AZ prog w) A (setAttr (.ref x) name v) Q E s:=by
 obtain ⟨od,J,hl⟩:=I.look;refine PySem.W.set_plain X J hs (PySem.W.osa_open (s:={ s with toks:=s.toks+1 }) (r:=none) X J hp ht λb=>?_);obtain ⟨cd,hc,hd'⟩:=PySem.W.any_some hh;have hx:s.heap.get? x=some ⟨.ref C,some dx,.plain,#[]⟩:=I.obj;refine AB (AM (AB (AB (wpAny_loadPart hx (AB (km (s:={ s with toks:=s.toks+1 }) (PySem.W.looks_clsIn X hc) ?_))))));rw [hd'];refine AM (a:=some dx) (AB (AM (AB ?_)))
 refine wpAny_nsSet1 (s:={ s with toks:=s.toks+1 }) I.ns λh' hn2 hs2=>?_
 obtain ⟨oD,esD,epD,hoD,hdD,hcD⟩:=hn2.count (mz name v hw);refine AB (wpAny_lookBehind hoD (by rw [hdD];exact pastItsLine_dict (Ax hcD (by rw [A6];lia))) ?_);exact AM (h _ ⟨(hs2.2 _ (Bw I.ne)).trans I.obj,hn2,I.ne⟩ hs2)
theorem ak {R:ZF->AG->Prop} {vs:List AD} {kw:List (Str×AD)} (X:K.In s.heap) (hm:Yy K C=true)
  (hi:CZ K (.ref C) "__init__" = some (some (.ref f))) (hf:PySem.W.typeIn K (.ref f)=some (.type "function"))
  (h:J9 (AZ prog w) (A.under (.builtin "type.__call__" ⟨.ref C :: vs,kw⟩)) (.call (.ref f) ⟨.ref (s.heap.objs.size+1) :: vs,kw⟩) (PySem.W.InitBack (s.heap.objs.size+1) R)
   { s with heap:=(s.heap.push Ca).push (Da C s.heap.objs.size) }) :
  J9 (AZ prog w) A (.call (.ref C) ⟨vs,kw⟩) R s:=by
 obtain ⟨hh,g,d,t,os⟩:=s;exact PySem.W.make_core (PySem.W.makes_of X hm) (KC X hi) (λself=>PySem.W.bind_fn X self hf) (.inl rfl) h
end
def putF (f:Str) (v:V):List (Str×V)->List (Str×V)
 | []=>[(f,v)]
 | (g,x) :: r=>if g=f then (g,v) :: r else (g,x) :: putF f v r
theorem No (f g:Str) (v:V):∀fs:List (Str×V),(putF f v fs).lookup g=if g=f then some v else fs.lookup g
 | []=>by
  show HS g [(f,v)]=_
  by_cases h:g=f
  ·have hb:(g==f)=true:=beq_iff_eq.mpr h
   simp only [HS,hb,qX h]
  ·have hb:(g==f)=false:=beq_eq_false_iff_ne.mpr h
   simp only [HS,hb,qY h]
 | (k,x) :: r=>by
  have ih:=No f g v r;rw [show putF f v ((k,x) :: r)=(if k=f then (k,v) :: r else (k,x) :: putF f v r) from rfl]
  by_cases hk:k=f
  ·rw [qX hk]
   by_cases h:g=k
   ·have hb:(g==k)=true:=beq_iff_eq.mpr h
    simp only [HS,hb,qX (h.trans hk)]
   ·have hb:(g==k)=false:=beq_eq_false_iff_ne.mpr h
    simp only [HS,hb,qY (λe:g=f=>h (e.trans hk.symm))]
  ·rw [qY hk]
   by_cases h:g=k
   ·have hb:(g==k)=true:=beq_iff_eq.mpr h
    simp only [HS,hb,qY (λe:g=f=>hk (h.symm.trans e))]
   ·have hb:(g==k)=false:=beq_eq_false_iff_ne.mpr h
    simp only [HS,hb];exact ih
theorem NP (f:Str) (v:V):∀fs:List (Str×V),f∈(putF f v fs).map (·.1)/\∀g,g∈fs.map (·.1)->g∈(putF f v fs).map (·.1)
 | []=>⟨by simp [putF],λg h=>by simp at h⟩
 | (k,x) :: r=>by
  obtain ⟨i1,i2⟩:=NP f v r;rw [show putF f v ((k,x) :: r)=(if k=f then (k,v) :: r else (k,x) :: putF f v r) from rfl]
  by_cases hk:k=f
  ·rw [qX hk]
   subst hk;exact ⟨by simp,λg h=>by simpa using h⟩
  ·rw [qY hk]
   refine ⟨?_,λg h=>?_⟩
   ·rw [A5]
    exact AW _ i1
   ·rw [A5] at h ⊢
    rcases Au.mp h with e | e
    ·exact Au.mpr (.inl e)
    ·exact AW _ (i2 g e)
theorem Np (f:Str) (v:V):∀fs:List (Str×V),(putF f v fs).length<=fs.length+1
 | []=>by simp [putF]
 | (k,x) :: r=>by
  have ih:=Np f v r;rw [show putF f v ((k,x) :: r)=(if k=f then (k,v) :: r else (k,x) :: putF f v r) from rfl]
  by_cases hk:k=f
  ·rw [qX hk,A6,A6];lia
  ·rw [qY hk,A6,A6];lia
theorem NX.some_of {v:V} {o:Option AD} (r:NX (some v) o):∃u,o=some u/\RelV v u:=by
 cases o with
 | none=>exact (show False from r).elim
 | some u=>exact ⟨u,rfl,r⟩
theorem YL {v:V} {u:AD} (r:RelV v u):XS u=true:=by
 cases v with
 | non=>cases (show u=BQ from r);rfl
 | bl b=>cases (show u=L8 b from r);rfl
 | int i=>obtain ⟨t,e⟩:=(show ∃t,u=N2 i t from r);cases e;rfl
 | str x=>obtain ⟨t,e⟩:=(show ∃t,u=N1 x t from r);cases e;rfl
 | byt b=>obtain ⟨t,e⟩:=(show ∃t,u=kY b t from r);cases e;rfl
 | flt b=>obtain ⟨t,e⟩:=(show ∃t,u=Ur b t from r);cases e;rfl
 | ref a=>cases (show u=A0 a from r);rfl
 | ty n=>cases (show u=EF n from r);rfl
section
variable {P:Aq} {w:BF} {H H':Hp} {h h':Bq} {a C dx:AK} {fs fs':List (Str×V)}
theorem SF (hok:HOk P w H h) (e:H a=some (.ins C dx fs)):∃mA,Yr h a dx C mA/\(∀f,NX (fs.lookup f) (mA f))/\Sx mA (fs.map (·.1))/\fs.length<=1000/\H dx=some (.own a):=by
 obtain ⟨d,z,ne,ob,mA,n,r,q⟩:=(show Ct P w H h a (.ins C dx fs) from hok a _ e);exact ⟨mA,⟨ob,n,ne⟩,r,q,z,d⟩
end
structure Cls (K:AA) (C:AK):Prop where
 pg:Mz K C UX=true
 hd:MA K C=true
 po:WD K C=true
 sa:CZ K (.ref C) "__setattr__" = some (some (.builtin "object.__setattr__"))
theorem Cls.get {K:AA} {C:AK} (c:Cls K C) (f:Str):Mz K C f=true:=c.pg
def IG (K:AA) (C:AK) (f:Str):Prop:=CZ K (.ref C) f=some none
theorem IG.taker {K:AA} {C:AK} {f:Str} (n:IG K C f):N4 K C f=some none:=by
 unfold N4;rw [show CZ K (.ref C) f=some none from n];rfl
section
variable {X:Cx} {pins:List (AK×Obj)} {σ:St} {H:Hp} {s:AG} {a C dx:AK} {fs:List (Str×V)} {f:Str} {v:V} {A:BA} {E:AD->AG->Prop}
theorem Vu {b:Bool} {Q:AD->AG->Prop} (I:Inv X pins σ H s) (e:H a=some (.ins C dx fs)) (c:Cls X.K C) (n:IG X.K C f) (l:fs.lookup f=some v)
  (h:∀u s',Inv X pins σ H s'->RelV v u->Q u s'):Al (AZ X.prog X.w) A (getAttr (.ref a) f b) Q E s:=by
 obtain ⟨mA,O,r,_,_,_⟩:=SF I.hok e;obtain ⟨u,hu,ru⟩:=NX.some_of (v:=v) (o:=mA f) (by rw [<-l];exact r f);exact fO I.kIn O (c.get f) c.hd n hu (YL ru) (h u _ (I.tok _) ru)
theorem VQ {y:V} {u:AD} {Q:Unit->AG->Prop} (I:Inv X pins σ H s) (e:H a=some (.ins C dx fs)) (c:Cls X.K C) (n:IG X.K C f) (hl:fs.length < 1000) (ry:RelV y u)
  (h:∀s',Inv X pins σ (upd H a (.ins C dx (putF f y fs))) s'->Q () s'):Al (AZ X.prog X.w) A (setAttr (.ref a) f u) Q E s:=by
 obtain ⟨mA,O,r,wi,_,ho⟩:=SF I.hok e
 have hz:(fs.map (·.1)).length<=sizeLine:=by rw [AH,Si];lia
 refine da I.kIn O c.sa c.po n.taker c.hd wi hz λh' O' sb=>h _ ?_
 have hd:∃o,h'.get? dx=some o:=let ⟨o,_,_,e',_⟩:=O'.ns;⟨o,e'⟩
 refine I.write (x:=a) (e:=dx) (by rw [e];exact Cv) (.inr ho) (λb q hb z=>(sb.2 b hb).trans z) hd ?_;refine ⟨by rw [By O.ne];exact ho,?_,O.ne,O'.obj,_,O'.ns,λg=>?_,λg hg=>?_⟩
 ·have:=Np f y fs;lia
 ·show NX ((putF f y fs).lookup g) (if g=f then some u else mA g)
  rw [No]
  by_cases q:g=f
  ·rw [qX q,qX q];exact ry
  ·rw [qY q,qY q];exact r g
 ·by_cases q:g=f
  ·rw [q];exact (NP f y fs).1
  ·refine (NP f y fs).2 g (wi g λz=>hg ?_)
   show (if g=f then some u else mA g)=none;rw [qY q];exact z
theorem Inv.made (I:Inv X pins σ H s):Inv X pins σ (upd (upd H s.heap.objs.size (.own (s.heap.objs.size+1))) (s.heap.objs.size+1) (.ins C s.heap.objs.size []))
  { s with heap:=(s.heap.push Ca).push (Da C s.heap.objs.size) }:=by
 have e1:(s.heap.push Ca).get? s.heap.objs.size=some Ca:=Ah s.heap rfl
 have e2:((s.heap.push Ca).push (Da C s.heap.objs.size)).get? (s.heap.objs.size+1)=some (Da C s.heap.objs.size):=by
  have:=Ah (s.heap.push Ca) (o:=Da C s.heap.objs.size) rfl;rwa [Cd] at this
 have e3:(s.heap.push Ca).Ns s.heap.objs.size (λ_=>none):=⟨Ca,#[],_,e1,rfl,(λe he=>zX he (by simp)),λ_=>rfl⟩;have I1:=I.laid (a:=s.heap.objs.size) (o:=.own (s.heap.objs.size+1)) (h':=s.heap.push Ca) (t':=s.toks) (λb u q=>AI _ q) (AL _) ⟨_,e1⟩;refine I1.laid (a:=s.heap.objs.size+1) (o:=.ins C s.heap.objs.size []) (t':=s.toks) (λb u q=>AI _ q) (Uv (Cd _ _)) ?_;have ne:s.heap.objs.size≠s.heap.objs.size+1:=Ak (CU _);refine ⟨by rw [By ne,Bj],Cm _,ne,e2,λ_=>none,(Bq.Ns1.of_empty e3).at λo q=>AI _ q,λ_=>Cv,λy hy=>zX rfl hy⟩
theorem ft {prog:Aq} {w:BF} {env:Env} {e:Expr} {f:Str} {pos:Pos} {s:AG} {Q:AD->AG->Prop} (hb:EC e f env (Bm e env)=Bm e env)
  (h:Al (AZ prog w) A (Bm e env) (λo s₁=>Al (AZ prog w) A (getAttr o f true) Q E s₁) E s):Al (AZ prog w) A (Bm (.Attribute e f pos) env) Q E s:=
 Attribute_any_ h (by rw [arm_eval_Attribute,hb])
end
def tFld (K:AA) (ta:TE) (f:Str):TE:=λσ H Q=>ta σ H λx H1=>∃a C dx fs v,x=.ref a/\H1 a=some (.ins C dx fs)/\Cls K C/\IG K C f/\fs.lookup f=some v/\Q v H1
def sFld (K:AA) (ta tv:TE) (f:Str):TS:=λD σ H=>tv σ H λy H1=>ta σ H1 λx H2=>∃a C dx fs,x=.ref a/\H2 a=some (.ins C dx fs)/\Cls K C/\IG K C f/\fs.length < 1000 /\
 D.nx σ (upd H2 a (.ins C dx (putF f y fs)))
section
variable {X:Cx} {o e value:Expr} {f:Str} {pos pos' tpos:Pos} {ta tv:TE}
theorem jQ (he:PE X e ta) (hb:EC e f X.env (Bm e X.env)=Bm e X.env):PE X (.Attribute e f pos) (tFld X.K ta f):=by
 intro pins s σ H Q I h;refine ft hb (thn (he pins s σ H _ I h) λu s1 ⟨x,H1,I1,rx,a,C,dx,fs,v,ex,ea,c,n,l,q⟩=>?_);subst ex;obtain rfl:u=A0 a:=rx
 exact Vu I1 ea c n l λu' s2 I2 ru=>⟨v,H1,I2,ru,q⟩
theorem jE (ha:PE X o ta) (hv:PE X value tv) (hs:Fo value (some (.Attribute o f pos')) pos.line X.env=pure false):PS X (.Assign [.Attribute o f pos'] value pos) (sFld X.K ta tv f):=by
 intro pins s σ H D I h;refine plainObj_wpAny_Assign_Attribute (thn (hv pins s σ H _ I h) λu s1 ⟨y,H1,I1,ry,q⟩=>thn (ha pins s1 σ H1 _ I1 q) λov s2 ⟨x,H2,I2,rx,a,C,dx,fs,ex,ea,c,n,l,q2⟩=>?_) hs;subst ex;obtain rfl:ov=A0 a:=rx
 exact VQ I2 ea c n l ry λs3 I3=>⟨σ,_,I3,q2⟩
end
section
variable {X:Cx} {pins:List (AK×Obj)} {σ:St} {H:Hp} {s:AG} {A:BA} {E:AD->AG->Prop} {Q:AD->AG->Prop} {c:AD} {b:Bool}
inductive Mp (K:AA) (H:Hp):V->AD->Prop where
 | non:Mp K H .non (.type "NoneType")
 | bl (x:Bool):Mp K H (.bl x) (.type "bool")
 | int (i:Int):Mp K H (.int i) (.type "int")
 | str (x:Str):Mp K H (.str x) (.type "str")
 | flt (x:UInt64):Mp K H (.flt x) (.type "float")
 | lst {a:AK} {xs:List V} (e:H a=some (.lst xs)):Mp K H (.ref a) (.type "list")
 | frz {a:AK} {o:Obj} {xs:List V} (e:H a=some (.frz o (.lst xs))):Mp K H (.ref a) (.type "list")
 | tup {a:AK} {xs:List V} (e:H a=some (.tup xs)):Mp K H (.ref a) (.type "tuple")
 | dK {a:AK} {kvs:List (Key×V)} (e:H a=some (.dK kvs)):Mp K H (.ref a) (.type "dict")
 | dT {a:AK} {kvs:List (List Key×V)} (e:H a=some (.dT kvs)):Mp K H (.ref a) (.type "dict")
 | ins {a C dx:AK} {fs:List (Str×V)} (e:H a=some (.ins C dx fs)) (cl:Cls K C) (ha:CZ K (.ref C) "__class__" = some (some (.builtin "object.__class__")))
   (hn:WC K (.builtin "object.__class__") "__get__" = some (some (.builtin "getset_descriptor.__get__"))) (htk:Yx K (.builtin "object.__class__")=some true)
   (hm:LF K C (.type "object")=some true):Mp K H (.ref a) (.ref C)
theorem YG {x:V} {u t:AD} (I:Inv X pins σ H s) (rx:RelV x u) (ty:Mp X.K H x t) (e:CY X.K t c=some b) (h:∀tk,Q (.bool b) { s with toks:=tk }) :
  Al (AZ X.prog X.w) A (call (.builtin "isinstance") [u,c]) Q E s:=by
 cases ty with
 | non=>cases (show u=BQ from rx);exact B8 PySem.W.kitx_none I.kIn Cv e (λz=>nomatch z) h
 | bl y=>cases (show u=L8 y from rx);exact B8 PySem.W.kitx_bool I.kIn Cv e (λz=>nomatch z) h
 | int i=>obtain ⟨t,q⟩:=(show ∃t,u=N2 i t from rx);cases q;exact B8 PySem.W.kitx_int I.kIn Cv e (λz=>nomatch z) h
 | str y=>obtain ⟨t,q⟩:=(show ∃t,u=N1 y t from rx);cases q;exact B8 PySem.W.kitx_str I.kIn Cv e (λz=>nomatch z) h
 | flt y=>obtain ⟨t,q⟩:=(show ∃t,u=Ur y t from rx);cases q;exact B8 PySem.W.kitx_float I.kIn Cv e (λz=>nomatch z) h
 | @lst a xs ea=>
  cases (show u=A0 a from rx);obtain ⟨_,_,n,_,h1⟩:=(show Ct X.prog X.w H s.heap a (.lst xs) from I.hok a _ ea);exact B8 WE I.kIn ⟨_,h1,rfl⟩ e (λz=>nomatch z) h
 | @frz a ob xs ea=>
  cases (show u=A0 a from rx);obtain ⟨_,_,_,n,_,h1⟩:=(show Ct X.prog X.w H s.heap a (.frz ob (.lst xs)) from I.hok a _ ea);exact B8 WE I.kIn ⟨_,h1,rfl⟩ e (λz=>nomatch z) h
 | @tup a xs ea=>
  cases (show u=A0 a from rx);obtain ⟨_,_,_,p⟩:=(show Ct X.prog X.w H s.heap a (.tup xs) from I.hok a _ ea);obtain ⟨o,h1,h2,_⟩:=p;exact B8 PySem.W.kitx_tuple I.kIn ⟨o,h1,h2⟩ e (λz=>nomatch z) h
 | @dK a kvs ea=>
  cases (show u=A0 a from rx);obtain ⟨_,_,vs,_,p⟩:=(show Ct X.prog X.w H s.heap a (.dK kvs) from I.hok a _ ea);obtain ⟨o,es,ep,h1,h2,_⟩:=p;exact B8 WF I.kIn ⟨o,h1,h2.1⟩ e (λz=>nomatch z) h
 | @dT a kvs ea=>
  cases (show u=A0 a from rx);obtain ⟨_,_,xs,_,o,es,ep,h1,h2,_⟩:=(show Ct X.prog X.w H s.heap a (.dT kvs) from I.hok a _ ea);exact B8 WF I.kIn ⟨o,h1,h2.1⟩ e (λz=>nomatch z) h
 | @ins a C dx fs ea cl ha hn htk hm=>
  cases (show u=A0 a from rx);obtain ⟨mA,O,_⟩:=SF I.hok ea;obtain ⟨od,J,_⟩:=O.look;exact B8 (PySem.W.kitx_own (cl.get _) cl.hd ha hn htk hm) I.kIn J e (λz=>nomatch z) h
end
structure HQ (k:Nat) (A:BA):Prop where
 hd:A.handled=none
 dp:A.depth+3 * k+5 < recursionLimit
 un:A.units+16 * k+200 < Eb
theorem HQ.mono {j k:Nat} {A:BA} (r:HQ k A) (h:j<=k):HQ j A:=⟨r.hd,by have:=r.dp;lia,by have:=r.un;lia⟩
theorem HQ.deeper {k:Nat} {A:BA} (r:HQ (k+1) A) (env:Env):HQ k (A.deeper env):=
 ⟨r.hd,by have:=r.dp;show A.depth+1+3 * k+5 < _;lia,by have:=r.un;show A.units+3+16 * k+200 < _;lia⟩
theorem Vk {A:BA} {C:AK} {us:List AD} {kw:List (Str×AD)}:(A.under (.builtin "type.__call__" ⟨.ref C :: us,kw⟩)).depth=A.depth+1:=by
 first | rfl | simp [Ss,Code.weight,Code.isCreation,Code.isGuard,Code.isCaller,kr,Uf,guardIds]
theorem Vj {A:BA} {C:AK} {us:List AD} {kw:List (Str×AD)}:(A.under (.builtin "type.__call__" ⟨.ref C :: us,kw⟩)).units=A.units+1:=by
 first | rfl | simp [Ss,Code.cUnits,kr,Uf]
theorem HQ.make {k:Nat} {A:BA} (r:HQ (k+1) A) (C:AK) (us:List AD) (kw:List (Str×AD)):HQ k (A.under (.builtin "type.__call__" ⟨.ref C :: us,kw⟩)):=
 ⟨r.hd,by have:=r.dp;rw [Vk];lia,by have:=r.un;rw [Vj];lia⟩
theorem HQ.depth {k:Nat} {A:BA} (r:HQ k A):A.depth < recursionLimit:=by have:=r.dp;lia
theorem HQ.units {k:Nat} {A:BA} (r:HQ k A):A.units+64 < Eb:=by have:=r.un;lia
def tNil:TA:=λ_ H Q=>Q [] H
def lJ (ta:TE) (tr:TA):TA:=λσ H Q=>ta σ H λx H1=>tr σ H1 λxs H2=>Q (x :: xs) H2
section
variable {X:Cx} {e:Expr} {es:List Expr} {te:TE} {t:TA} {pos:Pos}
theorem HH:PA X [] tNil:=λ_ _ _ _ H Q I h=>Iu ⟨[],H,I,.nil,h⟩
theorem Ez (ha:PE X e te) (hr:PA X es t) (hs:AS (e :: es) X.env=(false,Bm e X.env) :: AS es X.env:=by rfl):PA X (e :: es) (lJ te t):=by
 intro pos pins s σ H Q I h;rw [hs];show Al _ _ (ZB ((false,Bm e X.env) :: DX pos (AS es X.env))) _ _ s;refine IL (thn (ha pins s σ H _ I h) λu s1 ⟨x,H1,I1,r1,q1⟩=>?_)
 exact thn (hr pos pins s1 σ H1 _ I1 q1) λus s2 ⟨xs,H2,I2,r2,q2⟩=>⟨x :: xs,H2,I2,.cons r1 r2,q2⟩
def tTup (t:TA):TE:=λσ H Q=>t σ H λxs H1=>xs.length<=sizeLine/\∀p,H1 p=none->Q (.ref p) (upd H1 p (.tup xs))
def tLst (t:TA):TE:=λσ H Q=>t σ H λxs H1=>xs.length<=sizeLine/\∀p,H1 p=none->Q (.ref p) (upd H1 p (.lst xs))
theorem jJ {x1} (h:PA X es t):PE X (.Tuple es x1 pos) (tTup t):=by
 intro pins s σ H Q I hq;refine wpAny_Tuple_spliced (thn (h pos pins s σ H _ I hq) λus s1 ⟨xs,H1,I1,r,z,q⟩=>⟨by rw [<-r.length];exact z,?_⟩);have hf:H1 s1.heap.objs.size=none:=I1.hok.fresh (AL _);refine ⟨.ref s1.heap.objs.size,upd H1 s1.heap.objs.size (.tup xs),I1.laid (t':=s1.toks) (λb u e=>AI _ e) (AL _) ?_,rfl,q _ hf⟩;exact ⟨z,us,r,⟨_,Ah _ rfl,rfl,_,rfl⟩⟩
theorem jO (h:PA X es t):PE X (.List es pos) (tLst t):=by
 intro pins s σ H Q I hq;refine wpAny_List_spliced (thn (h pos pins s σ H _ I hq) λus s1 ⟨xs,H1,I1,r,z,q⟩=>⟨by rw [<-r.length];exact z,?_⟩);have hf:H1 s1.heap.objs.size=none:=I1.hok.fresh (AL _);refine ⟨.ref s1.heap.objs.size,upd H1 s1.heap.objs.size (.lst xs),I1.laid (t':=s1.toks) (λb u e=>AI _ e) (AL _) ?_,rfl,q _ hf⟩;exact ⟨z,us,0,r,Ah _ rfl⟩
end
abbrev Sp:=List V->Hp->VK->XK->Prop
abbrev CXT:=List Env->Hp->AG->XK->AD->AG->Prop
structure WA (P:Aq) (w:BF) (K:AA) (mg:Str->Option AD) (base:Bq) (A:BA) (outer:List Env) (s:AG) (H:Hp):Prop where
 frames:A.frames=some outer
 mod:Mod K mg base
 bs:∀b o,base.get? b=some o->s.heap.get? b=some o/\H b=none
 bsz:base.objs.size<=s.heap.objs.size
 funs:s.heap.FunFrames base outer
 frf:∀b∈frs outer,H b=none
 hok:HOk P w H s.heap
 bare:II s.gens
def CE (outer:List Env) (P:Aq) (w:BF) (H:Hp) (s:AG) (Q:VK) (u:AD) (s':AG):Prop:=
 ∃v H',s'.os=s.os/\II s'.gens/\Un (frs outer) [] H H' s.heap s'.heap/\HOk P w H' s'.heap/\RelV v u/\Q v H'
def CR (CX:CXT) (outer:List Env) (P:Aq) (w:BF) (H:Hp) (s:AG) (Q:VK) (E:XK) (r:ZF) (s':AG):Prop:=
 match r with
 | .ok (.ret u)=>CE outer P w H s Q u s'
 | .ok _=>False
 | .error e=>CX outer H s E e s'
structure Dp (P:Aq) (w:BF) (K:AA) (mg:Str->Option AD) (base:Bq) (CX:CXT) (k:Nat) (f:AK) (fd:Dh) (ps:List Str) (sp:Sp):Prop where
 len:∀vs H Q E,sp vs H Q E->vs.length=ps.length
 run:∀(A:BA) (outer:List Env) (s:AG) (H:Hp) (args:Args) (us:List AD) (vs:List V) (Q:VK) (E:XK),HQ k A->WA P w K mg base A outer s H->Ug s fd args (ps.zip us)->Bd vs us->sp vs H Q E ->
  J9 (AZ P w) A (.call (.ref f) args) (CR CX outer P w H s Q E) s
theorem Dp.imp {P:Aq} {w:BF} {K:AA} {mg:Str->Option AD} {base:Bq} {CX:CXT} {k:Nat} {f:AK} {fd:Dh} {ps:List Str} {sp sp':Sp} (F:Dp P w K mg base CX k f fd ps sp)
  (h:∀vs H Q E,sp' vs H Q E->sp vs H Q E):Dp P w K mg base CX k f fd ps sp':=
 ⟨λvs H Q E q=>F.len vs H Q E (h _ _ _ _ q),λA outer s H args us vs Q E hr he hb hv hs=>F.run A outer s H args us vs Q E hr he hb hv (h _ _ _ _ hs)⟩
theorem WA.make {P:Aq} {w:BF} {K:AA} {mg:Str->Option AD} {base:Bq} {A:BA} {outer:List Env} {s:AG} {H:Hp} (e:WA P w K mg base A outer s H) (C:AK) (us:List AD) (kw:List (Str×AD)) :
  WA P w K mg base (A.under (.builtin "type.__call__" ⟨.ref C :: us,kw⟩)) outer s H:=⟨by first | exact e.frames | (simpa [Ss,Code.envs,Uf,pushEnvs] using e.frames),e.mod,e.bs,e.bsz,e.funs,e.frf,e.hok,e.bare⟩
section
variable {X:Cx} {pins:List (AK×Obj)} {σ:St} {H:Hp} {s s':AG}
theorem Inv.env0 (I:Inv X pins σ H s):WA X.prog X.w X.K X.mg X.base X.A X.stack s H:=
 ⟨I.ok.frames,I.ok.mod,I.bs,Ax I.ok.bsz I.sz,I.stack,I.stkFree,I.hok,I.bare⟩
theorem Inv.after {Q:VK} {u:AD} (I:Inv X pins σ H s) (h:CE X.stack X.prog X.w H s Q u s'):EP X pins σ Q u s':=by
 obtain ⟨v,H',os,bare,un,hok,r,q⟩:=h;obtain ⟨hh,g,d,t,os'⟩:=s';obtain rfl:os'=s.os:=os;exact ⟨v,H',I.call (h':=hh) (g':=g) (d':=d) (t':=t) (ch:=[]) un hok bare (λb z=>zX z (by simp)),r,q⟩
end
def lK (sp:Sp) (dvs:List V) (E:St->XK) (t:TA):TE:=λσ H Q=>t σ H λvs H1=>sp (vs++dvs) H1 Q (E σ)
def lD (C:AK) (sp:Sp) (dvs:List V) (E:St->XK) (t:TA):TE:=λσ H Q=>t σ H λvs H1=>∀x dx,H1 x=none->H1 dx=none->dx≠x ->
 sp (.ref x :: (vs++dvs)) (upd (upd H1 dx (.own x)) x (.ins C dx [])) (λv H2=>v=.non/\Q (.ref x) H2) (E σ)
def Binds (K:AA) (fd:Dh) (ps:List Str) (ds:List AD):Prop:=
 ∀(s:AG) (us:List AD),K.In s.heap->(us++ds).length=ps.length->Ug s fd ⟨us,[]⟩ (ps.zip (us++ds))
theorem Binds.all {K:AA} {fd:Dh} {ps:List Str} (h:∀us:List AD,us.length=ps.length->bindArgs fd ⟨us,[]⟩=pure (ps.zip us)):Binds K fd ps []:=λs us _ hl=>by
 rw [BJ] at hl ⊢;exact .of_eq (h us hl)
def Lv (CX:CXT) (X:Cx) (E:St->XK):Prop:=∀(pins:List (AK×Obj)) (σ:St) (H:Hp) (s:AG) (e:AD) (s':AG),Inv X pins σ H s->CX X.stack H s (E σ) e s'->X.xe e s'
section
variable {X:Cx} {CX:CXT} {k:Nat} {f C:AK} {fd:Dh} {ps:List Str} {sp:Sp} {dvs:List V} {ds:List AD} {E:St->XK} {x m:Str} {p pos apos:Pos} {e o:Expr} {es:List Expr} {ta:TE} {t:TA}
theorem iu {pins:List (AK×Obj)} {σ:St} {H:Hp} {s:AG} {Q:VK} {us:List AD} {vs:List V} (F:Dp X.prog X.w X.K X.mg X.base CX k f fd ps sp) (hr:HQ k X.A) (hb:Binds X.K fd ps ds) (hd:Bd dvs ds) (hx:Lv CX X E)
  (I:Inv X pins σ H s) (r:Bd vs us) (h:sp (vs++dvs) H Q (E σ)):Al (AZ X.prog X.w) X.A (call (.ref f) us) (EP X pins σ Q) X.xe s:=by
 have r2:Bd (vs++dvs) (us++ds):=r.append hd
 have hl:(us++ds).length=ps.length:=by rw [<-r2.length];exact F.len _ _ _ _ h
 refine Oi (Ix (F.run X.A X.stack s H ⟨us,[]⟩ (us++ds) (vs++dvs) Q (E σ) hr I.env0 (hb s us I.kIn hl) r2 h) λr s' hq=>?_)
 cases r with
 | error e=>exact hx pins σ H s e s' I hq
 | ok fl=>
  cases fl with
  | ret u=>exact I.after hq
  | next=>exact Dr hq
  | brk=>exact Dr hq
  | cont=>exact Dr hq
theorem eS (F:Dp X.prog X.w X.K X.mg X.base CX k f fd ps sp) (hr:HQ k X.A) (hg:Gl X x) (hm:X.mg x=some (.ref f)) (hk:Fu X.K (.ref f)=true) (hb:Binds X.K fd ps ds) (hd:Bd dvs ds) (hx:Lv CX X E)
  (ha:PA X (e :: es) t) (hdb:(x==("__debug__" : Str))=false:=by decide) (he:AS (e :: es) X.env=(false,Bm e X.env) :: AS es X.env:=by rfl) (hpl:(DX pos (AS es X.env)).any (·.1)=false:=by rfl) :
  PE X (.Call (.Name x p) (e :: es) [] pos) (lK sp dvs E t):=by
 intro pins s σ H Q I h;refine C6 (OZ I hg hm ?_ hdb);refine Uu (h₀:=X.base) I.ok.mod.kin hk (thn (ha pos pins s σ H _ I h) λus s1 ⟨vs,H1,I1,r,q⟩=>⟨I1.kIn,?_⟩) he hpl;exact iu F hr hb hd hx I1 r q
structure Mk (K:AA) (C f:AK):Prop where
 makes:Yy K C=true
 init:CZ K (.ref C) "__init__" = some (some (.ref f))
 fn:PySem.W.isFn K (.ref f)=true
 kp:Fu K (.ref C)=true
theorem Z3 {pins:List (AK×Obj)} {σ:St} {H:Hp} {s:AG} {Q:VK} {us:List AD} {vs:List V} (M:Mk X.K C f) (F:Dp X.prog X.w X.K X.mg X.base CX k f fd ps sp) (hr:HQ (k+1) X.A) (hb:Binds X.K fd ps ds) (hd:Bd dvs ds)
  (hx:Lv CX X E) (I:Inv X pins σ H s) (r:Bd vs us)
  (h:∀x dx,H x=none->H dx=none->dx≠x->sp (.ref x :: (vs++dvs)) (upd (upd H dx (.own x)) x (.ins C dx [])) (λv H2=>v=.non/\Q (.ref x) H2) (E σ)) :
  Al (AZ X.prog X.w) X.A (call (.ref C) us) (EP X pins σ Q) X.xe s:=by
 have hq:=h (s.heap.objs.size+1) s.heap.objs.size (I.hok.fresh (GU _)) (I.hok.fresh (AL _)) (Ak (CU _));have I2:=Inv.made (C:=C) I;have r2:Bd (V.ref (s.heap.objs.size+1) :: (vs++dvs)) (A0 (s.heap.objs.size+1) :: (us++ds)):=.cons rfl (r.append hd)
 have hl:(A0 (s.heap.objs.size+1) :: us++ds).length=ps.length:=by
  have e:=r2.length;rw [F.len _ _ _ _ hq] at e;exact e.symm
 refine Oi (ak (f:=f) I.kIn M.makes M.init (beq_iff_eq.mp M.fn) (Ix (F.run _ X.stack _ _ ⟨A0 (s.heap.objs.size+1) :: us,[]⟩ (A0 (s.heap.objs.size+1) :: (us++ds)) _ _ (E σ) (hr.make C us [])
  (I2.env0.make C us []) (hb _ (A0 (s.heap.objs.size+1) :: us) I2.kIn hl) r2 hq) λr s' hq'=>?_))
 cases r with
 | error e=>exact hx pins σ _ _ e s' I2 hq'
 | ok fl=>
  cases fl with
  | ret u=>
   obtain ⟨v,H',I3,rv,ev,q3⟩:=I2.after hq';subst ev;exact ⟨rv,⟨V.ref (s.heap.objs.size+1),H',I3,rfl,q3⟩⟩
  | next=>exact Dr hq'
  | brk=>exact Dr hq'
  | cont=>exact Dr hq'
theorem eI (M:Mk X.K C f) (F:Dp X.prog X.w X.K X.mg X.base CX k f fd ps sp) (hr:HQ (k+1) X.A) (hg:Gl X x) (hm:X.mg x=some (.ref C)) (hb:Binds X.K fd ps ds) (hd:Bd dvs ds) (hx:Lv CX X E)
  (ha:PA X (e :: es) t) (hdb:(x==("__debug__" : Str))=false:=by decide) (he:AS (e :: es) X.env=(false,Bm e X.env) :: AS es X.env:=by rfl) (hpl:(DX pos (AS es X.env)).any (·.1)=false:=by rfl) :
  PE X (.Call (.Name x p) (e :: es) [] pos) (lD C sp dvs E t):=by
 intro pins s σ H Q I h;refine C6 (OZ I hg hm ?_ hdb);refine Uu (h₀:=X.base) I.ok.mod.kin M.kp (thn (ha pos pins s σ H _ I h) λus s1 ⟨vs,H1,I1,r,q⟩=>⟨I1.kIn,?_⟩) he hpl;exact Z3 M F hr hb hd hx I1 r q
end
section
variable {X:Cx} {CX:CXT} {k:Nat} {f C:AK} {fd:Dh} {ps ks:List Str} {sp:Sp} {E:St->XK} {x m:Str} {p pos apos kpos:Pos} {e o:Expr} {es:List Expr} {kws:List LX} {te ta:TE} {t tk:TA} {nm:Option Str}
variable {g:List AD->List AD->List AD} {gV:List V->List V->List V}
end
structure Bx (N P:List Str) (sc:IK):Prop where
 kind:sc.kind=.function
 co:sc.isCoroutine=false
 gen:sc.isGenerator=false
 nd:N.Nodup
 pre:N.take P.length=P
 par:∀x∈P,sc.names.lookup x=some .local∨sc.names.lookup x=some .cell
 nofree:∀y∈sc.names,y.2≠.free
theorem RN {kindOf:Str->Option QR} {x:Str}:∀ {binds:List (Str×AD)} {m:Str->Option AD},(∀v,(x,v)∉binds)->Yv kindOf binds m x=m x
 | [],_,_=>rfl
 | (n,v) :: r,m,h=>by
  unfold Yv;rw [RN λw hw=>h w (AW _ hw)];split
  ·have:x≠n:=by rintro rfl;exact h v Ag
   simp [this]
  ·rfl
theorem RP {kindOf:Str->Option QR} {x:Str}:∀ {binds:List (Str×AD)} {m:Str->Option AD},(∀v,(x,v)∉binds)->Yw kindOf binds m x=m x
 | [],_,_=>rfl
 | (n,v) :: r,m,h=>by
  unfold Yw;rw [RP λw hw=>h w (AW _ hw)];split
  ·rfl
  ·have:x≠n:=by rintro rfl;exact h v Ag
   simp [this]
theorem RO {kindOf:Str->Option QR} {x:Str} {v:AD}:∀ {P:List Str} {vs:List AD} {i:Nat} {m:Str->Option AD},P.Nodup->P[i]?=some x->vs[i]?=some v->kindOf x=some .local ->
  Yv kindOf (P.zip vs) m x=some v
 | [],_,_,_,_,h,_,_=>by simp at h
 | _ :: _,[],_,_,_,_,h,_=>by simp at h
 | p :: P,w :: vs,0,m,nd,h1,h2,hk=>by
  simp at h1 h2;subst h1;subst h2;show Yv kindOf ((p,w) :: P.zip vs) m p=_;unfold Yv;rw [RN λv hv=>(DC.mp nd).1 (QH hv).1,qX hk];simp
 | p :: P,w :: vs,i+1,m,nd,h1,h2,hk=>by
  show Yv kindOf ((p,w) :: P.zip vs) m x=_;unfold Yv;exact RO (i:=i) (DC.mp nd).2 (by simpa using h1) (by simpa using h2) hk
theorem RQ {kindOf:Str->Option QR} {x:Str} {v:AD}:∀ {P:List Str} {vs:List AD} {i:Nat} {m:Str->Option AD},P.Nodup->P[i]?=some x->vs[i]?=some v->kindOf x≠some .local ->
  Yw kindOf (P.zip vs) m x=some v
 | [],_,_,_,_,h,_,_=>by simp at h
 | _ :: _,[],_,_,_,_,h,_=>by simp at h
 | p :: P,w :: vs,0,m,nd,h1,h2,hk=>by
  simp at h1 h2;subst h1;subst h2;show Yw kindOf ((p,w) :: P.zip vs) m p=_;unfold Yw;rw [RP λv hv=>(DC.mp nd).1 (QH hv).1,qY hk];simp
 | p :: P,w :: vs,i+1,m,nd,h1,h2,hk=>by
  show Yw kindOf ((p,w) :: P.zip vs) m x=_;unfold Yw;exact RQ (i:=i) (DC.mp nd).2 (by simpa using h1) (by simpa using h2) hk
def start (N:List Str) (vs:List V):St:=vs.map some++BU (N.length - vs.length) none
def SO (CX:CXT) (P:Aq) (w:BF) (K:AA) (mg:Str->Option AD) (base:Bq) (N:List Str) (qual:Str) (scope:IK) (f:AK) (cd:AD) (A:BA) (outer:List Env) (s:AG) (H:Hp) (E:XK):Cx where
 prog:=P
 w:=w
 K:=K
 mg:=mg
 base:=base
 A:=A.deeper (LV qual scope s.heap.objs.size f cd)
 N:=N
 s₀:=s
 H₀:=H
 env:=LV qual scope s.heap.objs.size f cd
 outer:=outer
 stack:=LV qual scope s.heap.objs.size f cd :: outer
 ex:=[]
 calm:=true
 fn:=λ_=>true
 pn:=[]
 xe:=λe s'=>Al (AZ P w) (A.deeper (LV qual scope s.heap.objs.size f cd)) (leaving (LV qual scope s.heap.objs.size f cd) e) (λ_ s''=>CX outer H s E e s'') (λe' s''=>CX outer H s E e' s'') s'
theorem UO {sc:IK} {n:Nat} {x:Str} (h:sc.names.lookup x=some .cell):∃c,(kh n sc.names []).lookup x=some c:=by
 have q:=Rc sc.names n [] (.inl h);exact Qr.mp q
theorem YI {CX:CXT} {P:Aq} {w:BF} {K:AA} {mg:Str->Option AD} {base:Bq} {N ps:List Str} {qual:Str} {scope:IK} {f:AK} {cd:AD} {A:BA} {outer:List Env} {s s1:AG} {H:Hp} {E:XK} {us:List AD} {vs:List V}
  (S:Bx N ps scope) (hd:A.handled=none) (e0:WA P w K mg base A outer s H) (hl:vs.length=ps.length) (r:Bd vs us)
  (x:InCallC s s.heap.objs.size (Yv (LV qual scope s.heap.objs.size f cd).kindOf (ps.zip us) λ_=>none) (kh (s.heap.objs.size+1) scope.names []) (Yw (LV qual scope s.heap.objs.size f cd).kindOf (ps.zip us) λ_=>none) s1) :
  Inv (SO CX P w K mg base N qual scope f cd A outer s H E) [] (start N vs) H s1:=by
 have hpl:ps.length<=N.length:=by have:=congrArg Fv S.pre;rw [CH] at this;lia
 obtain ⟨h1,tk,rfl,hk⟩:=x.done
 have noA:∀b:AK,b∉(SO CX P w K mg base N qual scope f cd A outer s H E).ex:=λb z=>zX (show b∈([]:List AK) from z) (by simp)
 refine ⟨⟨e0.mod,S.kind,rfl,rfl,AL _,λy z c h1 h2=>?_,λy hy=>?_,λy c _ h=>?_,λ_=>hd,BA.frames_deeper e0.frames,.inr ⟨rfl,rfl⟩,λb z=>zX z (noA b),e0.bs,e0.bsz,λb _ _=>noA b,λb z=>zX z (noA b),e0.funs,e0.frf⟩,
  rfl,e0.bare,Un.kept hk,⟨_,x.toInCall.ns,λi y v h1 h2 h3=>?_⟩,λy c h=>⟨_,x.cell y c h⟩,e0.hok.fresh (AL _),λy c h=>?_,λp hp=>zX (show p∈([]:List (AK×Obj)) from hp) (by simp),e0.hok.kept hk,?_⟩
 ·exact name_of_addr x.apart (D6 h1) (D6 h2)
 ·have hy:scope.names.lookup y=some .cell∨scope.names.lookup y=some .free:=hy
  rcases hy with hy | hy
  ·exact UO hy
  ·exact zX rfl (S.nofree _ (D6 hy))
 ·exact N6 (x.above y c (D6 h))
 ·have hi:i < vs.length:=by
   unfold start at h2
   by_cases hi:i < vs.length
   ·exact hi
   ·rw [A9 (by simpa using hi)] at h2
    rw [DA] at h2
    split at h2 <;> cases h2
  have ha:vs[i]?=some v:=by
   unfold start at h2;rw [Ac (by simpa using hi),AX] at h2
   cases e:vs[i]? with
   | none=>rw [e] at h2;cases h2
   | some a=>rw [e] at h2;cases h2;rfl
  obtain ⟨u,hu,rv⟩:=r.get ha
  have hp:ps[i]?=some y:=by
   rw [<-S.pre,Sn (by lia)];exact h1
  have ndP:ps.Nodup:=by rw [<-S.pre];exact S.nd.sublist (ZI _ _)
  refine ⟨u,rv,?_⟩
  rcases S.par y (A8 hp) with k | k
  ·exact .inl ⟨k,RO ndP hp hu k⟩
  ·obtain ⟨c,e⟩:=UO (n:=s.heap.objs.size+1) k
   refine .inr ⟨.inl k,c,e,?_⟩;have q:=x.cell y c e;rw [RQ ndP hp hu (by show scope.names.lookup y≠_;rw [k];decide)] at q;exact q
 ·exact e0.hok.fresh (N6 (x.above y c (D6 h)))
 ·unfold start
  show _=N.length;rw [Ao,AH,Ko]
  lia
theorem mS {CX:CXT} {P:Aq} {w:BF} {K:AA} {mg:Str->Option AD} {base:Bq} {k:Nat} {f:AK} {name qual:Str} {params:Arguments} {body:List Cg} {scope:IK} {dV kV doc pm cdv ct oc:AD} {an od:Option AK}
  {osl:Array (Option AD)} {N ps:List Str} {sp:Sp} (lk:K.lookup f=some ⟨oc,od,.func (HW name qual params body scope dV kV doc pm an cdv ct),osl⟩) (hcd:On K cdv qual=true) (S:Bx N ps scope)
  (len:∀vs H Q E,sp vs H Q E->vs.length=ps.length)
  (hbody:∀(A:BA) (outer:List Env) (s:AG) (H:Hp) (vs:List V) (Q:VK) (E:XK),HQ k (A.deeper (LV qual scope s.heap.objs.size f cdv))->sp vs H Q E ->
   ∃t,PSs (SO CX P w K mg base N qual scope f cdv A outer s H E) body t/\t { nx:=λ_ H'=>Q .non H',rt:=Q } (start N vs) H) :
  Dp P w K mg base CX (k+1) f (HW name qual params body scope dV kV doc pm an cdv ct) ps sp:=by
 refine ⟨len,λA outer s H args us vs Q E hr e0 hb r hsp=>?_⟩;have hl:=len _ _ _ _ hsp
 have KX:K.In s.heap:=e0.mod.kin.keeps λb o e=>(e0.bs b o e).1
 have lim:s.heap.NoLimit:=e0.mod.nolimit.keeps λb o e=>(e0.bs b o e).1
 have hkind:∀y∈ps.zip us,scope.names.lookup y.1=some .local∨(scope.names.lookup y.1=some .cell/\((kh (s.heap.objs.size+1) scope.names []).lookup y.1).isSome=true):=λ⟨n,v⟩ hy=>by
  rcases S.par n (QH hy).1 with q | q
  ·exact .inl q
  ·exact .inr ⟨q,Rc _ _ _ (.inl q)⟩
 refine codeAny_call_function hr.depth (KX _ _ lk) rfl S.co S.gen rfl (PySem.W.codeRec_of KX hcd) (hb _ _ _ _ ?_)
 refine wpAny_newFunctionEnv_cells S.kind hkind λenv he s1 x=>?_
 subst he;refine ⟨lim.keeps x.toInCall.keep,codeAny_func ?_⟩;obtain ⟨t,ht,hq⟩:=hbody A outer s H vs Q E (hr.deeper _) hsp;have I:Inv (SO CX P w K mg base N qual scope f cdv A outer s H E) [] (start N vs) H s1:=YI S hr.hd e0 hl r x
 refine GZ (ht [] s1 (start N vs) H _ I hq) (λfl s' hs=>?_) λe s' hs=>hs
 have fin:∀ {σ':St} {H':Hp} {v:V} {u:AD},Inv (SO CX P w K mg base N qual scope f cdv A outer s H E) [] σ' H' s'->RelV v u->Q v H'->CE outer P w H s Q u s':=
  λ{σ' H' v u} J rv q=>⟨v,H',J.os,J.bare,J.base,J.hok,rv,q⟩
 cases fl with
 | ret u=>
  obtain ⟨v,σ',H',J,rv,q⟩:=hs;exact fin J rv q
 | next=>
  obtain ⟨σ',H',J,q⟩:=hs;exact fin (v:=V.non) (u:=BQ) J rfl q
 | brk=>
  obtain ⟨_,_,_,q⟩:=hs;exact Dr q
 | cont=>
  obtain ⟨_,_,_,q⟩:=hs;exact Dr q
section
variable {X:Cx} {x:Str} {p pos:Pos} {e:Expr} {es:List Expr} {t:TA} {id T:String} {r:List V->Hp->VK->Prop}
def tCB (r:List V->Hp->VK->Prop) (t:TA):TE:=λσ H Q=>t σ H λvs H1=>r vs H1 Q
theorem KL (hc:HV X (.builtin id) r) (hg:Gl X x) (hm:X.mg x=none) (hv:Ee x=some (.builtin id)) (ha:PA X (e :: es) t) (hn:x≠"__name__":=by decide) (hdb:(x==("__debug__" : Str))=false:=by decide)
  (he:AS (e :: es) X.env=(false,Bm e X.env) :: AS es X.env:=by rfl) (hpl:(DX pos (AS es X.env)).any (·.1)=false:=by rfl):PE X (.Call (.Name x p) (e :: es) [] pos) (tCB r t):=by
 intro pins s σ H Q I h;refine C6 (Hv I hg hm hv ?_ hn hdb);exact LJ (thn (ha pos pins s σ H _ I h) λus s1 ⟨vs,H1,I1,r1,q1⟩=>hc pins s1 σ H1 vs us Q I1 r1 q1) he hpl
theorem Q6 (hc:HV X (.type T) r) (hg:Gl X x) (hm:X.mg x=none) (hv:Ee x=some (.type T)) (ha:PA X (e :: es) t) (hn:x≠"__name__":=by decide) (hdb:(x==("__debug__" : Str))=false:=by decide)
  (he:AS (e :: es) X.env=(false,Bm e X.env) :: AS es X.env:=by rfl) (hpl:(DX pos (AS es X.env)).any (·.1)=false:=by rfl):PE X (.Call (.Name x p) (e :: es) [] pos) (tCB r t):=by
 intro pins s σ H Q I h;refine C6 (Hv I hg hm hv ?_ hn hdb);exact Bi (thn (ha pos pins s σ H _ I h) λus s1 ⟨vs,H1,I1,r1,q1⟩=>hc pins s1 σ H1 vs us Q I1 r1 q1) he hpl
end
end L2
namespace HT
open PySem PyProof.Rows
section
open PySem.SeqAt
open PySem.AutoSeq1 (wpAny_loadPart')
open PySem.MeetsSeq PySem.MeetsSeq2 PySem.MeetsSeq3
end
section
variable {prog:Aq} {w:BF} {A:BA} {E:AD->AG->Prop} {s:AG}
theorem fm {t b:AK} {vs ws:List AD} {Q:AD->AG->Prop} (ht:kb s.heap t vs.toArray) (hb:kb s.heap b ws.toArray) (hv:vs≠[])
  (h1:ws=[]->Q (.ref t) s) (h2:ws≠[]->Q (.ref s.heap.objs.size) { s with heap:=s.heap.push { cls:=.type "tuple",data:=.seq (vs++ws).toArray } })
  (hsz:vs.length+ws.length<=sizeLine):Al (AZ prog w) A (D7 .Add (.ref t) (.ref b)) Q E s:=by
 obtain ⟨⟨cls,dd,data,sl⟩,ho,hc,n,hd⟩:=id ht;obtain ⟨⟨cls2,dd2,data2,sl2⟩,ho2,hc2,n2,hd2⟩:=id hb;simp only at hc hd hc2 hd2;subst hc hd hc2 hd2
 have e:vs.toArray++ws.toArray=(vs++ws).toArray:=by simp
 by_cases hw:ws=[]
 ·exact ZE ⟨_,ho,rfl⟩ ⟨_,ho2,rfl⟩ Rb XN Ja JA (Ib _ _)
   (tuple_addW1 t b vs.toArray ws.toArray n n2 dd dd2 sl sl2 (by simpa using hv) (by simp [hw])) ⟨ho,ho2,h1 hw⟩
 ·refine ZE ⟨_,ho,rfl⟩ ⟨_,ho2,rfl⟩ Rb XN Ja JA (Ib _ _)
   (tuple_addW2 t b vs.toArray ws.toArray n n2 dd dd2 sl sl2 (by simpa using hv) (by simpa using hw) (by rw [AU,AU];exact hsz)) ⟨ho,ho2,?_⟩
  rw [e];exact h2 hw
def sIx (n d:Nat):Option Int->Nat
 | none=>d
 | some v=>if v < 0 then (v+(n:Int)).toNat else min v.toNat n
theorem Z1 (n d:Nat):sIx n d none=d:=rfl
theorem dc (n d k:Nat):sIx n d (some (k:Int))=min k n:=by
 show (if (k:Int) < 0 then ((k:Int)+(n:Int)).toNat else min (k:Int).toNat n)=min k n;rw [qY (by lia),BN]
theorem ir (n d:Nat) (hd:d<=n) (o:Option Int):sIx n d o<=n:=by
 cases o with
 | none=>exact hd
 | some v=>
  show (if v < 0 then (v+(n:Int)).toNat else min v.toNat n)<=n
  by_cases hv:v < 0
  ·rw [qX hv];lia
  ·rw [qY hv];exact J2 _ _
theorem W8 (v:Int) (n d:Nat):(if v < 0 then max (v+(n:Int)) 0 else min v (n:Int))=((sIx n d (some v):Nat):Int):=by
 show (if v < 0 then max (v+(n:Int)) 0 else min v (n:Int))=(((if v < 0 then (v+(n:Int)).toNat else min v.toNat n):Nat):Int)
 by_cases hv:v < 0
 ·simp only [qX hv];lia
 ·simp only [qY hv];lia
theorem V6 (lo hi:Option Int) (n:Nat):HD lo hi 1 (n:Int)=(((sIx n 0 lo:Nat):Int),((sIx n n hi:Nat):Int)):=by
 have h1:¬((1:Int) < 0):=by lia
 unfold HD;simp only [h1,if_false];refine Qq ?_ ?_
 ·cases lo with
  | none=>rfl
  | some v=>exact W8 v n 0
 ·cases hi with
  | none=>rfl
  | some v=>exact W8 v n n
theorem VY (i j:Nat):ES (i:Int) (j:Int) 1=j - i:=by
 unfold ES
 have h1:(1:Int) > 0:=by lia
 simp only [h1,if_true,Int.ediv_one]
 split <;> lia
theorem PB {v:AD} {o:Option Int} {Q:Option Int->AG->Prop} (p:Ri v o) (h:Q o s):Al (AZ prog w) A (ku v) Q E s:=by
 cases p with
 | none=>exact slicePart_none h
 | int i t=>exact slicePart_int h
theorem NA {sl:AK} {vl vu:AD} {lo hi:Option Int} {n:Nat} {Q:Int×Int×Nat->AG->Prop} (hs:s.heap.IsSliceOf sl vl vu .none) (pl:Ri vl lo) (pu:Ri vu hi)
  (h:Q (((sIx n 0 lo:Nat):Int),1,sIx n n hi - sIx n 0 lo) s):Al (AZ prog w) A (MB (.ref sl) (pure (n:Int))) Q E s:=by
 obtain ⟨os,hos,hcs,hds⟩:=id hs;unfold MB kx;refine AB (AB (DE hos hds (x:=vl) rfl (AB (DE hos hds (x:=vu) rfl (AB (DE hos hds (x:=.none) rfl (AM ?_)))))));refine AB (slicePart_none ?_);show Al _ _ (if ((1:Int)==0)=true then _ else _) _ _ s;rw [qY (by decide)];refine AB (PB pl (AB (PB pu (AB (AM ?_)))));show Al _ _ (match HD lo hi 1 (n:Int) with | (lo,hi)=>pure (lo,(1:Int),ES lo hi 1)) _ _ s;rw [V6 lo hi n];show Al _ _ (pure (((sIx n 0 lo:Nat):Int),(1:Int),ES ((sIx n 0 lo:Nat):Int) ((sIx n n hi:Nat):Int) 1)) _ _ s;rw [VY];exact AM h
theorem aK (xs:Array AD) (i k:Nat):((AT k).filterMap λ(m:Nat)=>xs[((i:Int)+(m:Int) * 1).toNat]?).toArray=((xs.toList.drop i).take k).toArray:=by
 have e:(λ(m:Nat)=>xs[((i:Int)+(m:Int) * 1).toNat]?)=λm=>xs[i+m]?:=by
  funext m
  have:((i:Int)+(m:Int) * 1).toNat=i+m:=by lia
  rw [this]
 rw [e];have:=pick_run xs i k;rw [List.filterMap_map] at this
 have e2:((λx=>xs[x]?)∘λx=>i+x)=λm=>xs[i+m]?:=rfl
 rw [e2] at this;rw [this]
theorem Me {t sl:AK} {items:Array AD} {vl vu:AD} {lo hi:Option Int} {Q:AD->AG->Prop} (ht:kb s.heap t items) (hs:s.heap.IsSliceOf sl vl vu .none) (pl:Ri vl lo) (pu:Ri vu hi)
  (hw:¬(sIx items.size 0 lo=0/\sIx items.size items.size hi=items.size))
  (h:Q (.ref s.heap.objs.size) { s with heap:=s.heap.push { cls:=.type "tuple",data:=.seq ((items.toList.drop (sIx items.size 0 lo)).take (sIx items.size items.size hi - sIx items.size 0 lo)).toArray } })
  (hsz:items.size<=sizeLine):Al (AZ prog w) A (NY (.ref t) (.ref sl)) Q E s:=by
 have htake:sizeOk (.seq ((items.toList.drop (sIx items.size 0 lo)).take (sIx items.size items.size hi - sIx items.size 0 lo)).toArray):=by
  show ((items.toList.drop (sIx items.size 0 lo)).take (sIx items.size items.size hi - sIx items.size 0 lo)).toArray.size<=sizeLine;rw [AU,CH,D8,Bu];omega
 have hj:sIx items.size items.size hi<=items.size:=ir _ _ (AL _) hi;obtain ⟨os,hos,hcs,hds⟩:=id hs;have hTs:s.TypeIs (.ref sl) "slice":=⟨os,hos,hcs⟩;unfold NY
 try with_reducible refine E2 ?_
 first | refine AB (AM ?_) | skip
 refine AB (wpAny_sequenceKey ht.typeIs (by decide) ?_)
 refine AB (DP (name:=Ga "__getitem__") ht.typeIs Fa
  (Dd Fa ht.typeIs entry_tuple_getitem ?_ (args_tuple_getitem _ _)))
 show Al _ _ (kt (.ref t) >>= _) _ _ s;refine AB (tupleItemsOf_ ht ?_);refine AB (Y7 hTs ?_);rw [qX (by decide)];refine AB (NA hs pl pu ?_)
 have hno:¬((((sIx items.size 0 lo:Nat):Int)==0&&(1:Int)==1&&(sIx items.size items.size hi - sIx items.size 0 lo)==items.size)=true):=by
  intro q;rw [D9,D9] at q;have q1:((sIx items.size 0 lo:Nat):Int)=0:=eq_of_beq q.1.1;have q2:sIx items.size items.size hi - sIx items.size 0 lo=items.size:=eq_of_beq q.2;exact hw ⟨by lia,by omega⟩
 show Al _ _ (if (((sIx items.size 0 lo:Nat):Int)==0&&(1:Int)==1&&(sIx items.size items.size hi - sIx items.size 0 lo)==items.size)=true then _ else _) _ _ s;rw [qY hno,aK]
 first
  | exact AB (m:=Ei _) (B9 (AM ⟨_,rfl,AM h⟩) htake)
  | exact AB (m:=Ei _) (B9 (AB (AM (AM ⟨_,rfl,AM h⟩))) htake)
  | exact AB (AB (m:=Ei _) (B9 (AM (AM ⟨_,rfl,AM h⟩)) htake))
  | exact AB (AB (m:=Ei _) (B9 (AM ⟨_,rfl,AM h⟩) htake))
end
end HT
namespace L2
open PySem PySem.Spec PyProof.Rows
abbrev TO:=St->Hp->(Option Int->Hp->Prop)->Prop
def PO (X:Cx) (e:Option Expr) (t:TO):Prop:=
 ∀(pins:List (AK×Obj)) (s:AG) (σ:St) (H:Hp) (Q:Option Int->Hp->Prop),Inv X pins σ H s->t σ H Q ->
  Al (AZ X.prog X.w) X.A (evalPart e X.env) (λu s'=>∃o H',Inv X pins σ H' s'/\Ri u o/\Q o H') X.xe s
def dQ:TO:=λ_ H Q=>Q none H
def lA (t:TE):TO:=λσ H Q=>t σ H λx H1=>∃i,x=.int i/\Q (some i) H1
theorem intsAre_of {ns:List Int}:∀ {us:List AD},Bd (ns.map V.int) us->IntsAre us ns:=by
 induction ns with
 | nil=>intro us r;rw [KA] at r;cases r;exact .nil
 | cons n ns ih=>
  intro us r;rw [A5] at r
  cases r with
  | cons r1 r2=>
   obtain ⟨t,e⟩:=r1;subst e;exact .cons n t (ih r2)
section
variable {κ:Type} [DecidableEq κ]
def KJ (kvs:List (κ×V)) (k:κ):Option V:=(kvs.find? λkv=>decide (kv.1=k)).map (·.2)
def HG (kvs:List (κ×V)) (k:κ) (v:V):List (κ×V):=
 if (kvs.any λkv=>decide (kv.1=k))=true then kvs.map (λkv=>if kv.1=k then (kv.1,v) else kv) else kvs++[(k,v)]
theorem O3 {p:κ×V} {r:List (κ×V)} {k:κ} (e:p.1=k):KJ (p :: r) k=some p.2:=by simp [KJ,BY,e]
theorem O4 {p:κ×V} {r:List (κ×V)} {k:κ} (e:¬p.1=k):KJ (p :: r) k=KJ r k:=by simp [KJ,BY,e]
theorem TL (k:κ):∀kvs:List (κ×V),(kvs.any λkv=>decide (kv.1=k))=(KJ kvs k).isSome
 | []=>rfl
 | p :: r=>by
  rw [HC]
  by_cases e:p.1=k
  ·simp only [O3 e,wX e,Bool.true_or,Option.isSome_some]
  ·rw [O4 e,wY e,iD];exact TL k r
theorem KS (kvs:List (κ×V)) (k:κ) (v:V):(HG kvs k v).length<=kvs.length+1:=by
 unfold HG;split
 ·rw [AH];lia
 ·rw [Ao,A6,Hi];lia
theorem NX.isSome_eq {o:Option V} {u:Option AD} (r:NX o u):o.isSome=u.isSome:=by
 cases o with
 | none=>cases u with
  | none=>rfl
  | some _=>exact (show False from r).elim
 | some _=>cases u with
  | none=>exact (show False from r).elim
  | some _=>rfl
theorem KV.val {kvs:List (κ×V)} {vs:List (κ×AD)} (r:KV kvs vs) (k:κ):NX (KJ kvs k) (QN vs k):=by
 unfold KV at r
 induction r with
 | nil=>exact Cv
 | @cons p q ps qs h t ih=>
  obtain ⟨h1,h2⟩:=h
  by_cases e:p.1=k
  ·have e':q.1=k:=h1.symm.trans e
   have b:QN (q :: qs) k=some q.2:=by simp [QN,BY,e']
   rw [O3 e,b];exact h2
  ·have e':¬q.1=k:=λz=>e (h1.trans z)
   have b:QN (q :: qs) k=QN qs k:=by simp [QN,BY,e']
   rw [O4 e,b];exact ih
theorem KV.any {kvs:List (κ×V)} {vs:List (κ×AD)} (r:KV kvs vs) (k:κ):(kvs.any λkv=>decide (kv.1=k))=vs.any λkv=>decide (kv.1=k):=by
 unfold KV at r
 induction r with
 | nil=>rfl
 | cons h t ih=>rw [HC,HC,ih,h.1]
theorem KV.repl {kvs:List (κ×V)} {vs:List (κ×AD)} (r:KV kvs vs) (k:κ) {y:V} {u:AD} (ry:RelV y u) :
  KV (kvs.map λkv=>if kv.1=k then (kv.1,y) else kv) (vs.map λkv=>if kv.1=k then (kv.1,u) else kv):=by
 unfold KV at r ⊢
 induction r with
 | nil=>exact .nil
 | @cons p q ps qs h t ih=>
  rw [A5,A5];refine .cons ?_ ih;obtain ⟨h1,h2⟩:=h
  by_cases e:p.1=k
  ·rw [qX e,qX (h1.symm.trans e)];exact ⟨h1,ry⟩
  ·rw [qY e,qY (λz=>e (h1.trans z))];exact ⟨h1,h2⟩
theorem KV.put {kvs:List (κ×V)} {vs:List (κ×AD)} (r:KV kvs vs) (k:κ) {y:V} {u:AD} (ry:RelV y u):KV (HG kvs k y) (stored vs k u):=by
 unfold HG stored;rw [r.any k]
 by_cases e:(vs.any λkv=>decide (kv.1=k))=true
 ·rw [qX e,qX e];exact r.repl k ry
 ·rw [qY e,qY e];exact Ua r ⟨rfl,ry⟩
theorem KV.length {kvs:List (κ×V)} {vs:List (κ×AD)} (r:KV kvs vs):kvs.length=vs.length:=EQ r
end
theorem RC {P:Aq} {w:BF} {k:Key} {u:AD} (r:RelV (kV k) u):(DW P w).is k u=true:=by
 cases k with
 | inl i=>obtain ⟨t,e⟩:=(show ∃t,u=N2 i t from r);subst e;exact Tw P w i t
 | inr x=>obtain ⟨t,e⟩:=(show ∃t,u=N1 x t from r);subst e;exact Tv P w x t
theorem RD {P:Aq} {w:BF}:∀ {ks:List Key} {us:List AD},Bd (ks.map kV) us->ItemsAre (DW P w) ks us
 | [],_,r=>by rw [KA] at r;cases r;exact .nil
 | k :: ks,_,r=>by
  rw [A5] at r
  cases r with
  | cons h t=>exact .cons (RC h) (RD t)
abbrev KT (H:Hp):List (List Key×V)->List (List Key×AK×AD)->Prop:=Gb λp q=>p.1=q.1/\H q.2.1=some (.tup (p.1.map kV))/\RelV p.2 q.2.2
theorem KT.val {H:Hp} {kvs:List (List Key×V)} {xs:List (List Key×AK×AD)} (r:KT H kvs xs) (k:List Key):NX (KJ kvs k) ((Uo xs k).map (·.2)):=by
 induction r with
 | nil=>exact Cv
 | @cons p q ps qs h t ih=>
  obtain ⟨h1,_,h2⟩:=h
  by_cases e:p.1=k
  ·have e':q.1=k:=h1.symm.trans e
   have b:Uo (q :: qs) k=some q.2:=by simp [Uo,BY,e']
   rw [O3 e,b];exact h2
  ·have e':¬q.1=k:=λz=>e (h1.trans z)
   have b:Uo (q :: qs) k=Uo qs k:=by simp [Uo,BY,e']
   rw [O4 e,b];exact ih
theorem KT.repl {H:Hp} {kvs:List (List Key×V)} {xs:List (List Key×AK×AD)} (r:KT H kvs xs) (k:List Key) {y:V} {u:AD} (ry:RelV y u) :
  KT H (kvs.map λkv=>if kv.1=k then (kv.1,y) else kv) (xs.map (putAt k u)):=by
 induction r with
 | nil=>exact .nil
 | @cons p q ps qs h t ih=>
  rw [A5,A5];refine .cons ?_ ih;obtain ⟨h1,h2,h3⟩:=h;unfold putAt
  by_cases e:p.1=k
  ·rw [qX e,qX (h1.symm.trans e)];exact ⟨h1,h2,ry⟩
  ·rw [qY e,qY (λz=>e (h1.trans z))];exact ⟨h1,h2,h3⟩
theorem KT.put {H:Hp} {kvs:List (List Key×V)} {xs:List (List Key×AK×AD)} (r:KT H kvs xs) (k:List Key) {b:AK} {y:V} {u:AD} (hb:H b=some (.tup (k.map kV))) (ry:RelV y u) :
  KT H (HG kvs k y) (storedH xs k b u):=by
 have e:(kvs.any λkv=>decide (kv.1=k))=(Uo xs k).isSome:=by
  rw [TL,(r.val k).isSome_eq,Ms]
 unfold HG storedH;rw [e]
 by_cases q:(Uo xs k).isSome=true
 ·rw [qX q,qX q];exact r.repl k ry
 ·rw [qY q,qY q];exact Ua r ⟨rfl,hb,ry⟩
theorem KT.keeps {H H':Hp} {kvs:List (List Key×V)} {xs:List (List Key×AK×AD)} (r:KT H kvs xs) (ht:∀b ys,H b=some (.tup ys)->H' b=some (.tup ys)):KT H' kvs xs:=
 Gb.mapP r λ_ _ z=>⟨z.1,ht _ _ z.2.1,z.2.2⟩
variable {X:Cx} {e:Expr} {te:TE} {lo hi:Option Expr} {tl th:TO} {pos p2:Pos}
theorem d6:PO X none dQ:=by
 intro pins s σ H Q I h;rw [evalPart_none];exact AM ⟨none,H,I,.none,h⟩
theorem dz (h:PE X e te):PO X (some e) (lA te):=by
 intro pins s σ H Q I hw;rw [evalPart_some]
 refine thn (h pins s σ H _ I hw) λu s1 ⟨x,H1,I1,r1,q1⟩=>?_
 obtain ⟨i,rfl,q⟩:=q1;obtain ⟨t,rfl⟩:=r1;exact ⟨some i,H1,I1,.int i t,q⟩
def SlR (X:Cx) (r:V->Option Int->Option Int->Hp->VK->Prop):Prop:=
 ∀(pins:List (AK×Obj)) (s:AG) (σ:St) (H:Hp) (x:V) (v vl vu:AD) (lo hi:Option Int) (sl:AK) (Q:VK),Inv X pins σ H s->RelV x v->s.heap.IsSliceOf sl vl vu .none->Ri vl lo->Ri vu hi->r x lo hi H Q ->
  ∃T id,Uj (.type T) "__getitem__" = pure (some (.builtin id))/\s.TypeIs v T/\Al (AZ X.prog X.w) X.A (NY v (.ref sl)) (EP X pins σ Q) X.xe s
theorem SlR.or {r r':V->Option Int->Option Int->Hp->VK->Prop} (h:SlR X r) (h':SlR X r'):SlR X (λx lo hi H Q=>r x lo hi H Q∨r' x lo hi H Q):=by
 intro pins s σ H x v vl vu lo hi sl Q I rx hs pl pu q
 rcases q with q | q
 ·exact h pins s σ H x v vl vu lo hi sl Q I rx hs pl pu q
 ·exact h' pins s σ H x v vl vu lo hi sl Q I rx hs pl pu q
def tSl (r:V->Option Int->Option Int->Hp->VK->Prop) (te:TE) (tl th:TO):TE:=λσ H Q=>te σ H λx H1=>tl σ H1 λl H2=>th σ H2 λu H3=>r x l u H3 Q
theorem aM {r:V->Option Int->Option Int->Hp->VK->Prop} (hr:SlR X r) (he:PE X e te) (hl:PO X lo tl) (hu:PO X hi th):PE X (.Subscript e (.Slice lo hi none p2) pos) (tSl r te tl th):=by
 intro pins s σ H Q I h;refine Us (thn (he pins s σ H _ I h) λv s1 ⟨x,H1,I1,r1,q1⟩=>?_);refine wpAny_Slice (thn (hl pins s1 σ H1 _ I1 q1) λvl s2 ⟨l,H2,I2,pl,q2⟩=>thn (hu pins s2 σ H2 _ I2 q2) λvu s3 ⟨u,H3,I3,pu,q3⟩=>?_);rw [evalPart_none];refine AM ?_
 have I4:Inv X pins σ H3 { s3 with heap:=s3.heap.push { cls:=.type "slice",data:=.fields #[vl,vu,.none] } }:=I3.kept (t':=s3.toks) λb ob q=>AI _ q
 obtain ⟨T,id,hT,ht,hg⟩:=hr pins { s3 with heap:=s3.heap.push { cls:=.type "slice",data:=.fields #[vl,vu,.none] } } σ H3 x v vl vu l u s3.heap.objs.size Q I4 r1 (QI ..) pl pu q3;show Al (AZ X.prog X.w) X.A (OK e (.Slice lo hi none p2) v (.ref s3.heap.objs.size)) (EP X pins σ Q) X.xe { s3 with heap:=s3.heap.push { cls:=.type "slice",data:=.fields #[vl,vu,.none] } };exact tail_any (ops:=[.ref s3.heap.objs.size,v]) ht hT hg (by with_unfolding_all rfl)
def P7 (xs:List V) (lo hi:Option Int):List V:=(xs.drop (HT.sIx xs.length 0 lo)).take (HT.sIx xs.length xs.length hi - HT.sIx xs.length 0 lo)
theorem Nu (xs:List V) (lo hi:Option Int):(P7 xs lo hi).length<=xs.length:=by
 unfold P7;rw [CH,D8]
 lia
def rSlT (K:AA):V->Option Int->Option Int->Hp->VK->Prop:=λx lo hi H Q=>∃a xs,x=.ref a/\SqT K H a xs /\
 ¬(HT.sIx xs.length 0 lo=0/\HT.sIx xs.length xs.length hi=xs.length)/\∀p,H p=none->Q (.ref p) (upd H p (.tup (P7 xs lo hi)))
theorem io:SlR X (rSlT X.K):=by
 intro pins s σ H x v vl vu lo hi sl Q I rx hs pl pu h;obtain ⟨a,xs,rfl,hx,hw,q⟩:=h;cases rx;obtain ⟨its,r,ht,hz⟩:=I.tuple hx
 have hlen:its.toArray.size=xs.length:=by rw [AU];exact r.length.symm
 refine ⟨"tuple",_,Fa.lookup,ht.typeIs,?_⟩;refine HT.Me ht hs pl pu (by rw [hlen];exact hw) ?_ (by rw [hlen];exact hz);rw [hlen];refine ⟨.ref s.heap.objs.size,_,I.laid (t':=s.toks) (o:=.tup (P7 xs lo hi)) (λb ob q=>AI _ q) (AL _) ?_,rfl,q _ (I.hok.fresh (AL _))⟩;exact ⟨Ax (Nu xs lo hi) hz,_,(r.drop (HT.sIx xs.length 0 lo)).take (HT.sIx xs.length xs.length hi - HT.sIx xs.length 0 lo),ZM _ _⟩
def lR (K:AA):R2:=λx y H Q=>∃a b xs ys,x=.ref a/\y=.ref b/\SqT K H a xs/\SqT K H b ys/\xs≠[]/\xs.length+ys.length<=sizeLine /\
 (ys=[]->Q (.ref a) H)/\(ys≠[]->∀p,H p=none->Q (.ref p) (upd H p (.tup (xs++ys))))
theorem Bd.nil_iff {xs:List V} {us:List AD} (r:Bd xs us):us=[]↔xs=[]:=by
 cases r with
 | nil=>simp
 | cons _ _=>simp
theorem eX:OpR X (D7 .Add) (lR X.K):=by
 intro pins s σ H x y v u Q I rx ry h;obtain ⟨a,b,xs,ys,rfl,rfl,ha,hb,hx,hz,q1,q2⟩:=h;cases rx;cases ry;obtain ⟨its,r1,p1,_⟩:=I.tuple ha;obtain ⟨its2,r2,p2,_⟩:=I.tuple hb;refine HT.fm p1 p2 (λz=>hx (r1.nil_iff.mp z)) (λz=>⟨.ref a,H,I,rfl,q1 (r2.nil_iff.mp z)⟩) (λz=>?_) (by rw [<-r1.length,<-r2.length];exact hz);refine ⟨.ref s.heap.objs.size,_,I.laid (t':=s.toks) (o:=.tup (xs++ys)) (λb ob q=>AI _ q) (AL _) ?_,rfl,q2 (λw=>z (r2.nil_iff.mpr w)) _ (I.hok.fresh (AL _))⟩;exact ⟨by rw [Ao];exact hz,_,r1.append r2,ZM _ _⟩
def ixN (n:Nat) (i:Int):Option Nat:=if 0<=i then (if i < n then some i.toNat else none) else if -(n:Int)<=i then some (i+n).toNat else none
def atI {α:Type} (xs:List α) (i:Int):Option α:=(ixN xs.length i).bind λj=>xs[j]?
theorem fE {n:Nat} {i:Int} {j:Nat} (h:ixN n i=some j):seqIndex? i n=some j/\j < n/\-(n:Int)<=i/\i < n:=by
 unfold ixN at h
 by_cases h0:0<=i
 ·rw [qX h0] at h
  by_cases h1:i < n
  ·rw [qX h1] at h
   have e:i.toNat=j:=CW h;exact ⟨by rw [seqIndex_of h0 h1,e],by lia,by lia,h1⟩
  ·rw [qY h1] at h;cases h
 ·rw [qY h0] at h
  by_cases h1:-(n:Int)<=i
  ·rw [qX h1] at h
   have e:(i+n).toNat=j:=CW h;exact ⟨by rw [seqIndex_neg (by lia) h1,e],by lia,h1,by lia⟩
  ·rw [qY h1] at h;cases h
theorem XD {α:Type} {xs:List α} {i:Int} {v:α} (h:atI xs i=some v):∃j,seqIndex? i xs.length=some j/\xs[j]?=some v/\j < xs.length/\-(xs.length:Int)<=i/\i < xs.length:=by
 unfold atI at h
 cases e:ixN xs.length i with
 | none=>rw [e] at h;cases h
 | some j=>
  rw [e] at h;obtain ⟨h1,h2,h3,h4⟩:=fE e;exact ⟨j,h1,h,h2,h3,h4⟩
def Sg (b:Expr):Prop:=∀o i,Sh b false o i=operate [o,i] (NY o i)
def IxR (X:Cx) (r:R2):Prop:=
 ∀(value slice:Expr) (pins:List (AK×Obj)) (s:AG) (σ:St) (H:Hp) (x y:V) (v u:AD) (Q:VK),Inv X pins σ H s->RelV x v->RelV y u->r x y H Q ->
  Sh slice false v u=operate [v,u] (NY v u)->Al (AZ X.prog X.w) X.A (OK value slice v u) (EP X pins σ Q) X.xe s
def MtR (X:Cx) (id:String) (r:V->List V->Hp->VK->Prop):Prop:=
 ∀(pins:List (AK×Obj)) (s:AG) (σ:St) (H:Hp) (x:V) (xs:List V) (v:AD) (us:List AD) (Q:VK),Inv X pins σ H s->RelV x v->Bd xs us->r x xs H Q ->
  Al (AZ X.prog X.w) X.A (call (.builtin id) (v :: us)) (EP X pins σ Q) X.xe s
section
variable {P:Aq} {w:BF} {H:Hp} {h:Bq} {a:AK}
theorem ge {u:HO} (ok:HOk P w H h) (e:Rd H a u):Ct P w H h a u:=e.ok ok
theorem RK {kvs:List (Key×V)} (ok:HOk P w H h) (e:Rd H a (.dK kvs)):kvs.length<=sizeLine/\(a==DS)=false/\∃vs,KV kvs vs/\h.DictOf (DW P w) a vs:=
 show Ct P w H h a (.dK kvs) from ge ok e
theorem W6 {kvs:List (Key×V)} (ok:HOk P w H h) (e:H a=some (.dK kvs)):kvs.length<=sizeLine/\(a==DS)=false/\∃vs,KV kvs vs/\h.DictOf (DW P w) a vs:=RK ok (.inl e)
theorem Pn {ks:List Key} (ok:HOk P w H h) (e:H a=some (.tup (ks.map kV))):(RY (DW P w)).is h ks a:=by
 obtain ⟨_,its,r,o,h1,h2,n,h3⟩:=(show Ct P w H h a (.tup (ks.map kV)) from ok a _ e);exact ⟨o,its.toArray,n,h1,h2,h3,by simpa using RD r⟩
theorem RJ {kvs:List (List Key×V)} (ok:HOk P w H h) (e:Rd H a (.dT kvs)):kvs.length<=sizeLine/\(a==DS)=false /\
  ∃xs,KT H kvs xs/\h.DictOfH (RY (DW P w)) a xs:=by
 obtain ⟨z,y,xs,r,o,es,ep,h1,h2,h3,h4,h5⟩:=(show Ct P w H h a (.dT kvs) from ge ok e);refine ⟨z,y,xs,r,o,es,ep,h1,h2,h3,h4,λx hx=>?_,h5⟩
 have all:∀ {l:List (List Key×V)} {m:List (List Key×AK×AD)},KT H l m->∀x∈m,(RY (DW P w)).is h x.1 x.2.1:=by
  intro l m q
  induction q with
  | nil=>intro x hx;exact nomatch hx
  | @cons p q ps qs hq t ih=>
   intro x hx
   rcases Au.mp hx with e | hx
   ·subst e
    exact Pn ok (by rw [<-hq.1];exact hq.2.1)
   ·exact ih x hx
 exact all r x hx
theorem mT {kvs:List (List Key×V)} (ok:HOk P w H h) (e:H a=some (.dT kvs)):kvs.length<=sizeLine/\(a==DS)=false /\
  ∃xs,KT H kvs xs/\h.DictOfH (RY (DW P w)) a xs:=RJ ok (.inl e)
end
def Mr (H:Hp) (a:AK) (y:V) (r:Option V):Prop:=
 (∃kvs k,Rd H a (.dK kvs)/\y=kV k/\r=KJ kvs k)∨∃kvs k b,Rd H a (.dT kvs)/\y=.ref b/\H b=some (.tup (k.map kV))/\r=KJ kvs k
def UW (H:Hp) (a:AK) (y v:V) (H':Hp):Prop:=
 (∃kvs k,H a=some (.dK kvs)/\y=kV k/\kvs.length < sizeLine/\H'=upd H a (.dK (HG kvs k v))) ∨
 ∃kvs k b,H a=some (.dT kvs)/\y=.ref b/\H b=some (.tup (k.map kV))/\kvs.length < sizeLine/\H'=upd H a (.dT (HG kvs k v))
theorem Mr.k {H:Hp} {a:AK} {kvs:List (Key×V)} {k:Key} (e:H a=some (.dK kvs)):Mr H a (kV k) (KJ kvs k):=.inl ⟨kvs,k,.inl e,rfl,rfl⟩
theorem Mr.t {H:Hp} {a b:AK} {kvs:List (List Key×V)} {k:List Key} (e:H a=some (.dT kvs)) (eb:H b=some (.tup (k.map kV))):Mr H a (.ref b) (KJ kvs k):=.inr ⟨kvs,k,b,.inl e,rfl,eb,rfl⟩
theorem UW.k {H:Hp} {a:AK} {kvs:List (Key×V)} {k:Key} {v:V} (e:H a=some (.dK kvs)) (hl:kvs.length < sizeLine):UW H a (kV k) v (upd H a (.dK (HG kvs k v))):=.inl ⟨kvs,k,e,rfl,hl,rfl⟩
theorem UW.t {H:Hp} {a b:AK} {kvs:List (List Key×V)} {k:List Key} {v:V} (e:H a=some (.dT kvs)) (eb:H b=some (.tup (k.map kV))) (hl:kvs.length < sizeLine) :
  UW H a (.ref b) v (upd H a (.dT (HG kvs k v))):=.inr ⟨kvs,k,b,e,rfl,eb,hl,rfl⟩
variable {X:Cx} {a b:Expr} {ta tb:TE} {pos:Pos}
theorem IxR.or {r r':R2} (h:IxR X r) (h':IxR X r'):IxR X (λx y H Q=>r x y H Q∨r' x y H Q):=by
 intro value slice pins s σ H x y v u Q I rx ry q hs
 rcases q with q | q
 ·exact h value slice pins s σ H x y v u Q I rx ry q hs
 ·exact h' value slice pins s σ H x y v u Q I rx ry q hs
theorem lX {r:R2} (hr:IxR X r) (ha:PE X a ta) (hb:PE X b tb) (hs:Sg b):PE X (.Subscript a b pos) (tOp r ta tb):=by
 intro pins s σ H Q I h;exact Us (kJ ha hb I h λv u s2 x y H2 I2 rx ry q=>hr a b pins s2 σ H2 x y v u Q I2 rx ry q (hs _ _))
def rIxL (K:AA):R2:=λx y H Q=>∃p xs i v,x=.ref p/\y=.int i/\SqL K H p xs/\atI xs i=some v/\Q v H
def rIxT (K:AA):R2:=λx y H Q=>∃p xs i v,x=.ref p/\y=.int i/\SqT K H p xs/\atI xs i=some v/\Q v H
theorem ix_list:IxR X (rIxL X.K):=by
 intro value slice pins s σ H x y v u Q I rx ry h hs;obtain ⟨p,xs,i,z,rfl,rfl,hq,he,q⟩:=h;cases rx;obtain ⟨t,rfl⟩:=ry;obtain ⟨its,r,pl,hz⟩:=I.list hq;obtain ⟨j,h1,h2,h3,h4,h5⟩:=XD he;obtain ⟨w,ew,rw'⟩:=r.get h2;have hl:=r.length;have hn:=SB;have fin:EP X pins σ Q w s:=⟨z,H,I,rw',q⟩
 by_cases h0:0<=i
 ·have hj:i.toNat=j:=by
   rw [seqIndex_of h0 h5] at h1;exact CW h1
  exact item_listR pl.isList h0 (by lia) (by rw [hj];simpa using ew) fin hs
 ·have hj:(i+(its.toArray.size:Int)).toNat=j:=by
   rw [seqIndex_neg (by lia) h4] at h1;rw [AU,<-hl];exact CW h1
  exact ZA (x:=w) pl.isList.typeIs QO.lookup
   (wpAny_getItem_list_neg (Q:=λr s'=>r=w/\EP X pins σ Q r s') pl.isList (by lia) (by rw [AU] <;> lia) (by lia) (by rw [hj];simpa using ew) ⟨rfl,fin⟩) hs
theorem jp:IxR X (rIxT X.K):=by
 intro value slice pins s σ H x y v u Q I rx ry h hs;obtain ⟨p,xs,i,z,rfl,rfl,hq,he,q⟩:=h;cases rx;obtain ⟨t,rfl⟩:=ry;obtain ⟨its,r,pl,hz⟩:=I.tuple hq;obtain ⟨j,h1,h2,h3,h4,h5⟩:=XD he;obtain ⟨w,ew,rw'⟩:=r.get h2;have hl:=r.length;have hn:=SB;have fin:EP X pins σ Q w s:=⟨z,H,I,rw',q⟩
 exact ZA (x:=w) pl.typeIs slot_tuple_getitem.lookup
  (getItem_tuple (j:=j) (Q:=λr s'=>r=w/\EP X pins σ Q r s') pl (by lia) (by lia) (by rw [AU,<-hl];exact h1) (by simpa using ew) ⟨rfl,fin⟩) hs
theorem Rv (lo hi:Option Int) (n:Nat):(Ea lo hi none n).1=((HT.sIx n 0 lo:Nat):Int)/\(Ea lo hi none n).2.1=((HT.sIx n n hi:Nat):Int)/\(Ea lo hi none n).2.2=1:=by
 refine ⟨?_,?_,rfl⟩
 ·cases lo with
  | none=>simp [Ea,HT.sIx]
  | some i=>
   simp only [Ea,HT.sIx,Y2,show (1:Int) > 0 by decide,if_true]
   by_cases h:i < 0
   ·simp only [h,if_true] <;> lia
   ·simp only [h,if_false] <;> lia
 ·cases hi with
  | none=>simp [Ea,HT.sIx]
  | some i=>
   simp only [Ea,HT.sIx,Y2,show (1:Int) > 0 by decide,if_true]
   by_cases h:i < 0
   ·simp only [h,if_true] <;> lia
   ·simp only [h,if_false] <;> lia
theorem QX (its:List AD) (lo hi:Option Int):Yt its.toArray lo hi none=((its.drop (HT.sIx its.length 0 lo)).take (HT.sIx its.length its.length hi - HT.sIx its.length 0 lo)).toArray:=by
 obtain ⟨h1,h2,h3⟩:=Rv lo hi its.toArray.size;unfold Yt;rw [h1,h2,h3]
 simp only [sliceRange_one,pick_run,AU] <;> rfl
def lP (K:AA):V->Option Int->Option Int->Hp->VK->Prop:=λx lo hi H Q=>∃a xs,x=.ref a/\SqL K H a xs/\∀p,H p=none->Q (.ref p) (upd H p (.lst (P7 xs lo hi)))
theorem dY:SlR X (lP X.K):=by
 intro pins s σ H x v vl vu lo hi sl Q I rx hs pl pu h;obtain ⟨a,xs,rfl,hx,q⟩:=h;cases rx;obtain ⟨its,r,ht,hz⟩:=I.list hx;have hlen:=r.length;refine ⟨"list",_,QO.lookup,ht.isList.typeIs,?_⟩;refine XJ ht.isList hs pl pu .none (by simp) ?_ (by rw [AU] <;> lia);rw [QX,<-hlen];refine ⟨.ref s.heap.objs.size,_,I.laid (t':=s.toks) (o:=.lst (P7 xs lo hi)) (λb ob q=>AI _ q) (AL _) ?_,rfl,q _ (I.hok.fresh (AL _))⟩;exact ⟨Ax (Nu xs lo hi) hz,_,0,(r.drop (HT.sIx xs.length 0 lo)).take (HT.sIx xs.length xs.length hi - HT.sIx xs.length 0 lo),Ah _ rfl⟩
theorem SW:HV X (.builtin "len") (λxs H Q=>∃p ys,xs=[.ref p]/\(SqL X.K H p ys∨SqT X.K H p ys)/\Q (.int ys.length) H):=by
 intro pins s σ H xs us Q I r h;obtain ⟨p,ys,rfl,hq,q⟩:=h;obtain ⟨u,rfl,rx⟩:=vals1 r;cases rx;have hn:=SB
 rcases hq with hq | hq
 ·obtain ⟨its,r',pl,hz⟩:=I.list hq
  have hlen:=r'.length;exact Calls.call_len_list pl.isList (by simp only [AU] <;> lia) ⟨.int ys.length,H,I.tok _,⟨s.toks+1,by rw [AU,hlen]⟩,q⟩
 ·obtain ⟨its,r',pl,hz⟩:=I.tuple hq
  have hlen:=r'.length;exact len_tuple pl (by simp only [AU] <;> lia) ⟨.int ys.length,H,I.tok _,⟨s.toks+1,by rw [AU,hlen]⟩,q⟩
theorem SV:HV X (.type "list") (λxs H Q=>∃p ys,xs=[.ref p]/\(SqL X.K H p ys∨SqT X.K H p ys)/\∀l,H l=none->Q (.ref l) (upd H l (.lst ys))):=by
 intro pins s σ H xs us Q I r h;obtain ⟨p,ys,rfl,hq,q⟩:=h;obtain ⟨u,rfl,rx⟩:=vals1 r;cases rx
 have fin:∀(its:List AD),Bd ys its->ys.length<=sizeLine->∀(h':Bq) (c':Nat),(∀b o',s.heap.get? b=some o'->h'.get? b=some o') ->
   h'.get? s.heap.objs.size=some { cls:=.type "list",dict:=none,data:=.seq its.toArray c',slots:=#[] }->EP X pins σ Q (.ref s.heap.objs.size) { s with heap:=h' }:=λits r' hz h' c' kp e=>
  ⟨.ref s.heap.objs.size,_,I.laid (t':=s.toks) kp (AL _) (show Ct X.prog X.w _ h' _ (.lst ys) from ⟨hz,its,c',r',e⟩),rfl,q _ (I.hok.fresh (AL _))⟩
 rcases hq with hq | hq
 ·obtain ⟨its,r',pl,hz⟩:=I.list hq
  have hlen:=r'.length;obtain ⟨o,ho,hc,n,hd⟩:=pl.isList;exact call_list_seq p (.inl rfl) ho hc hd (λh' c' kp e=>fin its r' hz h' c' kp e) (by simp only [AU] <;> lia)
 ·obtain ⟨its,r',pl,hz⟩:=I.tuple hq
  have hlen:=r'.length;obtain ⟨o,ho,hc,n,hd⟩:=pl;exact call_list_seq p (.inr rfl) ho hc hd (λh' c' kp e=>fin its r' hz h' c' kp e) (by simp only [AU] <;> lia)
theorem Ql:HV X (.type "tuple") (λxs H Q=>∃p ys,xs=[.ref p]/\((SqL X.K H p ys/\∀l,H l=none->Q (.ref l) (upd H l (.tup ys)))∨(SqT X.K H p ys/\Q (.ref p) H))):=by
 intro pins s σ H xs us Q I r h;obtain ⟨p,ys,rfl,h⟩:=h;obtain ⟨u,rfl,rx⟩:=vals1 r;cases rx
 rcases h with ⟨hq,q⟩ | ⟨hq,q⟩
 ·obtain ⟨its,r',pl,hz⟩:=I.list hq
  have hlen:=r'.length;refine call_tuple_list pl.isList (λh' kp=>?_) (by simp only [AU] <;> lia);have I1:Inv X pins σ H { s with heap:=h' }:=I.kept (t':=s.toks) kp
  have I2:Inv X pins σ (upd H h'.objs.size (.tup ys)) { s with heap:=h'.push { cls:=.type "tuple",data:=.seq its.toArray } }:=
   I1.laid (t':=s.toks) (λb o e=>AI _ e) (AL _) (show Ct X.prog X.w _ _ _ (.tup ys) from ⟨hz,its,r',ZM _ _⟩)
  exact ⟨.ref h'.objs.size,_,I2,rfl,q _ (I1.hok.fresh (AL _))⟩
 ·obtain ⟨its,r',pl,hz⟩:=I.tuple hq
  exact call_tuple_same pl ⟨.ref p,H,I,rfl,q⟩
def tyV (K:AA) (T:String) (x:V) (H:Hp):Prop:=match x with
 | .str _=>T = "str"
 | .int _=>T = "int"
 | .ref p=>(T = "list"/\∃xs,SqL K H p xs)∨(T = "tuple"/\∃o,K.lookup p=some o/\o.cls=.type "tuple"/\o.dict=none) ∨
   (T = "dict"/\((∃kvs,H p=some (.dK kvs))∨∃kvs,H p=some (.dT kvs)))∨(T = "set"/\∃S n,H p=some (.set S n))
 | _=>False
theorem Zi {pins:List (AK×Obj)} {σ:St} {H:Hp} {s:AG} {T:String} {x:V} {v:AD} (I:Inv X pins σ H s) (r:RelV x v) (ty:tyV X.K T x H) :
  s.TypeIs v T/\∀a,v=.ref a->∃ob,s.heap.get? a=some ob/\ob.dict=none:=by
 cases x with
 | str z=>
  obtain ⟨t,rfl⟩:=r;cases (show T = "str" from ty);exact ⟨typeIs_str s z t,λ_ e=>nomatch e⟩
 | int i=>
  obtain ⟨t,rfl⟩:=r;cases (show T = "int" from ty);exact ⟨typeIs_int s i t,λ_ e=>nomatch e⟩
 | ref p=>
  cases r
  rcases ty with ⟨rfl,xs,hq⟩ | ⟨rfl,o,hk,hc,hd⟩ | ⟨rfl,hk⟩ | ⟨rfl,S,n,hk⟩
  ·obtain ⟨its,_,pl,_⟩:=I.list hq
   refine ⟨pl.isList.typeIs,λa e=>?_⟩;cases e;obtain ⟨o,n,e,c,hd,_⟩:=pl;exact ⟨o,e,hd⟩
  ·refine ⟨⟨o,I.kIn p o hk,hc⟩,λa e=>?_⟩
   cases e;exact ⟨o,I.kIn _ o hk,hd⟩
  ·have z:∃o,s.heap.get? p=some o/\o.ExactDict:=by
    rcases hk with ⟨kvs,hk⟩ | ⟨kvs,hk⟩
    ·obtain ⟨_,_,_,_,o,_,_,e,ex,_⟩:=I.hok p _ hk
     exact ⟨o,e,ex⟩
    ·obtain ⟨_,_,_,_,o,_,_,e,ex,_⟩:=I.hok p _ hk
     exact ⟨o,e,ex⟩
   obtain ⟨o,e,ex⟩:=z;refine ⟨⟨o,e,ex.1⟩,λa e2=>?_⟩;cases e2;exact ⟨o,e,ex.2.1⟩
  ·obtain ⟨o,_,_,_,e,ex,_⟩:=I.hok p _ hk
   refine ⟨⟨o,e,ex.1⟩,λa e2=>?_⟩;cases e2;exact ⟨o,e,ex.2.1⟩
 | _=>exact Dr ty
def tBM0 (K:AA) (T:String) (r:V->List V->Hp->VK->Prop) (to:TE):TE:=λσ H Q=>to σ H λx H1=>tyV K T x H1/\r x [] H1 Q
def tBM (K:AA) (T:String) (r:V->List V->Hp->VK->Prop) (to:TE) (t:TA):TE:=λσ H Q=>to σ H λx H1=>tyV K T x H1/\t σ H1 λxs H2=>r x xs H2 Q
variable {o e:Expr} {es:List Expr} {to:TE} {t:TA} {name:Str} {apos cpos:Pos} {T id:String} {r:V->List V->Hp->VK->Prop}
theorem jS (pa:PlainAttrs T) (slot:Slot T name id) (hty:typeOf (.builtin id)=pure (.type "method_descriptor")) (hm:MtR X id r) (ho:PE X o to)
  (hbase:EC o name X.env (Bm o X.env)=Bm o X.env:=by rfl) (hline:(apos.endLine==cpos.line)=true:=by rfl):PE X (.Call (.Attribute o name apos) [] [] cpos) (tBM0 X.K T r to):=by
 intro pins s σ H Q I h;refine wpAny_Call_method0_late hbase hline (thn (ho pins s σ H _ I h) λv s1 ⟨x,H1,I1,r1,ty,q1⟩=>?_);obtain ⟨h1,h2⟩:=Zi I1 r1 ty;exact ⟨T,id,pa,slot,hty,h1,h2,J3 rfl (PySem.evalArgs_none (hm pins s1 σ H1 x [] v [] Q I1 r1 .nil q1))⟩
theorem gh (pa:PlainAttrs T) (slot:Slot T name id) (hty:typeOf (.builtin id)=pure (.type "method_descriptor")) (hm:MtR X id r) (ho:PE X o to) (ha:PA X (e :: es) t)
  (hbase:EC o name X.env (Bm o X.env)=Bm o X.env:=by rfl)
  (hfew:((DX cpos (AS (e :: es) X.env)).all (λx=>!x.1)&&(cS cpos (Sk [] X.env)).all (λx=>x.1.isSome)
    &&decide ((e :: es).length+([]:List LX).length+(if ([]:List LX).isEmpty then 0 else 1) < 30))=true:=by rfl)
  (hline:(apos.endLine==cpos.line)=true:=by rfl) (hs:AS (e :: es) X.env=(false,Bm e X.env) :: AS es X.env:=by rfl) (hplain:(DX cpos (AS es X.env)).any (·.1)=false:=by rfl) :
  PE X (.Call (.Attribute o name apos) (e :: es) [] cpos) (tBM X.K T r to t):=by
 intro pins s σ H Q I h;refine wpAny_Call_method_late hbase hfew hline rfl (thn (ho pins s σ H _ I h) λv s1 ⟨x,H1,I1,r1,ty,q1⟩=>?_);obtain ⟨h1,h2⟩:=Zi I1 r1 ty;refine ⟨T,id,pa,slot,hty,h1,h2,?_⟩;have hA:=ha cpos pins s1 σ H1 _ I1 q1;rw [hs] at hA ⊢;refine J3 (by show (false||(DX cpos (AS es X.env)).any (·.1))=false;rw [hplain] <;> rfl) (Kz ?_)
 exact thn hA λus s2 ⟨vs,H2,I2,r2,q2⟩=>hm pins s2 σ H2 x vs v us Q I2 r1 r2 q2
def MtM (X:Cx) (id:String) (r:V->List V->Hp->VK->Prop):Prop:=
 ∀(pins:List (AK×Obj)) (s:AG) (σ:St) (H:Hp) (x:V) (xs:List V) (v:AD) (us:List AD) (Q:VK),Inv X pins σ H s->RelV x v->Bd xs us->r x xs H Q ->
  Al (AZ X.prog X.w) X.A (call (.builtin id) (v :: us)) (EP X pins σ Q) X.xe s
theorem Bd.one:∀ {x:V} {us:List AD},Bd [x] us->∃u,us=[u]/\RelV x u
 | _,_,.cons r .nil=>⟨_,rfl,r⟩
theorem Bd.zero:∀ {us:List AD},Bd [] us->us=[]
 | _,.nil=>rfl
theorem Bd.reverse {xs:List V} {us:List AD} (h:Bd xs us):Bd xs.reverse us.reverse:=by
 induction h with
 | nil=>exact .nil
 | cons r t ih=>rw [JC,JC];exact Bd.append ih (.cons r .nil)
section
variable {X:Cx} {pins:List (AK×Obj)} {σ:St} {H:Hp} {s:AG} {a:AK} {y v:V} {u r:AD} {o:Option V} {A:BA} {E:AD->AG->Prop}
theorem Inv.big (I:Inv X pins σ H s):DS < s.heap.objs.size:=by
 have h:Af < s.heap.objs.size:=(I.mod.glob.keeps I.bk).lt;exact ko (by decide) h
theorem Ye {Q:AD->AG->Prop} (hu:A.units+1 < Eb) (I:Inv X pins σ H s) (g:Mr H a y (some v)) (ry:RelV y u) (h:∀w' s',Inv X pins σ H s'->RelV v w'->Q w' s') :
  Al (AZ X.prog X.w) A (NY (.ref a) u) Q E s:=by
 rcases g with ⟨kvs,k,e,ey,l⟩ | ⟨kvs,k,b,e,ey,eb,l⟩
 ·subst ey
  obtain ⟨z,hd,vs,rel,dd⟩:=RK I.hok e;obtain ⟨w',hw,rw'⟩:=NX.some_of (v:=v) (o:=QN vs k) (by rw [l];exact rel.val k);exact wpAny_getItem_of (RC ry) dd.mapOf hw (h w' _ (I.tok _) rw')
 ·subst ey
  cases (show u=A0 b from ry);obtain ⟨z,hd,xs,rel,dd⟩:=RJ I.hok e;obtain ⟨w',hw,rw'⟩:=NX.some_of (v:=v) (o:=(Uo xs k).map (·.2)) (by rw [l];exact rel.val k);obtain ⟨p,hp,hp2⟩:=Option.map_eq_some_iff.mp hw;refine wpAny_getItem_heap (JY hu) (Pn I.hok eb) dd hp ?_;rw [hp2];exact h w' _ (I.tok _) rw'
theorem d_in {Q:AD->AG->Prop} (hu:A.units+1 < Eb) (I:Inv X pins σ H s) (g:Mr H a y o) (ry:RelV y u) (h:∀s',Inv X pins σ H s'->Q (.bool o.isSome) s') :
  Al (AZ X.prog X.w) A (Bp .In u (.ref a)) Q E s:=by
 rcases g with ⟨kvs,k,e,ey,l⟩ | ⟨kvs,k,b,e,ey,eb,l⟩
 ·subst ey
  obtain ⟨z,hd,vs,rel,dd⟩:=RK I.hok e;refine wpAny_in_of (RC ry) hd dd.mapOf ?_;rw [<-(rel.val k).isSome_eq,<-l];exact h _ (I.tok _)
 ·subst ey
  cases (show u=A0 b from ry);obtain ⟨z,hd,xs,rel,dd⟩:=RJ I.hok e;refine wpAny_in_heap (JY hu) (Pn I.hok eb) hd dd ?_;have q:=(rel.val k).isSome_eq;rw [Ms] at q;rw [<-q,<-l];exact h _ (I.tok _)
theorem fh {Q:AD->AG->Prop} (hu:A.units+1 < Eb) (I:Inv X pins σ H s) (g:Mr H a y o) (ry:RelV y u) (h:∀s',Inv X pins σ H s'->Q (.bool (!o.isSome)) s') :
  Al (AZ X.prog X.w) A (Bp .NotIn u (.ref a)) Q E s:=by
 rcases g with ⟨kvs,k,e,ey,l⟩ | ⟨kvs,k,b,e,ey,eb,l⟩
 ·subst ey
  obtain ⟨z,hd,vs,rel,dd⟩:=RK I.hok e;refine wpAny_notIn_of (RC ry) hd dd.mapOf ?_;rw [<-(rel.val k).isSome_eq,<-l];exact h _ (I.tok _)
 ·subst ey
  cases (show u=A0 b from ry);obtain ⟨z,hd,xs,rel,dd⟩:=RJ I.hok e;refine wpAny_notIn_heap (JY hu) (Pn I.hok eb) hd dd ?_;have q:=(rel.val k).isSome_eq;rw [Ms] at q;rw [<-q,<-l];exact h _ (I.tok _)
theorem Og {h':Bq} {t':Nat} {ob:HO} (I:Inv X pins σ H s) (mu:Mut (H a)) (hs:EI a s.heap h') (he:∃q,h'.get? a=some q) (new:Ct X.prog X.w (upd H a ob) h' a ob) :
  Inv X pins σ (upd H a ob) { s with heap:=h',toks:=t' }:=
 I.write (x:=a) (e:=a) mu (.inl rfl) (λb q hb z=>(hs.2 b hb).trans z) he new
theorem V0 {P:Aq} {w:BF} {H':Hp} {h':Bq} {kvs:List (Key×V)} {vs:List (Key×AD)} (z:kvs.length<=sizeLine) (hd:(a==DS)=false) (rel:KV kvs vs) (dd:h'.DictOf (DW P w) a vs) :
  Ct P w H' h' a (.dK kvs):=⟨z,hd,vs,rel,dd⟩
theorem Yd {H':Hp} {Q:Unit->AG->Prop} (hu:A.units+1 < Eb) (I:Inv X pins σ H s) (g:UW H a y v H') (ry:RelV y u) (rv:RelV v r) (h:∀s',Inv X pins σ H' s'->Q () s') :
  Al (AZ X.prog X.w) A (setItem (.ref a) u r) Q E s:=by
 rcases g with ⟨kvs,k,e,ey,l,eH⟩ | ⟨kvs,k,b,e,ey,eb,l,eH⟩
 ·subst ey eH
  obtain ⟨z,hd,vs,rel,dd⟩:=W6 I.hok e
  have hz:vs.length<=sizeLine:=by rw [<-rel.length];exact z
  have hl:(HG kvs k v).length<=sizeLine:=by have:=KS kvs k v;lia
  refine wpAny_setItem_pairs (hsz:=hz) (RC ry) dd λh' dd' hs=>h _ ?_
  have he:∃q,h'.get? a=some q:=let ⟨q,_,_,hq,_⟩:=dd';⟨q,hq⟩
  exact Og I (by rw [e];exact Cv) hs he (V0 hl hd (rel.put k rv) dd')
 ·subst ey eH
  cases (show u=A0 b from ry);obtain ⟨z,hd,xs,rel,dd⟩:=mT I.hok e
  have hz:xs.length<=sizeLine:=by rw [<-EQ rel];exact z
  have hl:(HG kvs k v).length<=sizeLine:=by have:=KS kvs k v;lia
  refine wpAny_setItem_heap (hsz:=hz) (JY hu) (Pn I.hok eb) dd λh' dd' hs=>h _ ?_
  obtain ⟨q,es,ep,hq,h2,h3,h4,_,h5⟩:=dd';refine Og I (by rw [e];exact Cv) hs ⟨q,hq⟩ ⟨hl,hd,_,(rel.put k eb rv).keeps λc ys ec=>?_,q,es,ep,hq,h2,h3,h4,h5⟩;rw [By (lr ec e (λz=>nomatch z))];exact ec
variable {X:Cx} {pins:List (AK×Obj)} {σ:St} {H:Hp} {s:AG} {l b:AK} {xs ys zs:List V}
theorem Inv.lset {its its':List AD} {n:Nat} {f:Array AD->Array AD} {t':Nat} (I:Inv X pins σ H s) (hH:H l=some (.lst xs))
  (e:s.heap.get? l=some { cls:=.type "list",data:=.seq its.toArray n }) (hf:f its.toArray=its'.toArray) (hv:Bd ys its') (hz:ys.length<=sizeLine) :
  Inv X pins σ (upd H l (.lst ys)) { s with heap:=s.heap.update l (E7 f),toks:=t' }:=by
 have q:=PySem.IsL.update e f;rw [hf] at q;refine I.write (x:=l) (e:=l) (by rw [hH];exact trivial) (.inl rfl) (λb' u hb hu=>(Ce s.heap (E7 f) (Bw hb)).trans hu) ⟨_,q⟩ ?_;exact ⟨hz,its',_,hv,q⟩
theorem Inv.lnew {its:List AD} {t':Nat} (I:Inv X pins σ H s) (hv:Bd ys its) (hz:ys.length<=sizeLine) :
  Inv X pins σ (upd H s.heap.objs.size (.lst ys)) { s with heap:=s.heap.push { cls:=.type "list",data:=.seq its.toArray },toks:=t' }:=
 I.laid (λ_ _ q=>AI _ q) (AL _) ⟨hz,its,0,hv,Ah _ rfl⟩
theorem Inv.fresh (I:Inv X pins σ H s):H s.heap.objs.size=none:=I.hok.fresh (AL _)
theorem Inv.lstM (I:Inv X pins σ H s) (hH:H l=some (.lst xs)):xs.length<=sizeLine/\∃(its:List AD) (n:Nat),Bd xs its/\xs.length=its.length/\s.heap.get? l=some { cls:=.type "list",data:=.seq its.toArray n }:=by
 obtain ⟨z,its,n,r,e⟩:=I.hok l _ hH;exact ⟨z,its,n,r,r.length,e⟩
theorem aX {n:Nat} (h:n<=sizeLine):Hj n=false:=by
 unfold Hj;exact wY (by lia)
end
section
variable {X:Cx} {pins:List (AK×Obj)} {σ:St} {H:Hp} {s:AG} {a:AK} {kvs:List (Key×V)} {k:Key} {u:AD} {A:BA} {E:AD->AG->Prop}
end
def kN (i:Expr):Prop:=∀ov iv,Sh i false ov iv=operate [ov,iv] (NY ov iv)
theorem dW {prog:Aq} {w:BF} {A:BA} {E:AD->AG->Prop} {s:AG} {env:Env} {value slice:Expr} {pos:Pos} {T id:String} {Q:AD->AG->Prop}
  (hl:Uj (.type T) "__getitem__" = pure (some (.builtin id))) (hs:kN slice)
  (h:Al (AZ prog w) A (Bm value env) (λo s₁=>Al (AZ prog w) A (Bm slice env) (λi s₂=>s₂.TypeIs o T/\Al (AZ prog w) A (NY o i) Q E s₂) E s₁) E s) :
  Al (AZ prog w) A (Bm (.Subscript value slice pos) env) Q E s:=by
 refine Us (GZ h (λo s₁ h₁=>GZ h₁ (λi s₂ h₂=>?_) λ_ _ x=>x) λ_ _ x=>x);obtain ⟨hT,h₂⟩:=h₂;unfold OK;refine AB ?_;rw [getitemInPython_of_ne hT.not_modules];refine AB (Su hT hl ?_)
 have fin:Al (AZ prog w) A (Sh slice false o i) (λr s₃=>Al (AZ prog w) A (letTemporaryGo value o r >>= λ_=>pure r) Q E s₃) E s₂:=by
  rw [hs o i];exact wpAny_operating (GZ h₂ (λr s₃ h₃=>AB (wpAny_letTemporaryGo (AM h₃))) λ_ _ x=>x)
 first
  | exact AM (AB fin)
  | exact AB (AM (AB fin))
  | exact AB fin
theorem UK {X:Cx} {pins:List (AK×Obj)} {σ:St} {H:Hp} {s:AG} {a:AK} {y:V} {o:Option V} (I:Inv X pins σ H s) (g:Mr H a y o):s.TypeIs (.ref a) "dict":=by
 rcases g with ⟨kvs,k,e,_,_⟩ | ⟨kvs,k,b,e,_,_,_⟩
 ·obtain ⟨_,_,vs,_,dd⟩:=RK I.hok e
  exact dd.typeIs
 ·obtain ⟨_,_,xs,_,dd⟩:=RJ I.hok e
  exact dd.typeIs
def lI (td ty:TE):TE:=λσ H Q=>td σ H λx H1=>ty σ H1 λy H2=>∃a v,x=.ref a/\Mr H2 a y (some v)/\Q v H2
def lH (ty td:TE):TE:=λσ H Q=>ty σ H λy H1=>td σ H1 λx H2=>∃a o,x=.ref a/\Mr H2 a y o/\Q (.bl o.isSome) H2
def WV (ty td:TE):TE:=λσ H Q=>ty σ H λy H1=>td σ H1 λx H2=>∃a o,x=.ref a/\Mr H2 a y o/\Q (.bl (!o.isSome)) H2
def lN (td ty tv:TE):TS:=λD σ H=>tv σ H λv H1=>td σ H1 λx H2=>ty σ H2 λy H3=>∃a H4,x=.ref a/\UW H3 a y v H4/\D.nx σ H4
variable {X:Cx}
def di:V->List V->Hp->VK->Prop:=λx vs H Q=>∃l xs y,x=.ref l/\vs=[y]/\H l=some (.lst xs)/\xs.length < sizeLine/\Q .non (upd H l (.lst (xs++[y])))
theorem Q7:MtM X "list.append" di:=by
 intro pins s σ H x vs v us Q I rx rv h;obtain ⟨l,xs,y,rfl,rfl,hH,hz,q⟩:=h;cases rx;obtain ⟨u,rfl,ru⟩:=rv.one;obtain ⟨z,its,n,r,hl,e⟩:=I.lstM hH;refine hU F.slot_list_append ⟨_,e,rfl⟩ F.entry_list_append (F.args_list_append_2 _ _) (PySem.list_append l its.toArray n u (by rw [AU];lia)) ⟨e,?_⟩;refine ⟨.non,_,I.lset (its':=its++[u]) hH e (by simp) (r.append (.cons ru .nil)) ?_,rfl,q⟩;rw [Ao,DY]
 lia
def dh:V->List V->Hp->VK->Prop:=λx vs H Q=>∃l b xs zs,x=.ref l/\vs=[.ref b]/\H l=some (.lst xs)/\H b=some (.lst zs)/\xs.length+zs.length<=sizeLine/\Q .non (upd H l (.lst (xs++zs)))
theorem X7:MtM X "list.extend" dh:=by
 intro pins s σ H x vs v us Q I rx rv h;obtain ⟨l,b,xs,zs,rfl,rfl,hH,hB,hz,q⟩:=h;cases rx;obtain ⟨u,rfl,ru⟩:=rv.one;cases ru;obtain ⟨z,its,n,r,hl,e⟩:=I.lstM hH;obtain ⟨z2,its2,n2,r2,hl2,e2⟩:=I.lstM hB
 have hsz:its.toArray.size+its2.toArray.size<=sizeLine:=by rw [AU,AU];lia
 have hlong:¬(!its.toArray.isEmpty&&Hj (its.toArray.size+its2.toArray.size))=true:=by
  rw [aX hsz,Bool.and_false];exact AR
 refine hU F.slot_list_extend ⟨_,e,rfl⟩ F.entry_list_extend (F.args_list_extend_2 _ _)
  (AutoSeq1.list_extend_list_list_0 l its.toArray n b its2.toArray n2 hlong (by rw [AU];lia) (by lia)) ⟨e,e2,?_⟩
 refine ⟨.non,_,I.lset (its':=its++its2) hH e (by simp) (r.append r2) ?_,rfl,q⟩;rw [Ao];omega
def Z9:V->List V->Hp->VK->Prop:=λx vs H Q=>∃l xs,x=.ref l/\vs=[]/\H l=some (.lst xs)/\Q .non (upd H l (.lst xs.reverse))
theorem Vi:MtM X "list.reverse" Z9:=by
 intro pins s σ H x vs v us Q I rx rv h;obtain ⟨l,xs,rfl,rfl,hH,q⟩:=h;cases rx;have hus:=rv.zero;subst hus;obtain ⟨z,its,n,r,hl,e⟩:=I.lstM hH;refine hU F.slot_list_reverse ⟨_,e,rfl⟩ F.entry_list_reverse (F.args_list_reverse_1 _) (AutoSeq1.list_reverse_list_0 l its.toArray n (by rw [AU];lia)) ⟨e,?_⟩;refine ⟨.non,_,I.lset (its':=its.reverse) hH e (by simp) r.reverse ?_,rfl,q⟩;rw [Hq];omega
def rCat:R2:=λx y H Q=>∃l b xs zs,x=.ref l/\y=.ref b/\H l=some (.lst xs)/\H b=some (.lst zs)/\xs.length+zs.length<=sizeLine/\∀p,H p=none->Q (.ref p) (upd H p (.lst (xs++zs)))
theorem jZ:OpR X (D7 .Add) rCat:=by
 intro pins s σ H x y v u Q I rx ry h;obtain ⟨l,b,xs,zs,rfl,rfl,hH,hB,hz,q⟩:=h;cases rx;cases ry;obtain ⟨z,its,n,r,hl,e⟩:=I.lstM hH;obtain ⟨z2,its2,n2,r2,hl2,e2⟩:=I.lstM hB;refine PySem.P.add_list e e2 ?_ (by rw [AU,AU];lia)
 have ea:its.toArray++its2.toArray=(its++its2).toArray:=by simp
 rw [ea];exact ⟨.ref _,_,I.lnew (t':=s.toks) (r.append r2) (by rw [Ao];omega),rfl,q _ I.fresh⟩
section
variable {X:Cx} {o i e value:Expr} {pos pos' tpos:Pos} {td ty tv:TE}
theorem eN (hu:X.A.units+1 < Eb) (ho:PE X o td) (hi:PE X i ty) (hs:kN i):PE X (.Subscript o i pos) (lI td ty):=by
 intro pins s σ H Q I h;refine dW PySem.F.slot_dict_getitem.lookup hs (thn (ho pins s σ H _ I h) λu s1 ⟨x,H1,I1,rx,q1⟩=>thn (hi pins s1 σ H1 _ I1 q1) λiv s2 ⟨y,H2,I2,ry,a,v,ex,g,q2⟩=>?_);subst ex;obtain rfl:u=A0 a:=rx;exact ⟨UK I2 g,Ye hu I2 g ry λw' s3 I3 rw'=>⟨v,H2,I3,rw',q2⟩⟩
theorem aP (hu:X.A.units+1 < Eb) (hi:PE X i ty) (ho:PE X o td):PC X .In i o (lH ty td):=by
 intro pins s σ H Q I h
 refine thn (hi pins s σ H _ I h) λiv s1 ⟨y,H1,I1,ry,q1⟩=>thn (ho pins s1 σ H1 _ I1 q1) λu s2 ⟨x,H2,I2,rx,a,ov,ex,g,q2⟩=>?_
 subst ex;obtain rfl:u=A0 a:=rx
 exact d_in hu I2 g ry λs3 I3=>⟨.bl ov.isSome,H2,I3,rfl,q2⟩
theorem X3 (hu:X.A.units+1 < Eb) (hi:PE X i ty) (ho:PE X o td):PC X .NotIn i o (WV ty td):=by
 intro pins s σ H Q I h
 refine thn (hi pins s σ H _ I h) λiv s1 ⟨y,H1,I1,ry,q1⟩=>thn (ho pins s1 σ H1 _ I1 q1) λu s2 ⟨x,H2,I2,rx,a,ov,ex,g,q2⟩=>?_
 subst ex;obtain rfl:u=A0 a:=rx
 exact fh hu I2 g ry λs3 I3=>⟨.bl (!ov.isSome),H2,I3,rfl,q2⟩
theorem dv (hu:X.A.units+1 < Eb) (ho:PE X o td) (hi:PE X i ty) (hv:PE X value tv) (hs:Fo value (some (.Subscript o i pos')) pos.line X.env=pure false) :
  PS X (.Assign [.Subscript o i pos'] value pos) (lN td ty tv):=by
 intro pins s σ H D I h;refine wpAny_Assign_Subscript (thn (hv pins s σ H _ I h) λr s1 ⟨v,H1,I1,rv,q1⟩=>thn (ho pins s1 σ H1 _ I1 q1) λu s2 ⟨x,H2,I2,rx,q2⟩=>thn (hi pins s2 σ H2 _ I2 q2) λiv s3 ⟨y,H3,I3,ry,a,H4,ex,g,q3⟩=>?_) hs;subst ex;obtain rfl:u=A0 a:=rx
 exact Yd hu I3 g ry rv λs4 I4=>⟨σ,H4,I4,q3⟩
end
theorem UJ {P:Aq} {w:BF} {H:Hp} (h:Bq) (hb:DS < h.objs.size):Ct P w H (h.push { cls:=.type "dict",data:=.dict #[] }) h.objs.size (.dK []):=
 ⟨Cm _,beq_eq_false_iff_ne.mpr (Bw (Ak hb)),[],.nil,Bq.DictOf.new h⟩
theorem bg {P:Aq} {w:BF} {H:Hp} (h:Bq) (hb:DS < h.objs.size):Ct P w H (h.push { cls:=.type "dict",data:=.dict #[] }) h.objs.size (.dT []):=
 ⟨Cm _,beq_eq_false_iff_ne.mpr (Bw (Ak hb)),[],.nil,_,#[],0,Ah _ rfl,⟨rfl,rfl,rfl⟩,rfl,rfl,IR⟩
def ik:TE:=λ_ H Q=>∀p,H p=none->Q (.ref p) (upd H p (.dK []))
def ij:TE:=λ_ H Q=>∀p,H p=none->Q (.ref p) (upd H p (.dT []))
variable {prog:Aq} {w:BF} {A:BA} {E:AD->AG->Prop} {s:AG}
section
variable {X:Cx} {pos:Pos}
theorem aO:PE X (.Dict [] [] pos) ik:=λpins s σ H Q I h=>
 kf ⟨.ref s.heap.objs.size,_,I.laid (a:=s.heap.objs.size) (o:=.dK []) (t':=s.toks) (λ_ _ q=>AI _ q) (AL _) (UJ s.heap I.big),rfl,h _ (I.hok.fresh (AL _))⟩
theorem aN:PE X (.Dict [] [] pos) ij:=λpins s σ H Q I h=>
 kf ⟨.ref s.heap.objs.size,_,I.laid (a:=s.heap.objs.size) (o:=.dT []) (t':=s.toks) (λ_ _ q=>AI _ q) (AL _) (bg s.heap I.big),rfl,h _ (I.hok.fresh (AL _))⟩
end
def VM:List (TE×TE)->St->Hp->(List (V×V)->Hp->Prop)->Prop
 | [],_,H,Q=>Q [] H
 | (tk,tv) :: r,σ,H,Q=>tk σ H λx H1=>tv σ H1 λy H2=>VM r σ H2 λps H3=>Q ((x,y) :: ps) H3
abbrev VV:List (V×V)->List (AD×AD)->Prop:=Gb λp q=>RelV p.1 q.1/\RelV p.2 q.2
def PPs (X:Cx) (pos:Pos) (keys:List (Option Expr)) (values:List Expr) (trs:List (TE×TE)):Prop:=
 ∀(pins:List (AK×Obj)) (s:AG) (σ:St) (H:Hp) (Q:List (V×V)->Hp->Prop),Inv X pins σ H s->VM trs σ H Q ->
  Al (AZ X.prog X.w) X.A (evalPairs (pairTrees keys values X.env pos)) (λvs s'=>∃ps H',Inv X pins σ H' s'/\VV ps vs/\Q ps H') X.xe s
theorem dy {X:Cx} {pos:Pos}:PPs X pos [] [] []:=λpins s σ H Q I h=>pairTrees_nil_walk ⟨[],H,I,.nil,h⟩
theorem aH {X:Cx} {pos:Pos} {k v:Expr} {ks:List (Option Expr)} {vs:List Expr} {tk tv:TE} {trs:List (TE×TE)} (hk:PE X k tk) (hv:PE X v tv) (hr:PPs X pos ks vs trs) :
  PPs X pos (some k :: ks) (v :: vs) ((tk,tv) :: trs):=λpins s σ H Q I h=>
 pairTrees_cons_walk (thn (hk pins s σ H _ I h) λu s1 ⟨x,H1,I1,rx,q1⟩=>thn (hv pins s1 σ H1 _ I1 q1) λw2 s2 ⟨y,H2,I2,ry,q2⟩=>
  thn (hr pins s2 σ H2 _ I2 q2) λws s3 ⟨ps,H3,I3,rel,q3⟩=>⟨(x,y) :: ps,H3,I3,.cons ⟨rx,ry⟩ rel,q3⟩)
def Il (kvs more:List (Key×V)):List (Key×V):=more.foldl (λacc kv=>HG acc kv.1 kv.2) kvs
theorem KV.merge:∀ {more:List (Key×V)} {rs:List (Key×AD)} {kvs:List (Key×V)} {vs:List (Key×AD)},KV more rs->KV kvs vs->KV (Il kvs more) (merged vs rs):=by
 intro more rs kvs vs r;unfold KV at r
 induction r generalizing kvs vs with
 | nil=>intro q;exact q
 | @cons p q ps qs h t ih=>
  intro r0
  have e:KV (HG kvs p.1 p.2) (stored vs q.1 q.2):=by
   have:=r0.put p.1 h.2;rw [<-h.1];exact this
  exact ih e
theorem Io:∀(more kvs:List (Key×V)),(Il kvs more).length<=kvs.length+more.length
 | [],kvs=>by show kvs.length<=kvs.length+0;lia
 | p :: r,kvs=>by
  have h1:=Io r (HG kvs p.1 p.2);have h2:=KS kvs p.1 p.2;show (Il (HG kvs p.1 p.2) r).length<=_;rw [A6];lia
theorem QA {P:Aq} {w:BF}:∀ {kvs:List (Key×V)} {ws:List (AD×AD)},VV (kvs.map λkv=>(kV kv.1,kv.2)) ws->∃rs,Carries (DW P w) ws rs/\KV kvs rs
 | [],_,r=>by rw [KA] at r;cases r;exact ⟨[],Cv,.nil⟩
 | p :: kvs,_,r=>by
  rw [A5] at r
  cases r with
  | @cons a b as bs h t=>
   obtain ⟨rs,c,q⟩:=QA (P:=P) (w:=w) t;obtain ⟨b1,b2⟩:=b;exact ⟨(p.1,b2) :: rs,⟨RC h.1,rfl,c⟩,.cons ⟨rfl,h.2⟩ q⟩
def lF (trs:List (TE×TE)):TE:=λσ H Q=>∀p,H p=none->VM trs σ (upd H p (.dK [])) λps H2=>H2 p=some (.dK [])/\∃kvs:List (Key×V),ps=kvs.map (λkv=>(kV kv.1,kv.2))/\kvs.length<=15/\Q (.ref p) (upd H2 p (.dK (Il [] kvs)))
theorem eM {X:Cx} {pos:Pos} {keys:List (Option Expr)} {values:List Expr} {trs:List (TE×TE)} (h:PPs X pos keys values trs) (hall:keys.all (·.isSome)=true) (hl:keys.length=values.length) (h0:keys≠[])
  (h15:keys.length<=15):PE X (.Dict keys values pos) (lF trs):=by
 intro pins s σ H Q I q;have hn:=I.hok.fresh (AL s.heap.objs.size);have I1:=I.laid (a:=s.heap.objs.size) (o:=.dK []) (h':=s.heap.push { cls:=.type "dict",data:=.dict #[] }) (t':=s.toks) (λ_ _ q=>AI _ q) (AL _) (UJ s.heap I.big);refine wpAny_Dict_walk (knd:=DW X.prog X.w) hall hl h0 h15 (thn (h pins _ σ _ _ I1 (q _ hn)) λws s2 ⟨ps,H2,I2,rel,e,kvs,ep,lk,q2⟩=>?_);subst ep;obtain ⟨rs,c,rk⟩:=QA (P:=X.prog) (w:=X.w) rel;obtain ⟨z,hd,vs0,r0,dd⟩:=W6 I2.hok e;cases r0;refine ⟨rs,c,dd,λh' dd' hs=>⟨.ref s.heap.objs.size,_,?_,rfl,q2⟩⟩
 have hz:(Il [] kvs).length<=sizeLine:=by
  have h1:=Io kvs [];rw [Hi] at h1;rw [Si];lia
 have he:∃q,h'.get? s.heap.objs.size=some q:=let ⟨q,_,_,hq,_⟩:=dd';⟨q,hq⟩
 exact Og I2 (by rw [e];exact Cv) hs he (V0 hz hd (rk.merge .nil) dd')
structure M1 (X:Cx) (o:Expr) (m:Str) (apos:Pos) (e:Expr) (cpos:Pos):Prop where
 base:EC o m X.env (Bm o X.env)=Bm o X.env
 few:((DX cpos (AS [e] X.env)).all (λx=>!x.1)&&(cS cpos (Sk [] X.env)).all (λx=>x.1.isSome)
   &&decide (([e]:List Expr).length+([]:List LX).length+(if ([]:List LX).isEmpty then 0 else 1) < 30))=true
 line:(apos.endLine==cpos.line)=true
 trees:DX cpos (AS [e] X.env)=[(false,Bm e X.env)]
def IsD (H:Hp) (a:AK):Prop:=(∃kvs,Rd H a (.dK kvs))∨∃kvs,Rd H a (.dT kvs)
theorem jq {X:Cx} {pins:List (AK×Obj)} {σ:St} {H:Hp} {s:AG} {a:AK} (I:Inv X pins σ H s) (d:IsD H a) :
  s.TypeIs (.ref a) "dict"/\(∀b,A0 a=.ref b->∃ob,s.heap.get? b=some ob/\ob.dict=none)/\(a==DS)=false:=by
 rcases d with ⟨kvs,e⟩ | ⟨kvs,e⟩
 ·obtain ⟨_,hd,vs,_,dd⟩:=RK I.hok e
  refine ⟨dd.typeIs,λb q=>?_,hd⟩;cases q;obtain ⟨ob,_,_,h1,h2,_⟩:=dd;exact ⟨ob,h1,h2.2.1⟩
 ·obtain ⟨_,hd,xs,_,dd⟩:=RJ I.hok e
  refine ⟨dd.typeIs,λb q=>?_,hd⟩;cases q;obtain ⟨ob,_,_,h1,h2,_⟩:=dd;exact ⟨ob,h1,h2.2.1⟩
section
variable {X:Cx} {pins:List (AK×Obj)} {σ:St} {H:Hp} {s:AG} {a:AK} {y d:V} {u r:AD} {o:Option V} {A:BA} {E:AD->AG->Prop}
end
section
variable {X:Cx} {o e f:Expr} {apos cpos:Pos} {td ty tx:TE}
end
section
variable {X:Cx} {pins:List (AK×Obj)} {σ:St} {H:Hp} {s:AG} {a:AK} {kvs:List (Key×V)} {A:BA} {E:AD->AG->Prop}
end
section
variable {X:Cx} {pins:List (AK×Obj)} {σ:St} {H:Hp} {s:AG} {a:AK} {y:V} {u:AD} {A:BA} {E:AD->AG->Prop}
variable {X:Cx}
end
end L2
namespace Att
open PySem PySem.W PySem.Calls PyProof.Rows
theorem OJ {P:Params} {h:Bq}:∀(ns:List Int) (vs:List AD),WellAll P h vs (ns.map mw)->IntsAre vs ns:=by
 intro ns
 induction ns with
 | nil=>
  intro vs w;rw [KA] at w;cases w;exact .nil
 | cons n ns ih=>
  intro vs w;rw [A5] at w
  cases w with
  | cons a b=>
   cases a;exact .cons _ _ (ih _ b)
theorem Xp {l:OpenLaw} {n:Nat} (hn:l.most=some n) {P:Params} {h:Bq} {args:List WData} {vals:List AD}
  (hpre:l.row.toRowW.claim.pre args=true) (hwl:WellAll P h vals args) :
  ∃a vs ns,vals=[A0 a]/\args=[WData.list (ns.map mw)]/\h.get? a=some { cls:=.type "list",data:=.seq vs.toArray }/\IntsAre vs ns/\ns.length<=n:=by
 have hsh:WShape.hasAll [] args [.list .int]=true:=(pre_splitW hpre).1;have hc:l.pre.holds [] { args:=args }=true:=(pre_splitW hpre).2;obtain ⟨d,r,rfl,h1,h2⟩:=hasAllW_cons hsh;obtain rfl:=hasAllW_nil h2;obtain ⟨xs,rfl,h3⟩:=hasW_list h1;obtain ⟨ns,rfl⟩:=items_int h3
 have hlen:ns.length<=n:=by
  unfold OpenLaw.pre at hc
  have h4:(WTm.not (.lt (.lit (.int (n:Int))) (.len (.arg 0)))).holds [] { args:=[.list (ns.map .int)] }=true:=by
   have h4:=(holds_andW hc).1;rw [hn] at h4;exact h4
  have h5:=condW_of h4 (w_not (w_lt w_lit (w_len_list (w_arg rfl))));rw [AH] at h5
  refine Oq λq=>?_
  have q':(n:Int) < ((ns.length:Nat):Int):=by omega
  first
   | (rw [wX q'] at h5;exact zX h5 (by decide))
   | (simp at h5;omega)
 cases hwl with
 | cons w1 w2=>
  cases w2
  cases w1 with
  | list ho hall=>exact ⟨_,_,ns,rfl,rfl,ho,OJ ns _ hall,hlen⟩
theorem Xu (l:OpenLaw) (args:List WData):l.row.toRowW.claim.post args (.bool true) args=true:=
 postW_of (r:=l.row.toRowW) (X:=(true==true))
  (show kW [] (.bool true) .bool=true by first | rfl | decide | simp [kW,WShape.arms,WShape.armsAll])
  (show (WTm.eq .res (.lit (.bool true))).value [] { args:=args,res:=some (.bool true),after:=args }=some (.bool (true==true)) from w_eq_bool (w_res rfl) w_lit) rfl
theorem UQ {l:OpenLaw} {n:Nat} {q:Aq} {loose:List Str} {XP:(Str->Option AD)->Bq->Prop} {YP:BF->Bq->Prop} {d:DefRec}
  (hn:l.most=some n) (hdf:d.params.defaults=[])
  (call:∀(w:BF) (s₀ s₁:AG) (mg mb:Str->Option AD) (fa:AK) (o:Obj) (pm cd doc:AD) (a:AK) (vs:List AD) (ns:List Int),
   Ground q loose [] XP w s₀ mg mb s₁.heap->YP w s₁.heap ->
   s₁.heap.get? fa=some o->o.data=.func (docDef d.name d.params d.body d.scope pm cd doc)->s₁.heap.CodeRec cd d.name->mg d.name=some (.ref fa) ->
   s₁.heap.get? a=some { cls:=.type "list",data:=.seq vs.toArray }->IntsAre vs ns->ns.length<=n->s₁.gens = #[] ->
   J9 (AZ l.prog w) QP (.call (.ref fa) ⟨[.ref a],[]⟩) (λr s'=>r=.ok (.ret (.bool true))/\OldK s₁.heap s'.heap/\s'.os=s₁.os/\II s'.gens) s₁) :
  WalkO q loose XP YP l.row.toRowW d [] (λf vs=>XR f vs):=by
 intro w s₀ s₁ mg mb G Y fa o pm cd doc dV kV ho hd hcd hD hmg hg args vals as hpre hlay hrd hwl hlo;obtain rfl:dV=.none:=Dflts.none hD hdf;obtain rfl:kV=.none:=Dflts.noKw hD;obtain ⟨a,vs,ns,rfl,rfl,hobj,hints,hlen⟩:=Xp hn hpre hwl;refine enter_call (Ix (call w s₀ s₁ mg mb fa o pm cd doc a vs ns G Y ho (fd_plain hd) hcd hmg hobj hints hlen hg) λr s' hq=>?_);obtain ⟨rfl,h2,h3,h4⟩:=hq;exact ⟨.inl ⟨.bool true,.bool true,[],rfl,λ_=>rfl,.bool true,Xu l _,λ_=>⟨Qv,λ_ hm=>(nomatch hm)⟩⟩,h2,h3,h4⟩
section
variable {prog:Aq} {w:BF} {A:BA} {E:AD->AG->Prop} {s:AG} {K:Frag}
end
end Att
namespace L2
open PySem PySem.Spec PyProof.Rows
theorem Qy:∀ {vs:List AD} {ns:List Int},IntsAre vs ns->Bd (ns.map V.int) vs
 | _,_,.nil=>.nil
 | _,_,.cons n t h=>.cons ⟨t,rfl⟩ (Qy h)
def gD (H:Hp):Prop:=∀b,H b=none∨∃o xs,H b=some (.frz o (.lst xs))
theorem az {P:Aq} {w:BF} {K:AA} {mg mb:Str->Option AD} {CX:CXT} {k:Nat} {fa a:AK} {fd:Dh} {x:Str} {sp:Sp} {s₁:AG} {vs:List AD} {ns:List Int}
  (KX:K.In s₁.heap) (hns:s₁.heap.Ns Af mg) (hb:s₁.heap.Ns hV mb) (hbb:∀x:Str,x≠"__name__"->mb x=Ee x) (hlim:s₁.heap.NoLimit) (hg:s₁.gens = #[])
  (ha:s₁.heap.get? a=some { cls:=.type "list",data:=.seq vs.toArray }) (hi:IntsAre vs ns) (hl:ns.length<=sizeLine) (hr:HQ k QP)
  (F:∀base:Bq,K.In base->base.Ns Af mg->Dp P w K mg base CX k fa fd [x] sp) (hbind:∀(s:AG) (u:AD),Ug s fd ⟨[u],[]⟩ [(x,u)])
  (hsp:∀H:Hp,gD H->SqL K H a (ns.map V.int)->sp [.ref a] H (λv _=>v=.bl true) λ_ _ _=>False)
  (hCX:∀H e s',CX [] H s₁ (λ_ _ _=>False) e s'->False) :
  J9 (AZ P w) QP (.call (.ref fa) ⟨[.ref a],[]⟩) (λr s'=>r=.ok (.ret (.bool true))/\OldK s₁.heap s'.heap/\s'.os=s₁.os/\II s'.gens) s₁:=by
 have rv:=Qy hi;have lenV:=hi.length
 have core:∀H:Hp,gD H->SqL K H a (ns.map V.int)->HOk P w H s₁.heap->(∀b,H b≠none->b=a)->(H a≠none->K.lookup a=none) ->
   J9 (AZ P w) QP (.call (.ref fa) ⟨[.ref a],[]⟩) (λr s'=>r=.ok (.ret (.bool true))/\OldK s₁.heap s'.heap/\s'.os=s₁.os/\II s'.gens) s₁:=by
  intro H hO hS hok hA hK
  have base_of:∀ {b:AK} {o:Obj},s₁.heap.get? b=some o->H b=none->(SH s₁.heap H).get? b=some o:=λe n=>bL e n
  have noA:∀ {b:AK} {o:Obj} {es:Array Nb} {ep:Nat},s₁.heap.get? b=some o->o.data=.dict es ep->H b=none:=λ{b o es ep} e d=>by
   cases q:H b with
   | none=>rfl
   | some u=>
    have e':b=a:=hA b (by rw [q];simp);subst e';rw [ha] at e;cases e;have d':Data.seq vs.toArray _=Data.dict es ep:=d;cases d'
  have nsK:∀ {b:AK} {m:Str->Option AD},s₁.heap.Ns b m->(SH s₁.heap H).Ns b m:=λ{b m} ⟨o,es,ep,e,d,r⟩=>⟨o,es,ep,base_of e (noA e d),d,r⟩
  have hKb:K.In (SH s₁.heap H):=λb o e=>base_of (KX b o e) (by
   cases q:H b with
   | none=>rfl
   | some u=>
    have e':b=a:=hA b (by rw [q];simp);subst e'
    rw [hK (by rw [q];simp)] at e;cases e)
  have hM:Mod K mg (SH s₁.heap H):=⟨hKb,nsK hns,⟨mb,nsK hb,hbb⟩,let ⟨mc,h1,h2⟩:=hlim;⟨mc,nsK h1,h2⟩⟩;have e0:WA P w K mg (SH s₁.heap H) QP [] s₁ H:=⟨rfl,hM,λb o e=>ee e,Uv (YK _ _),trivial,λb hb=>zX (show b∈([]:List AK) from hb) (by simp),hok,.of_eq hg⟩
  refine Ix ((F _ hKb (nsK hns)).run QP [] s₁ H ⟨[.ref a],[]⟩ [.ref a] [.ref a] _ _ hr e0 (hbind s₁ (.ref a)) (.cons rfl .nil) (hsp H hO hS)) λr s' h=>?_
  cases r with
  | error e=>exact (hCX H e s' h).elim
  | ok fl=>
   cases fl with
   | next=>exact Dr h
   | brk=>exact Dr h
   | cont=>exact Dr h
   | ret u=>
    obtain ⟨v,H',os,bare,un,hok',r',q⟩:=h;have q':v=.bl true:=q;subst q';obtain rfl:u=L8 true:=r';refine ⟨rfl,OldK.of_keep λb o e=>?_,os,bare⟩
    cases q:H b with
    | none=>exact un.keep b o e q (by intro z;exact zX (show b∈([]:List AK) from z) (by simp)) (by simp)
    | some u=>
     rcases hO b with z | ⟨ob,xs,z⟩
     ·rw [q] at z;cases z
     ·have z2:=un.frzs b ob _ z
      obtain ⟨e1,_⟩:=hok b _ z;obtain ⟨e2,_⟩:=hok' b _ z2;rw [e] at e1;cases e1;exact e2
 cases hk:K.lookup a with
 | some o=>
  have e:=KX a o hk;rw [ha] at e;cases e
  refine core (λ_=>none) (λ_=>.inl rfl) (.inr ⟨_,vs.toArray,_,hk,rfl,rfl,rfl,by rw [AU,lenV];exact hl,by simpa using rv⟩) (λb u z=>by have z':(none:Option HO)=some u:=z;cases z') (λb z=>zX rfl z) λz=>zX rfl z
 | none=>
  refine core (λb=>if b=a then some (.frz { cls:=.type "list",data:=.seq vs.toArray } (.lst (ns.map V.int))) else none) (λb=>?_) (.inl (.inr ⟨{ cls:=.type "list",data:=.seq vs.toArray },qX rfl⟩)) (λb u z=>?_) (λb z=>?_) λ_=>hk
  ·by_cases hb:b=a
   ·exact .inr ⟨_,_,qX hb⟩
   ·exact .inl (qY hb)
  ·by_cases hb:b=a
   ·have z':=(qX hb).symm.trans z
    cases z';subst hb;exact ⟨ha,by rw [AH];exact hl,vs,_,rv,ha⟩
   ·have z':=(qY hb).symm.trans z
    cases z'
  ·by_cases hb:b=a
   ·exact hb
   ·exact zX (qY hb) z
theorem ck {l:PySem.W.OpenLaw} {n k:Nat} {q:Aq} {loose:List Str} {XP:(Str->Option AD)->Bq->Prop} {YP:BF->Bq->Prop} {d:DefRec} {K:Params->AA} {CX:BF->CXT} {sp:BF->Sp} {x:Str}
  (hn:l.most=some n) (hn2:n<=sizeLine) (hdf:d.params.defaults=[]) (hr:HQ k QP)
  (hY:∀(w:BF) (h:Bq),YP w h->(K w.params).In h)
  (F:∀(w:BF) (mg:Str->Option AD) (fa:AK) (h:Bq),(K w.params).In h->h.Ns Af mg->mg d.name=some (.ref fa) ->
   ∃fd:Dh,(∀(s:AG) (u:AD),Ug s fd ⟨[u],[]⟩ [(x,u)]) /\
    ∀base:Bq,(K w.params).In base->base.Ns Af mg->Dp l.prog w (K w.params) mg base (CX w) k fa fd [x] (sp w))
  (hsp:∀(w:BF) (H:Hp) (a:AK) (ns:List Int),ns.length<=n->gD H->SqL (K w.params) H a (ns.map V.int)->sp w [.ref a] H (λv _=>v=.bl true) λ_ _ _=>False)
  (hCX:∀(w:BF) (H:Hp) (s:AG) (e:AD) (s':AG),CX w [] H s (λ_ _ _=>False) e s'->False) :
  PySem.W.WalkO q loose XP YP l.row.toRowW d [] (λf vs=>XR f vs):=by
 refine Att.UQ hn hdf λw s₀ s₁ mg mb fa o pm cd doc a vs ns G Y ho hd hcd hmg hobj hints hlen hg=>?_
 have KX:=hY w _ Y;obtain ⟨fd,hb,hF⟩:=F w mg fa _ KX G.T.g hmg
 exact az KX G.T.g G.T.b G.T.builtins G.T.nolimit hg hobj hints (Ax hlen hn2) hr hF hb (λH hO hS=>hsp w H a ns hlen hO hS) λH e s'=>hCX w H s₁ e s'
def fJ (s:Cg) (j:Nat):Cg:=match s with
 | .ClassDef _ _ _ body _ _ _ _ _ _ _=>body.getD j (.Pass ⟨0,0,0,0⟩)
 | _=>.Pass ⟨0,0,0,0⟩
def B0 (s:Cg):Arguments:=match s with
 | .FunctionDef _ a _ _ _ _ _ _ _ _=>a
 | _=>{ posonlyargs:=[],args:=[],vararg:=none,kwonlyargs:=[],kw_defaults:=[],kwarg:=none,defaults:=[] }
def Bs (s:Cg):List Cg:=match s with
 | .FunctionDef _ _ b _ _ _ _ _ _ _=>b
 | _=>[]
def An (s:Cg):IK:=match s with
 | .FunctionDef _ _ _ _ _ _ sc _ _ _=>sc
 | _=>{ kind:=.function,names:=[],isGenerator:=false,isCoroutine:=false }
structure Fun (K:AA) (x qual:Str) (st:Cg) (f:AK) (fd:Dh):Prop where
 ex:∃(oc:AD) (od:Option AK) (kV doc pm:AD) (an:Option AK) (cdv ct:AD) (osl:Array (Option AD)),
  fd=HW x qual (B0 st) (Bs st) (An st) .none kV doc pm an cdv ct/\K.lookup f=some ⟨oc,od,.func fd,osl⟩/\On K cdv qual=true
 kp:Fu K (.ref f)=true
section
variable {P:Aq} {w:BF} {K:AA} {mg:Str->Option AD} {base:Bq}
theorem Fun.binds {x qual:Str} {st:Cg} {f:AK} {fd:Dh} {ps:List Str} (F:Fun K x qual st f fd)
  (h:∀(kV doc pm:AD) (an:Option AK) (cdv ct:AD) (us:List AD),us.length=ps.length->bindArgs (HW x qual (B0 st) (Bs st) (An st) .none kV doc pm an cdv ct) ⟨us,[]⟩=pure (ps.zip us)):Binds K fd ps []:=by
 obtain ⟨oc,od,kV,doc,pm,an,cdv,ct,osl,rfl,lk,hcd⟩:=F.ex;exact .all (h kV doc pm an cdv ct)
theorem Cq {x qual:Str} {st:Cg} {f:AK} {oc:AD} {od an:Option AK} {osl:Array (Option AD)} {kV doc pm cdv ct:AD} (l:K.lookup f=some ⟨oc,od,.func (HW x qual (B0 st) (Bs st) (An st) .none kV doc pm an cdv ct),osl⟩)
  (c:On K cdv qual=true) (k:Fu K (.ref f)=true):Fun K x qual st f (HW x qual (B0 st) (Bs st) (An st) .none kV doc pm an cdv ct):=⟨⟨oc,od,kV,doc,pm,an,cdv,ct,osl,rfl,l,c⟩,k⟩
end
section
variable {X:Cx}
theorem pv (i:Nat) {x:Str} {pos:Pos} (hN:X.N[i]?=some x:=by rfl) (hv:Vis X.env.scope x:=by first | exact QG rfl | exact QF (QG rfl) | exact QF (QF rfl)) (hd:(x==("__debug__" : Str))=false:=by decide)
  (hcd:(x==("__classdict__" : Str))=false:=by decide):PE X (.Name x pos) (ig i):=jI hN hv hd hcd
end
section
variable {κ:Type} [DecidableEq κ]
end
inductive D where
 | non | bl (b:Bool) | int (i:Int) | str (x:Str) | tup (ds:List D) | fro (ds:List D) | ref (n:Nat) | exc (C:AK)
def Qo (K:AA) (H:Hp) (a:AK) (vs:List V):Prop:=
 (∃o,H a=some (.frz o (.lst vs))) ∨
  ∃(o:Obj) (its:Array AD) (n:Nat),K.lookup a=some o/\o.cls=.type "list"/\o.dict=none/\o.data=.seq its n/\its.size<=sizeLine/\Bd vs its.toList
theorem Qo.sq {K:AA} {H:Hp} {a:AK} {vs:List V} (h:Qo K H a vs):SqL K H a vs:=by
 rcases h with h | h
 ·exact .inl (.inr h)
 ·exact .inr h
def UU (o:Obj) (C:AK):Prop:=o.cls=.ref C/\o.dict=none/\∃vs,o.data=.fields vs
mutual
inductive Bv (K:AA) (ρ:List AK) (H:Hp):D->V->Prop where
 | non:Bv K ρ H .non .non
 | bl (b:Bool):Bv K ρ H (.bl b) (.bl b)
 | int (i:Int):Bv K ρ H (.int i) (.int i)
 | str (x:Str):Bv K ρ H (.str x) (.str x)
 | tup {ds:List D} {a:AK} {vs:List V}:H a=some (.tup vs)->Ay K ρ H ds vs->Bv K ρ H (.tup ds) (.ref a)
 | fro {ds:List D} {a:AK} {vs:List V}:Qo K H a vs->Ay K ρ H ds vs->Bv K ρ H (.fro ds) (.ref a)
 | ref {n:Nat} {a:AK}:ρ[n]?=some a->Bv K ρ H (.ref n) (.ref a)
 | exc {C a:AK} {o:Obj} {u:HO}:H a=some (.frz o u)->UU o C->Bv K ρ H (.exc C) (.ref a)
inductive Ay (K:AA) (ρ:List AK) (H:Hp):List D->List V->Prop where
 | nil:Ay K ρ H [] []
 | cons {d:D} {v:V} {ds:List D} {vs:List V}:Bv K ρ H d v->Ay K ρ H ds vs->Ay K ρ H (d :: ds) (v :: vs)
end
structure Le (K:AA) (ρ:List AK) (H:Hp) (ρ':List AK) (H':Hp):Prop where
 pre:∀(n:Nat) a,ρ[n]?=some a->ρ'[n]?=some a
 tup:∀a xs,H a=some (.tup xs)->H' a=some (.tup xs)
 frz:∀a o u,H a=some (.frz o u)->H' a=some (.frz o u)
 oth:∀a o,H a=some o->(∀n:Nat,ρ[n]?≠some a)->H' a=some o/\∀n:Nat,ρ'[n]?≠some a
theorem Qo.mono {K:AA} {H H':Hp} {a:AK} {xs:List V} (l:∀a o u,H a=some (.frz o u)->H' a=some (.frz o u)) (h:Qo K H a xs):Qo K H' a xs:=by
 rcases h with ⟨o,h⟩ | h
 ·exact .inl ⟨o,l _ _ _ h⟩
 ·exact .inr h
section
variable {K:AA} {ρ ρ' ρ'':List AK} {H H' H'':Hp}
theorem Le.fro (l:Le K ρ H ρ' H'):∀a xs,Qo K H a xs->Qo K H' a xs:=λ_ _ h=>h.mono l.frz
theorem Le.refl:Le K ρ H ρ H:=⟨λ_ _ h=>h,λ_ _ h=>h,λ_ _ _ h=>h,λ_ _ h n=>⟨h,n⟩⟩
theorem Le.trans (a:Le K ρ H ρ' H') (b:Le K ρ' H' ρ'' H''):Le K ρ H ρ'' H'':=
 ⟨λn x h=>b.pre n x (a.pre n x h),λx xs h=>b.tup x xs (a.tup x xs h),λx o u h=>b.frz x o u (a.frz x o u h),λx o h n=>b.oth x o (a.oth x o h n).1 (a.oth x o h n).2⟩
mutual
theorem Bv.mono (l:Le K ρ H ρ' H'):∀ {d:D} {v:V},Bv K ρ H d v->Bv K ρ' H' d v
 | _,_,.non=>.non
 | _,_,.bl b=>.bl b
 | _,_,.int i=>.int i
 | _,_,.str x=>.str x
 | _,_,.tup h r=>.tup (l.tup _ _ h) (Ay.mono l r)
 | _,_,.fro h r=>.fro (l.fro _ _ h) (Ay.mono l r)
 | _,_,.ref h=>.ref (l.pre _ _ h)
 | _,_,.exc h e=>.exc (l.frz _ _ _ h) e
theorem Ay.mono (l:Le K ρ H ρ' H'):∀ {ds:List D} {vs:List V},Ay K ρ H ds vs->Ay K ρ' H' ds vs
 | _,_,.nil=>.nil
 | _,_,.cons r t=>.cons (Bv.mono l r) (Ay.mono l t)
end
mutual
theorem Bv.more (l:∀(n:Nat) a,ρ[n]?=some a->ρ'[n]?=some a):∀ {d:D} {v:V},Bv K ρ H d v->Bv K ρ' H d v
 | _,_,.non=>.non
 | _,_,.bl b=>.bl b
 | _,_,.int i=>.int i
 | _,_,.str x=>.str x
 | _,_,.tup h r=>.tup h (Ay.more l r)
 | _,_,.fro h r=>.fro h (Ay.more l r)
 | _,_,.ref h=>.ref (l _ _ h)
 | _,_,.exc h e=>.exc h e
theorem Ay.more (l:∀(n:Nat) a,ρ[n]?=some a->ρ'[n]?=some a):∀ {ds:List D} {vs:List V},Ay K ρ H ds vs->Ay K ρ' H ds vs
 | _,_,.nil=>.nil
 | _,_,.cons r t=>.cons (Bv.more l r) (Ay.more l t)
end
mutual
theorem Bv.keep (h1:∀a xs,H a=some (.tup xs)->H' a=some (.tup xs)) (h2:∀a o u,H a=some (.frz o u)->H' a=some (.frz o u)):∀ {d:D} {v:V},Bv K ρ H d v->Bv K ρ H' d v
 | _,_,.non=>.non
 | _,_,.bl b=>.bl b
 | _,_,.int i=>.int i
 | _,_,.str x=>.str x
 | _,_,.tup h r=>.tup (h1 _ _ h) (Ay.keep h1 h2 r)
 | _,_,.fro h r=>.fro (h.mono h2) (Ay.keep h1 h2 r)
 | _,_,.ref h=>.ref h
 | _,_,.exc h e=>.exc (h2 _ _ _ h) e
theorem Ay.keep (h1:∀a xs,H a=some (.tup xs)->H' a=some (.tup xs)) (h2:∀a o u,H a=some (.frz o u)->H' a=some (.frz o u)):∀ {ds:List D} {vs:List V},Ay K ρ H ds vs->Ay K ρ H' ds vs
 | _,_,.nil=>.nil
 | _,_,.cons r t=>.cons (Bv.keep h1 h2 r) (Ay.keep h1 h2 t)
end
theorem Ay.length:∀ {ds:List D} {vs:List V},Ay K ρ H ds vs->ds.length=vs.length
 | _,_,.nil=>rfl
 | _,_,.cons _ t=>by rw [A6,A6,Ay.length t]
theorem Ay.get:∀ {ds:List D} {vs:List V} {i:Nat} {d:D},Ay K ρ H ds vs->ds[i]?=some d->∃v,vs[i]?=some v/\Bv K ρ H d v
 | _,_,_,_,.nil,e=>by simp at e
 | _,_,0,_,.cons r _,e=>by simp at e;subst e;exact ⟨_,rfl,r⟩
 | _,_,i+1,d,.cons _ t,e=>by
  obtain ⟨v,h1,h2⟩:=Ay.get (i:=i) (d:=d) t (by simpa using e);exact ⟨v,by simpa using h1,h2⟩
theorem Ay.get':∀ {ds:List D} {vs:List V} {i:Nat} {v:V},Ay K ρ H ds vs->vs[i]?=some v->∃d,ds[i]?=some d/\Bv K ρ H d v
 | _,_,_,_,.nil,e=>by simp at e
 | _,_,0,_,.cons r _,e=>by simp at e;subst e;exact ⟨_,rfl,r⟩
 | _,_,i+1,d,.cons _ t,e=>by
  obtain ⟨v,h1,h2⟩:=Ay.get' (i:=i) (v:=d) t (by simpa using e);exact ⟨v,by simpa using h1,h2⟩
theorem Ay.append:∀ {ds es:List D} {vs us:List V},Ay K ρ H ds vs->Ay K ρ H es us->Ay K ρ H (ds++es) (vs++us)
 | _,_,_,_,.nil,s=>s
 | _,_,_,_,.cons r t,s=>.cons r (Ay.append t s)
theorem Ay.take:∀ {ds:List D} {vs:List V} (n:Nat),Ay K ρ H ds vs->Ay K ρ H (ds.take n) (vs.take n)
 | _,_,0,_=>.nil
 | _,_,_+1,.nil=>.nil
 | _,_,n+1,.cons r t=>.cons r (Ay.take n t)
theorem Ay.drop:∀ {ds:List D} {vs:List V} (n:Nat),Ay K ρ H ds vs->Ay K ρ H (ds.drop n) (vs.drop n)
 | _,_,0,r=>r
 | _,_,_+1,.nil=>.nil
 | _,_,n+1,.cons _ t=>Ay.drop n t
theorem Ay.reverse {ds:List D} {vs:List V} (h:Ay K ρ H ds vs):Ay K ρ H ds.reverse vs.reverse:=by
 induction ds generalizing vs with
 | nil=>cases h;exact .nil
 | cons d ds ih=>
  cases h with
  | cons r t=>rw [JC,JC];exact (ih t).append (.cons r .nil)
theorem Ay.of_ints:∀(ns:List Int),Ay K ρ H (ns.map D.int) (ns.map V.int)
 | []=>.nil
 | n :: ns=>.cons (.int n) (Ay.of_ints ns)
theorem Ay.ints:∀ {ns:List Int} {vs:List V},Ay K ρ H (ns.map D.int) vs->vs=ns.map V.int
 | [],_,.nil=>rfl
 | n :: ns,_,.cons r t=>by
  cases r;rw [Ay.ints (ns:=ns) t];rfl
end
inductive Ob where
 | lst (ds:List D)
 | dK (kvs:List (Key×D))
 | dT (kvs:List (List Key×D))
 | ins (C:AK) (fs:List (Str×D))
abbrev Sto:=List Ob
abbrev KVR {κ:Type} (K:AA) (ρ:List AK) (H:Hp):List (κ×D)->List (κ×V)->Prop:=Gb λ(p:κ×D) (q:κ×V)=>p.1=q.1/\Bv K ρ H p.2 q.2
def E6 (K:AA) (ρ:List AK) (H:Hp) (a:AK):Ob->Prop
 | .lst ds=>∃vs,H a=some (.lst vs)/\Ay K ρ H ds vs
 | .dK kvs=>∃kvs',H a=some (.dK kvs')/\KVR K ρ H kvs kvs'
 | .dT kvs=>∃kvs',H a=some (.dT kvs')/\KVR K ρ H kvs kvs'
 | .ins C fs=>∃dx fs',H a=some (.ins C dx fs')/\KVR K ρ H fs fs'
structure B4 (K:AA) (ρ:List AK) (S:Sto) (H:Hp):Prop where
 len:ρ.length=S.length
 nd:∀(i j:Nat) a,ρ[i]?=some a->ρ[j]?=some a->i=j
 ob:∀(n:Nat) o a,S[n]?=some o->ρ[n]?=some a->E6 K ρ H a o
section
variable {K:AA} {ρ ρ':List AK} {H H':Hp} {S:Sto} {a p:AK} {o:Ob} {n:Nat} {ho:HO}
theorem KVR.mono {κ:Type} (l:Le K ρ H ρ' H') {x:List (κ×D)} {y:List (κ×V)} (h:KVR K ρ H x y):KVR K ρ' H' x y:=Gb.mapP h λ_ _ z=>⟨z.1,z.2.mono l⟩
theorem E6.mut (h:E6 K ρ H a o):Mut (H a):=by
 cases o with
 | lst ds=>obtain ⟨_,e,_⟩:=h;rw [e];trivial
 | dK ds=>obtain ⟨_,e,_⟩:=h;rw [e];trivial
 | dT ds=>obtain ⟨_,e,_⟩:=h;rw [e];trivial
 | ins C fs=>obtain ⟨_,_,e,_⟩:=h;rw [e];trivial
theorem E6.mono (l:Le K ρ H ρ' H') (e:H' a=H a) (h:E6 K ρ H a o):E6 K ρ' H' a o:=by
 cases o with
 | lst ds=>obtain ⟨vs,h1,h2⟩:=h;exact ⟨vs,e.trans h1,h2.mono l⟩
 | dK ds=>obtain ⟨vs,h1,h2⟩:=h;exact ⟨vs,e.trans h1,h2.mono l⟩
 | dT ds=>obtain ⟨vs,h1,h2⟩:=h;exact ⟨vs,e.trans h1,h2.mono l⟩
 | ins C fs=>obtain ⟨dx,vs,h1,h2⟩:=h;exact ⟨dx,vs,e.trans h1,h2.mono l⟩
theorem E6.keep (h1:∀a xs,H a=some (.tup xs)->H' a=some (.tup xs)) (h2:∀a o u,H a=some (.frz o u)->H' a=some (.frz o u)) (e:H' a=H a) (h:E6 K ρ H a o):E6 K ρ H' a o:=by
 cases o with
 | lst ds=>obtain ⟨vs,q1,q2⟩:=h;exact ⟨vs,e.trans q1,q2.keep h1 h2⟩
 | dK ds=>obtain ⟨vs,q1,q2⟩:=h;exact ⟨vs,e.trans q1,Gb.mapP q2 λ_ _ z=>⟨z.1,z.2.keep h1 h2⟩⟩
 | dT ds=>obtain ⟨vs,q1,q2⟩:=h;exact ⟨vs,e.trans q1,Gb.mapP q2 λ_ _ z=>⟨z.1,z.2.keep h1 h2⟩⟩
 | ins C fs=>obtain ⟨dx,vs,q1,q2⟩:=h;exact ⟨dx,vs,e.trans q1,Gb.mapP q2 λ_ _ z=>⟨z.1,z.2.keep h1 h2⟩⟩
theorem E6.mono' (l:∀(n:Nat) a,ρ[n]?=some a->ρ'[n]?=some a) (h:E6 K ρ H a o):E6 K ρ' H a o:=by
 cases o with
 | lst ds=>obtain ⟨vs,h1,h2⟩:=h;exact ⟨vs,h1,h2.more l⟩
 | dK ds=>obtain ⟨vs,h1,h2⟩:=h;exact ⟨vs,h1,Gb.mapP h2 λ_ _ z=>⟨z.1,z.2.more l⟩⟩
 | dT ds=>obtain ⟨vs,h1,h2⟩:=h;exact ⟨vs,h1,Gb.mapP h2 λ_ _ z=>⟨z.1,z.2.more l⟩⟩
 | ins C fs=>obtain ⟨dx,vs,h1,h2⟩:=h;exact ⟨dx,vs,h1,Gb.mapP h2 λ_ _ z=>⟨z.1,z.2.more l⟩⟩
theorem GB (hp:H p=none∨Mut (H p)):(∀a xs,H a=some (.tup xs)->upd H p ho a=some (.tup xs))/\∀a o u,H a=some (.frz o u)->upd H p ho a=some (.frz o u):=by
 have ne:∀a u,H a=some u->¬Mut (some u)->a≠p:=λa u e nm z=>by
  subst z
  rcases hp with h | h
  ·rw [e] at h;cases h
  ·rw [e] at h;exact nm h
 refine ⟨λa xs e=>?_,λa o u e=>?_⟩
 ·rw [By (ne a _ e λz=>z)];exact e
 ·rw [By (ne a _ e λz=>z)];exact e
theorem Le.fresh (hp:H p=none):Le K ρ H ρ (upd H p ho):=
 ⟨λ_ _ h=>h,(GB (.inl hp)).1,(GB (.inl hp)).2,λa o e n=>⟨by rw [By (CI e hp)];exact e,n⟩⟩
theorem Le.write (hn:ρ[n]?=some p) (hm:Mut (H p)):Le K ρ H ρ (upd H p ho):=
 ⟨λ_ _ h=>h,(GB (.inr hm)).1,(GB (.inr hm)).2,λa o e h=>⟨by rw [By λz=>h n (by rw [z];exact hn)];exact e,h⟩⟩
theorem Hx {α:Type} {l:List α} {x:α} {m:Nat} {a:α} (e:(l++[x])[m]?=some a):(l[m]?=some a/\m < l.length)∨(m=l.length/\a=x):=by
 by_cases hm:m < l.length
 ·rw [Ac hm] at e;exact .inl ⟨e,hm⟩
 ·rw [A9 (by lia)] at e
  have:m - l.length=0:=by
   have:=(AF.mp e).1;simp at this;omega
  rw [this] at e;exact .inr ⟨by lia,by simpa using e.symm⟩
theorem Le.alloc (hp:H p=none):Le K ρ H (ρ++[p]) (upd H p ho):=by
 refine ⟨λn a h=>by rw [Ac (AF.mp h).1];exact h,(GB (.inl hp)).1,(GB (.inl hp)).2,λa o e h=>⟨by rw [By (CI e hp)];exact e,λn q=>?_⟩⟩
 rcases Hx q with ⟨q,_⟩ | ⟨_,q⟩
 ·exact h n q
 ·exact CI e hp q
theorem B4.there (h:B4 K ρ S H) {m:Nat} (e:ρ[m]?=some a):∃o,S[m]?=some o/\E6 K ρ H a o:=by
 have hn:m < S.length:=by rw [<-h.len];exact (AF.mp e).1
 exact ⟨S[m],by simp [hn],h.ob m _ a (by simp [hn]) e⟩
theorem B4.notIn (h:B4 K ρ S H) (hp:H p=none) {m:Nat} (e:ρ[m]?=some p):False:=by
 obtain ⟨o,_,r⟩:=h.there e;have:=r.mut;rw [hp] at this;exact this
theorem B4.alloc (h:B4 K ρ S H) (hp:H p=none) (hob:E6 K (ρ++[p]) (upd H p ho) p o):B4 K (ρ++[p]) (S++[o]) (upd H p ho)/\Le K ρ H (ρ++[p]) (upd H p ho)/\(ρ++[p])[S.length]?=some p:=by
 have le:Le K ρ H (ρ++[p]) (upd H p ho):=Le.alloc hp
 have at':∀(m:Nat) a,(ρ++[p])[m]?=some a->(ρ[m]?=some a/\m < ρ.length)∨(m=ρ.length/\a=p):=λm a e=>Hx e
 refine ⟨⟨by simp [h.len],λi j a hi hj=>?_,λm ob a hm ha=>?_⟩,le,by rw [<-h.len];simp⟩
 ·rcases at' i a hi with ⟨hi1,_⟩ | ⟨hi1,ea⟩ <;> rcases at' j a hj with ⟨hj1,_⟩ | ⟨hj1,ea'⟩
  ·exact h.nd i j a hi1 hj1
  ·rw [ea'] at hi1;exact (h.notIn hp hi1).elim
  ·rw [ea] at hj1;exact (h.notIn hp hj1).elim
  ·lia
 ·rcases at' m a ha with ⟨ha1,hlt⟩ | ⟨rfl,rfl⟩
  ·rw [Ac (by rw [<-h.len];exact hlt)] at hm
   refine (h.ob m ob a hm ha1).mono le (By λz=>?_);rw [z] at ha1;exact h.notIn hp ha1
  ·rw [h.len] at hm
   simp at hm;subst hm;exact hob
theorem B4.write (h:B4 K ρ S H) (hn:ρ[n]?=some a) (hob:E6 K ρ (upd H a ho) a o):B4 K ρ (S.set n o) (upd H a ho)/\Le K ρ H ρ (upd H a ho):=by
 obtain ⟨o',e',r'⟩:=h.there hn;have le:Le K ρ H ρ (upd H a ho):=Le.write hn r'.mut;refine ⟨⟨by simp [h.len],h.nd,λm ob b hm hb=>?_⟩,le⟩
 by_cases e:m=n
 ·subst e
  rw [hn] at hb;cases hb;rw [Az (by rw [<-h.len];exact (AF.mp hn).1)] at hm;cases hm;exact hob
 ·rw [Am (Bw e)] at hm
  refine (h.ob m ob b hm hb).mono le (By λz=>?_);subst z;exact e (h.nd m n b hb hn)
theorem Le.back {S':Sto} (l:Le K ρ H ρ' H') (s:B4 K ρ S H) (s':B4 K ρ' S' H') (hp:H' p=none):H p=none:=by
 cases q:H p with
 | none=>rfl
 | some o=>
  by_cases hn:∃n:Nat,ρ[n]?=some p
  ·obtain ⟨n,hn⟩:=hn
   exact (s'.notIn hp (l.pre n p hn)).elim
  ·have:=(l.oth p o q λn h=>hn ⟨n,h⟩).1
   rw [hp] at this;cases this
theorem B4.adopt (h:B4 K ρ S H) (hn:∀m:Nat,ρ[m]?≠some p) (hob:E6 K (ρ++[p]) H p o):B4 K (ρ++[p]) (S++[o]) H/\(ρ++[p])[S.length]?=some p:=by
 have le:∀a ob,E6 K ρ H a ob->E6 K (ρ++[p]) H a ob:=λa ob r=>by
  have l0:∀(n:Nat) a,ρ[n]?=some a->(ρ++[p])[n]?=some a:=λn a h=>by rw [Ac (AF.mp h).1];exact h
  exact r.mono' l0
 refine ⟨⟨by simp [h.len],λi j a hi hj=>?_,λm ob a hm ha=>?_⟩,by rw [<-h.len];simp⟩
 ·rcases Hx hi with ⟨hi1,_⟩ | ⟨hi1,ea⟩ <;> rcases Hx hj with ⟨hj1,_⟩ | ⟨hj1,ea'⟩
  ·exact h.nd i j a hi1 hj1
  ·rw [ea'] at hi1;exact (hn i hi1).elim
  ·rw [ea] at hj1;exact (hn j hj1).elim
  ·lia
 ·rcases Hx ha with ⟨ha,hlt⟩ | ⟨rfl,rfl⟩
  ·rw [Ac (by rw [<-h.len];exact hlt)] at hm
   exact le a ob (h.ob m ob a hm ha)
  ·rw [h.len] at hm
   simp at hm;subst hm;exact hob
end
inductive Res (α:Type) where
 | ok (a:α) (S:Sto) | err (c:AK) (S:Sto) | bad
def Res.bind {α β:Type} (r:Res α) (f:α->Sto->Res β):Res β:=match r with
 | .ok a S=>f a S
 | .err c S=>.err c S
 | .bad=>.bad
abbrev Lo:=List (Option D)
abbrev ME:=Lo->Sto->Res D
abbrev MT:=Lo->Sto->Res Bool
abbrev ML:=Lo->Sto->Res (List D)
inductive Fl where
 | nx (e:Lo) | rt (d:D) | bk (e:Lo) | ct (e:Lo) | ex (c:AK) (e:Lo)
abbrev MS:=Lo->Sto->Res Fl
abbrev MG:=D->Lo->Sto->Res Lo
abbrev Hf:=Sto->Option (List D)
abbrev MI:=Lo->Sto->Res Hf
structure FB (K:AA) (ρ:List AK) (H:Hp) (e:Lo) (σ:St):Prop where
 len:e.length=σ.length
 at':∀(i:Nat) d,e[i]?=some (some d)->∃v,σ[i]?=some (some v)/\Bv K ρ H d v
section
variable {K:AA} {ρ ρ':List AK} {H H':Hp} {S:Sto} {e:Lo} {σ:St}
theorem FB.mono (l:Le K ρ H ρ' H') (h:FB K ρ H e σ):FB K ρ' H' e σ:=⟨h.len,λi d q=>by
 obtain ⟨v,h1,h2⟩:=h.at' i d q
 exact ⟨v,h1,h2.mono l⟩⟩
theorem FB.set {d:D} {v:V} (h:FB K ρ H e σ) (r:Bv K ρ H d v) (i:Nat):FB K ρ H (e.set i (some d)) (σ.set i (some v)):=by
 refine ⟨by simp [h.len],λj d' q=>?_⟩
 by_cases hj:i=j
 ·subst hj
  have hi:i < e.length:=by
   have:=(AF.mp q).1;simpa using this
  rw [Az hi] at q;cases q;exact ⟨v,by rw [Az (by rw [<-h.len];exact hi)],r⟩
 ·rw [Am hj] at q ⊢
  exact h.at' j d' q
end
abbrev EW:=AK->St->Hp->Prop
abbrev EH:=AK->Hp->Prop
abbrev noE:EW:=λ_ _ _=>False
abbrev noH:EH:=λ_ _=>False
def Bz {α:Type} (K:AA) (E:EH) (ρ:List AK) (H:Hp) (r:Res α) (k:α->Sto->Prop):Prop:=match r with
 | .ok a S=>k a S
 | .err c S=>∀ρ' H',Le K ρ H ρ' H'->B4 K ρ' S H'->E c H'
 | .bad=>False
section
variable {α β:Type} {K:AA} {E:EH} {ρ ρ1:List AK} {H H1:Hp}
theorem Bz.seq {r:Res α} {F:α->Sto->Res β} {k:β->Sto->Prop} {k':α->Sto->Prop} (h:Bz K E ρ H (r.bind F) k) (f:∀a S,Bz K E ρ H (F a S) k->k' a S):Bz K E ρ H r k':=by
 cases r with
 | ok a S=>exact f a S h
 | err c S=>exact h
 | bad=>exact h
theorem Bz.later {r:Res α} {k:α->Sto->Prop} (h:Bz K E ρ H r k) (l:Le K ρ H ρ1 H1):Bz K E ρ1 H1 r k:=by
 cases r with
 | ok a S=>exact h
 | err c S=>exact λρ' H' l'=>h ρ' H' (l.trans l')
 | bad=>exact h
theorem Bz.imp {r:Res α} {k k':α->Sto->Prop} (h:Bz K E ρ H r k) (f:∀a S,k a S->k' a S):Bz K E ρ H r k':=by
 cases r with
 | ok a S=>exact f a S h
 | err c S=>exact h
 | bad=>exact h
theorem Bz.go {r:Res α} {k k':α->Sto->Prop} (h:Bz K E ρ H r k) (l:Le K ρ H ρ1 H1) (f:∀a S,k a S->k' a S):Bz K E ρ1 H1 r k':=(h.later l).imp f
end
def okR {α:Type}:Res α->Res α
 | .ok a S=>.ok a S
 | _=>.bad
theorem Bz.okR {α:Type} {K:AA} {E:EH} {ρ:List AK} {H:Hp} {r:Res α} {k:α->Sto->Prop} (h:Bz K E ρ H (L2.okR r) k):∃a S,r=.ok a S/\k a S:=by
 cases r with
 | ok a S=>exact ⟨a,S,rfl,h⟩
 | err c S=>exact h.elim
 | bad=>exact h.elim
section
variable (K:AA) (E:EW)
def gE (m:ME):TE:=λσ H Q=>∃ρ e S,FB K ρ H e σ/\B4 K ρ S H/\Bz K (λc=>E c σ) ρ H (m e S) λd S'=>∀ρ' H' x,Le K ρ H ρ' H'->B4 K ρ' S' H'->Bv K ρ' H' d x->Q x H'
def gT (m:MT):TT:=λσ H Q=>∃ρ e S,FB K ρ H e σ/\B4 K ρ S H/\Bz K (λc=>E c σ) ρ H (m e S) λb S'=>∀ρ' H',Le K ρ H ρ' H'->B4 K ρ' S' H'->Q b H'
def gA (m:ML):TA:=λσ H Q=>∃ρ e S,FB K ρ H e σ/\B4 K ρ S H/\Bz K (λc=>E c σ) ρ H (m e S) λds S'=>∀ρ' H' xs,Le K ρ H ρ' H'->B4 K ρ' S' H'->Ay K ρ' H' ds xs->Q xs H'
def gL (m:ML):TE:=λσ H Q=>∃ρ e S,FB K ρ H e σ/\B4 K ρ S H/\Bz K (λc=>E c σ) ρ H (m e S) λds S'=>∀ρ' H' p xs,Le K ρ H ρ' H'->B4 K ρ' S' H'->Ay K ρ' H' ds xs->H' p=some (.lst xs)->(∀n:Nat,ρ'[n]?≠some p)->H p=none->Q (.ref p) H'
def gQ (m:ML):TE:=λσ H Q=>∃ρ e S,FB K ρ H e σ/\B4 K ρ S H/\Bz K (λc=>E c σ) ρ H (m e S) λds S'=>∀ρ' H' p xs,Le K ρ H ρ' H'->B4 K ρ' S' H'->Ay K ρ' H' ds xs->(SqL K H' p xs∨SqT K H' p xs)->Q (.ref p) H'
def Px (K:AA) (E:EW) (ρ:List AK) (H:Hp) (S':Sto) (D:WB):Fl->Prop
 | .ex c e'=>∀ρ' H' σ',Le K ρ H ρ' H'->B4 K ρ' S' H'->FB K ρ' H' e' σ'->E c σ' H'
 | .nx e'=>∀ρ' H' σ',Le K ρ H ρ' H'->B4 K ρ' S' H'->FB K ρ' H' e' σ'->D.nx σ' H'
 | .bk e'=>∀ρ' H' σ',Le K ρ H ρ' H'->B4 K ρ' S' H'->FB K ρ' H' e' σ'->D.bk σ' H'
 | .ct e'=>∀ρ' H' σ',Le K ρ H ρ' H'->B4 K ρ' S' H'->FB K ρ' H' e' σ'->D.ct σ' H'
 | .rt d=>∀ρ' H' x,Le K ρ H ρ' H'->B4 K ρ' S' H'->Bv K ρ' H' d x->D.rt x H'
def gS (m:MS):TS:=λD σ H=>∃ρ e S,FB K ρ H e σ/\B4 K ρ S H/\Bz K noH ρ H (m e S) λfl S'=>Px K E ρ H S' D fl
def gG (m:MG):TG:=λv σ H Q=>∃ρ e S d,Bv K ρ H d v/\FB K ρ H e σ/\B4 K ρ S H/\Bz K noH ρ H (m d e S) λe' S'=>∀ρ' H' σ',Le K ρ H ρ' H'->B4 K ρ' S' H'->FB K ρ' H' e' σ'->Q σ' H'
def NW (ρ0:List AK) (H0:Hp) (J:It) (v:Hf):Prop:=∀ρ H S ds (i:Nat),Le K ρ0 H0 ρ H->B4 K ρ S H->v S=some ds ->
 (ds[i]?=none->J.stop i H)/\∀d,ds[i]?=some d->J.go i H/\∀x H',J.yld i H x H'->∃ρ',Le K ρ H ρ' H'/\B4 K ρ' S H'/\Bv K ρ' H' d x
def gI (m:MI):TI:=λσ H R=>∃ρ e S,FB K ρ H e σ/\B4 K ρ S H/\Bz K (λc=>E c σ) ρ H (m e S) λv S'=>∀ρ' H' J,Le K ρ H ρ' H'->B4 K ρ' S' H'->NW K ρ' H' J v->R J H'
end
abbrev GE (X:Cx) (E:EW) (e:Expr) (m:ME):Prop:=PE X e (gE X.K E m)
abbrev GT (X:Cx) (E:EW) (e:Expr) (m:MT):Prop:=PT X e (gT X.K E m)
abbrev GA (X:Cx) (E:EW) (es:List Expr) (m:ML):Prop:=PA X es (gA X.K E m)
abbrev GL (X:Cx) (E:EW) (e:Expr) (m:ML):Prop:=PE X e (gL X.K E m)
abbrev GQ (X:Cx) (E:EW) (e:Expr) (m:ML):Prop:=PE X e (gQ X.K E m)
abbrev GS (X:Cx) (E:EW) (s:Cg) (m:MS):Prop:=PS X s (gS X.K E m)
abbrev GSs (X:Cx) (E:EW) (s:List Cg) (m:MS):Prop:=PSs X s (gS X.K E m)
abbrev GG (X:Cx) (t:Expr) (m:MG):Prop:=PG X t (gG X.K m)
abbrev GI (X:Cx) (E:EW) (tg t:Expr) (m:MI):Prop:=PI X tg t (gI X.K E m)
theorem PE.imp {X:Cx} {e:Expr} {t t':TE} (h:PE X e t) (i:∀σ H Q,t' σ H Q->t σ H Q):PE X e t':=λpins s σ H Q I q=>h pins s σ H Q I (i σ H Q q)
theorem PT.imp {X:Cx} {e:Expr} {t t':TT} (h:PT X e t) (i:∀σ H Q,t' σ H Q->t σ H Q):PT X e t':=λpins s σ H Q I q=>h pins s σ H Q I (i σ H Q q)
theorem PW.imp {X:Cx} {e:Expr} {t t':TT} (h:PW X e t) (i:∀σ H Q,t' σ H Q->t σ H Q):PW X e t':=λwh pins s σ H Q I q=>h wh pins s σ H Q I (i σ H Q q)
theorem PA.imp {X:Cx} {e:List Expr} {t t':TA} (h:PA X e t) (i:∀σ H Q,t' σ H Q->t σ H Q):PA X e t':=λpos pins s σ H Q I q=>h pos pins s σ H Q I (i σ H Q q)
theorem PS.imp {X:Cx} {e:Cg} {t t':TS} (h:PS X e t) (i:∀D σ H,t' D σ H->t D σ H):PS X e t':=λpins s σ H D I q=>h pins s σ H D I (i D σ H q)
theorem PSs.imp {X:Cx} {e:List Cg} {t t':TS} (h:PSs X e t) (i:∀D σ H,t' D σ H->t D σ H):PSs X e t':=λpins s σ H D I q=>h pins s σ H D I (i D σ H q)
theorem PG.imp {X:Cx} {e:Expr} {t t':TG} (h:PG X e t) (i:∀v σ H Q,t' v σ H Q->t v σ H Q):PG X e t':=λpins s σ H v u Q I r q=>h pins s σ H v u Q I r (i v σ H Q q)
theorem PI.imp {X:Cx} {tg e:Expr} {t t':TI} (h:PI X tg e t) (i:∀σ H R,t' σ H R->t σ H R):PI X tg e t':=λpins s σ H R I q=>h pins s σ H R I (i σ H R q)
theorem OpR.imp {X:Cx} {f:AD->AD->Sem AD} {r r':R2} (h:OpR X f r) (i:∀x y H Q,r' x y H Q->r x y H Q):OpR X f r':=λpins s σ H x y v u Q I rx ry q=>h pins s σ H x y v u Q I rx ry (i x y H Q q)
theorem IxR.imp {X:Cx} {r r':R2} (h:IxR X r) (i:∀x y H Q,r' x y H Q->r x y H Q):IxR X r':=λva sl pins s σ H x y v u Q I rx ry q=>h va sl pins s σ H x y v u Q I rx ry (i x y H Q q)
def AC (i:Nat):ME:=λe S=>match e[i]? with
 | some (some d)=>.ok d S
 | _=>.bad
def mC (d:D):ME:=λ_ S=>.ok d S
section
variable {X:Cx} {E:EW} {e a b:Expr} {pos:Pos} {ma mb:ME}
theorem AE {i:Nat} (h:PE X e (ig i)):GE X E e (AC i):=h.imp λσ H Q ⟨ρ,l,S,hl,hs,hm⟩=>by
 unfold AC at hm;split at hm
 ·rename_i d' hd
  obtain ⟨v,h1,h2⟩:=hl.at' i _ hd;exact ⟨v,h1,hm ρ H v .refl hs h2⟩
 ·exact hm.elim
theorem bR {v:V} {d:D} (h:PE X e (tC v)) (hd:∀ρ H,Bv X.K ρ H d v):GE X E e (mC d):=h.imp λσ H Q ⟨ρ,l,S,hl,hs,hm⟩=>by
 exact hm ρ H v .refl hs (hd _ _)
theorem ge_int {i j pos}:GE X E (.Constant (.int i) j pos) (mC (.int i)):=bR jP λ_ _=>.int i
theorem Pu {b j pos}:GE X E (.Constant (.bool b) j pos) (mC (.bl b)):=bR lY λ_ _=>.bl b
theorem Kb {j pos}:GE X E (.Constant .none j pos) (mC .non):=bR jN λ_ _=>.non
theorem NR {x j pos}:GE X E (.Constant (.str x) j pos) (mC (.str x)):=bR jK λ_ _=>.str x
theorem UC {x:Str} {i:Int} {tk:Tok} {pos:Pos} (hg:Gl X x) (hm:X.mg x=some (.int i tk)) (hd:(x==("__debug__" : Str))=false:=by decide):GE X E (.Name x pos) (mC (.int i)):=
 bR (eJ (v:=.int i) hg hm ⟨tk,rfl⟩ hd) λ_ _=>.int i
def m2 (f:D->D->Sto->Res D) (ma mb:ME):ME:=λe S=>(ma e S).bind λx S1=>(mb e S1).bind λy S2=>okR (f x y S2)
def rD (K:AA) (f:D->D->Sto->Res D):R2:=λu v H Q=>∃ρ S x y d S',B4 K ρ S H/\Bv K ρ H x u/\Bv K ρ H y v/\f x y S=.ok d S' /\
 ∀ρ' H' z,Le K ρ H ρ' H'->B4 K ρ' S' H'->Bv K ρ' H' d z->Q z H'
theorem Lc {K:AA} {f:D->D->Sto->Res D} {σ:St} {H:Hp} {Q:VK} (h:gE K E (m2 f ma mb) σ H Q):tOp (rD K f) (gE K E ma) (gE K E mb) σ H Q:=by
 obtain ⟨ρ,l,S,hl,hs,hm⟩:=h;refine ⟨ρ,l,S,hl,hs,hm.seq λx S1 hm ρ1 H1 u l1 s1 r1=>⟨ρ1,l,S1,hl.mono l1,s1,(hm.later l1).seq λy S2 hm ρ2 H2 v l2 s2 r2=>?_⟩⟩;obtain ⟨d,S',e,k⟩:=hm.okR;exact ⟨ρ2,S2,x,y,d,S',s2,r1.mono l2,r2,e,λρ' H' z l' s' r'=>k ρ' H' z (l1.trans (l2.trans l')) s' r'⟩
theorem BV {op:Operator} {f:D->D->Sto->Res D} (ho:OpR X (D7 op) (rD X.K f)) (ha:GE X E a ma) (hb:GE X E b mb):GE X E (.BinOp a op b pos) (m2 f ma mb):=(lW ho ha hb).imp λ_ _ _ h=>Lc h
theorem Lq {op:Sr} {f:D->D->Sto->Res D} (ho:OpR X (Bp op) (rD X.K f)) (ha:GE X E a ma) (hb:GE X E b mb) (hm:CJ op b=false):GE X E (.Compare a [op] [b] pos) (m2 f ma mb):=(eR ho ha hb hm).imp λ_ _ _ h=>Lc h
theorem mM {f:D->D->Sto->Res D} (ho:IxR X (rD X.K f)) (ha:GE X E a ma) (hb:GE X E b mb) (hs:Sg b:=by intro _ _;rfl):GE X E (.Subscript a b pos) (m2 f ma mb):=(lX ho ha hb hs).imp λ_ _ _ h=>Lc h
def mB (m:ME):MT:=λe S=>(m e S).bind λd S1=>match d with
 | .bl b=>.ok b S1
 | _=>.bad
def Tz (d:D) (S:Sto):Option Bool:=match d with
 | .non=>some false
 | .bl b=>some b
 | .int i=>some (i != 0)
 | .tup ds=>some (!ds.isEmpty)
 | .fro ds=>some (!ds.isEmpty)
 | .ref n=>match S[n]? with
  | some (.lst ds)=>some (!ds.isEmpty)
  | some (.dK kvs)=>some (!kvs.isEmpty)
  | _=>none
 | _=>none
def Pc (m:ME):MT:=λe S=>(m e S).bind λd S1=>match Tz d S1 with
 | some b=>.ok b S1
 | none=>.bad
theorem Ay.empty {K:AA} {ρ:List AK} {H:Hp} {ds:List D} {vs:List V} (h:Ay K ρ H ds vs):ds.isEmpty=vs.isEmpty:=by cases h <;> rfl
theorem KVR.empty {κ:Type} {K:AA} {ρ:List AK} {H:Hp} {x:List (κ×D)} {y:List (κ×V)} (h:KVR K ρ H x y):x.isEmpty=y.isEmpty:=by cases h <;> rfl
theorem dP {K:AA} {ρ:List AK} {H:Hp} {S:Sto} {d:D} {x:V} {b:Bool} (hs:B4 K ρ S H) (r:Bv K ρ H d x) (h:Tz d S=some b):kL K x H b:=by
 cases r with
 | non=>cases h;rfl
 | bl c=>cases h;rfl
 | int i=>cases h;rfl
 | str x=>cases h
 | tup h1 h2=>cases h;rw [h2.empty];exact .inr (.inl ⟨_,.inl (.inl h1),rfl⟩)
 | fro h1 h2=>cases h;rw [h2.empty];exact .inl ⟨_,h1.sq,rfl⟩
 | exc _ _=>cases h
 | @ref n a hn=>
  obtain ⟨o,ho,ro⟩:=hs.there hn;unfold Tz at h;simp only [ho] at h
  cases o with
  | lst ds=>cases h;obtain ⟨vs,e,rr⟩:=ro;rw [rr.empty];exact .inl ⟨_,.inl (.inl e),rfl⟩
  | dK kvs=>cases h;obtain ⟨vs,e,rr⟩:=ro;rw [KVR.empty rr];exact .inr (.inr ⟨_,e,rfl⟩)
  | dT kvs=>cases h
  | ins C fs=>cases h
theorem Pq (h:GE X E e ma) (he:∀whole,Uk e X.env whole=(do let v <-whole;kR e.pos;kT [v] (g8 v)):=by intro _;rfl):GT X E e (mB ma):=(i9 h he).imp λσ H Q ⟨ρ,l,S,hl,hs,hm⟩=>by
 refine ⟨ρ,l,S,hl,hs,hm.seq λd S1 hm ρ1 H1 x l1 s1 r1=>?_⟩
 cases d <;> first | exact hm.elim | skip
 cases r1;exact ⟨_,rfl,hm ρ1 H1 l1 s1⟩
theorem Pr (h:GE X E e ma) (he:∀whole,Uk e X.env whole=(do let v <-whole;kR e.pos;kT [v] (g8 v)):=by intro _;rfl):GT X E e (Pc ma):=(aB h he).imp λσ H Q ⟨ρ,l,S,hl,hs,hm⟩=>by
 refine ⟨ρ,l,S,hl,hs,hm.seq λd S1 hm ρ1 H1 x l1 s1 r1=>?_⟩
 cases hb:Tz d S1 with
 | none=>rw [hb] at hm;exact hm.elim
 | some c=>
  rw [hb] at hm;exact ⟨c,dP s1 r1 hb,hm ρ1 H1 l1 s1⟩
theorem Ch {op:Sr} {f:D->D->Sto->Res D} (ho:OpR X (Bp op) (rD X.K f)) (ha:GE X E a ma) (hb:GE X E b mb) (hm:CJ op b=false):GT X E (.Compare a [op] [b] pos) (mB (m2 f ma mb)):=(dm ho ha hb hm).imp λσ H Q ⟨ρ,l,S,hl,hs,hm⟩=>by
 refine Lc (Q:=λx H'=>∃k,x=.bl k/\Q k H') ⟨ρ,l,S,hl,hs,hm.seq λd S1 hm ρ1 H1 x l1 s1 r1=>?_⟩
 cases d <;> first | exact hm.elim | skip
 cases r1;exact ⟨_,rfl,hm ρ1 H1 l1 s1⟩
def Lk (m:MT):MT:=λe S=>(m e S).bind λb S1=>.ok (!b) S1
def T1 (ma mb:MT):MT:=λe S=>(ma e S).bind λb S1=>if b=true then mb e S1 else .ok false S1
def mOr (ma mb:MT):MT:=λe S=>(ma e S).bind λb S1=>if b=true then .ok true S1 else mb e S1
variable {ta tb:MT} {rest:List Expr}
theorem Jm (h:GT X E a ta):GT X E (.UnaryOp .Not a pos) (Lk ta):=(jA h).imp λσ H Q ⟨ρ,l,S,hl,hs,hm⟩=>by
 exact ⟨ρ,l,S,hl,hs,hm.seq λd S1 hm ρ1 H1 l1 s1=>hm ρ1 H1 l1 s1⟩
theorem dS {K:AA} {σ:St} {H:Hp} {Q:Bool->Hp->Prop} (h:gT K E (T1 ta tb) σ H Q):lM (gT K E ta) (gT K E tb) σ H Q:=by
 obtain ⟨ρ,l,S,hl,hs,hm⟩:=h;refine ⟨ρ,l,S,hl,hs,hm.seq λc S1 hm ρ1 H1 l1 s1=>?_⟩
 cases c with
 | true=>rw [qX rfl] at hm ⊢;exact ⟨ρ1,l,S1,hl.mono l1,s1,hm.go l1 λ_ _ k ρ2 H2 l2 s2=>k ρ2 H2 (l1.trans l2) s2⟩
 | false=>rw [qY AR] at hm ⊢;exact hm ρ1 H1 l1 s1
theorem ii {K:AA} {σ:St} {H:Hp} {Q:Bool->Hp->Prop} (h:gT K E (mOr ta tb) σ H Q):tOr (gT K E ta) (gT K E tb) σ H Q:=by
 obtain ⟨ρ,l,S,hl,hs,hm⟩:=h;refine ⟨ρ,l,S,hl,hs,hm.seq λc S1 hm ρ1 H1 l1 s1=>?_⟩
 cases c with
 | false=>rw [qY AR] at hm ⊢;exact ⟨ρ1,l,S1,hl.mono l1,s1,hm.go l1 λ_ _ k ρ2 H2 l2 s2=>k ρ2 H2 (l1.trans l2) s2⟩
 | true=>rw [qX rfl] at hm ⊢;exact hm ρ1 H1 l1 s1
abbrev GW (X:Cx) (E:EW) (e:Expr) (m:MT):Prop:=PW X e (gT X.K E m)
theorem fK (ha:GT X E a ta):GW X E (.BoolOp .And [a] pos) ta:=dj ha
theorem NQ (ha:GT X E a ta):GW X E (.BoolOp .Or [a] pos) ta:=i7 ha
theorem ju (ha:GT X E a ta) (hb:GW X E (.BoolOp .And (b :: rest) pos) tb):GW X E (.BoolOp .And (a :: b :: rest) pos) (T1 ta tb):=(i8 ha hb).imp λ_ _ _ h=>dS h
theorem LR (ha:GT X E a ta) (hb:GW X E (.BoolOp .Or (b :: rest) pos) tb):GW X E (.BoolOp .Or (a :: b :: rest) pos) (mOr ta tb):=(lT ha hb).imp λ_ _ _ h=>ii h
theorem Vr {t:MT} (h:GW X E e t):GT X E e t:=PW.pt h
def Jx (ma mb:ME):ME:=λe S=>(ma e S).bind λd S1=>match d with
 | .bl true=>mb e S1
 | .bl false=>.ok (.bl false) S1
 | _=>.bad
def Wm (ma:ME):ME:=λe S=>(ma e S).bind λd S1=>match d with
 | .bl c=>.ok (.bl (!c)) S1
 | _=>.bad
theorem SL {op} (h:GE X E a ma):GE X E (.BoolOp op [a] pos) ma:=jL h
theorem Pv (ha:GE X E a ma) (hb:GE X E (.BoolOp .And (b :: rest) pos) mb):GE X E (.BoolOp .And (a :: b :: rest) pos) (Jx ma mb):=(jT ha hb).imp λσ H Q ⟨ρ,l,S,hl,hs,hm⟩=>by
 refine ⟨ρ,l,S,hl,hs,hm.seq λc S1 hm ρ1 H1 x l1 s1 r1=>?_⟩
 cases c with
 | bl c=>
  cases r1;refine ⟨c,rfl,?_⟩
  cases c with
  | true=>rw [qX rfl];exact ⟨ρ1,l,S1,hl.mono l1,s1,hm.go l1 λ_ _ k ρ2 H2 z l2 s2 r2=>k ρ2 H2 z (l1.trans l2) s2 r2⟩
  | false=>rw [qY AR];exact hm ρ1 H1 _ l1 s1 (.bl false)
 | _=>exact hm.elim
theorem j8 (ha:GE X E a ma):GE X E (.UnaryOp .Not a pos) (Wm ma):=(jM ha).imp λσ H Q ⟨ρ,l,S,hl,hs,hm⟩=>by
 refine ⟨ρ,l,S,hl,hs,hm.seq λc S1 hm ρ1 H1 x l1 s1 r1=>?_⟩
 cases c with
 | bl c=>cases r1;exact ⟨c,rfl,hm ρ1 H1 _ l1 s1 (.bl _)⟩
 | _=>exact hm.elim
def m3 (f g:D->D->Sto->Res D) (ma mb mc:ME):ME:=λe S=>(ma e S).bind λx S1=>(mb e S1).bind λy S2=>(okR (f x y S2)).bind λz S3=>match z with
 | .bl true=>(mc e S3).bind λw S4=>okR (g y w S4)
 | .bl false=>.ok (.bl false) S3
 | _=>.bad
def As:ML:=λ_ S=>.ok [] S
def AJ (m:ME) (r:ML):ML:=λe S=>(m e S).bind λd S1=>(r e S1).bind λds S2=>.ok (d :: ds) S2
variable {es:List Expr} {ml:ML}
theorem A1:GA X E [] As:=HH.imp λσ H Q ⟨ρ,l,S,hl,hs,hm⟩=>by
 exact hm ρ H [] .refl hs .nil
theorem AQ (ha:GE X E e ma) (hr:GA X E es ml) (hs:AS (e :: es) X.env=(false,Bm e X.env) :: AS es X.env:=by rfl):GA X E (e :: es) (AJ ma ml):=(Ez ha hr hs).imp λσ H Q ⟨ρ,l,S,hl,hs,hm⟩=>by
 exact ⟨ρ,l,S,hl,hs,hm.seq λd S1 hm ρ1 H1 x l1 s1 r1=>⟨ρ1,l,S1,hl.mono l1,s1,(hm.later l1).seq λds' S2 hm ρ2 H2 xs l2 s2 r2=>hm ρ2 H2 (x :: xs) (l1.trans l2) s2 (.cons (r1.mono l2) r2)⟩⟩
def G6 (m:ML):ME:=λe S=>(m e S).bind λds S1=>if ds.length<=sizeLine then .ok (.tup ds) S1 else .bad
theorem HY {K:AA} {ρ:List AK} {H:Hp} {S:Sto} {p:AK} {ho:HO} (hs:B4 K ρ S H) (hp:H p=none):B4 K ρ S (upd H p ho)/\Le K ρ H ρ (upd H p ho):=by
 have le:Le K ρ H ρ (upd H p ho):=Le.fresh hp;refine ⟨⟨hs.len,hs.nd,λn o a h1 h2=>(hs.ob n o a h1 h2).mono le (By λz=>?_)⟩,le⟩;subst z;exact hs.notIn hp h2
theorem Ka {x1} (h:GA X E es ml):GE X E (.Tuple es x1 pos) (G6 ml):=(jJ h).imp λσ H Q ⟨ρ,l,S,hl,hs,hm⟩=>by
 refine ⟨ρ,l,S,hl,hs,hm.seq λds S1 hm ρ1 H1 xs l1 s1 r1=>?_⟩;split at hm
 ·rename_i hz
  refine ⟨by rw [<-r1.length];exact hz,λp hp=>?_⟩;obtain ⟨s2,l2⟩:=HY (ho:=.tup xs) s1 hp;exact hm ρ1 _ _ (l1.trans l2) s2 (.tup Bj (r1.mono l2))
 ·exact hm.elim
def CN (m:ML):ML:=λe S=>(m e S).bind λds S1=>if ds.length<=sizeLine then .ok ds S1 else .bad
theorem Gr (h:GA X E es ml):GL X E (.List es pos) (CN ml):=(jO h).imp λσ H Q ⟨ρ,l,S,hl,hs,hm⟩=>by
 refine ⟨ρ,l,S,hl,hs,hm.seq λds S1 hm ρ1 H1 xs l1 s1 r1=>?_⟩;split at hm
 ·rename_i hz
  refine ⟨by rw [<-r1.length];exact hz,λp hp=>?_⟩;obtain ⟨s2,l2⟩:=HY (ho:=.lst xs) s1 hp;exact hm ρ1 _ p xs (l1.trans l2) s2 (r1.mono l2) Bj (λn q=>s1.notIn hp q) (l1.back hs s1 hp)
 ·exact hm.elim
def DB (m:ML):ME:=λe S=>(m e S).bind λds S1=>.ok (.ref S1.length) (S1++[.lst ds])
theorem C7 (h:GL X E e ml):GE X E e (DB ml):=PE.imp h λσ H Q ⟨ρ,l,S,hl,hs,hm⟩=>by
 refine ⟨ρ,l,S,hl,hs,hm.seq λds S1 hm ρ1 H1 p xs l1 s1 r1 hp hn hp0=>?_⟩
 have l0:∀(n:Nat) a,ρ1[n]?=some a->(ρ1++[p])[n]?=some a:=λn a h=>by rw [Ac (AF.mp h).1];exact h
 obtain ⟨s2,at2⟩:=s1.adopt (o:=.lst ds) hn ⟨xs,hp,r1.more l0⟩;refine hm _ _ _ ⟨λn a h=>l0 n a (l1.pre n a h),l1.tup,l1.frz,λa o e h=>⟨(l1.oth a o e h).1,λn q=>?_⟩⟩ s2 (.ref at2)
 rcases Hx q with ⟨q,_⟩ | ⟨_,q⟩
 ·exact (l1.oth a o e h).2 n q
 ·exact CI e hp0 q
def Fy (d:D) (S:Sto):Option (List D):=match d with
 | .tup ds=>some ds
 | .fro ds=>some ds
 | .ref n=>match S[n]? with
  | some (.lst ds)=>some ds
  | _=>none
 | _=>none
def JN (m:ME):ML:=λe S=>(m e S).bind λd S1=>match Fy d S1 with
 | some ds=>.ok ds S1
 | none=>.bad
theorem MN {K:AA} {ρ:List AK} {H:Hp} {S:Sto} {d:D} {x:V} {ds:List D} (hs:B4 K ρ S H) (r:Bv K ρ H d x) (h:Fy d S=some ds):∃p xs,x=.ref p/\Ay K ρ H ds xs/\(SqL K H p xs∨SqT K H p xs):=by
 cases r with
 | tup h1 h2=>cases h;exact ⟨_,_,rfl,h2,.inr (.inl (.inl h1))⟩
 | fro h1 h2=>cases h;exact ⟨_,_,rfl,h2,.inl h1.sq⟩
 | @ref n a hn=>
  obtain ⟨o,ho,ro⟩:=hs.there hn;unfold Fy at h;simp only [ho] at h
  cases o with
  | lst es=>cases h;obtain ⟨vs,e,rr⟩:=ro;exact ⟨_,_,rfl,rr,.inl (.inl (.inl e))⟩
  | _=>cases h
 | _=>cases h
theorem UA (h:GE X E e ma):GQ X E e (JN ma):=PE.imp h λσ H Q ⟨ρ,l,S,hl,hs,hm⟩=>by
 refine ⟨ρ,l,S,hl,hs,hm.seq λx S1 hm ρ1 H1 v l1 s1 r1=>?_⟩
 cases hq:Fy x S1 with
 | none=>rw [hq] at hm;exact hm.elim
 | some ds=>
  rw [hq] at hm;obtain ⟨p,xs,rfl,r2,sq⟩:=MN s1 r1 hq;exact hm ρ1 H1 p xs l1 s1 r2 sq
end
def Res.lift {α:Type} (r:Res α) (e:Lo) (f:α->Sto->Res Fl):Res Fl:=match r with
 | .ok a S=>f a S
 | .err c S=>.ok (.ex c e) S
 | .bad=>.bad
theorem Bz.lift {α:Type} {K:AA} {E:EW} {ρ ρ1:List AK} {H H1:Hp} {σ:St} {e:Lo} {D:WB} {r:Res α} {F:α->Sto->Res Fl} {k':α->Sto->Prop} (h:Bz K noH ρ1 H1 (r.lift e F) λfl S'=>Px K E ρ H S' D fl) (hl:FB K ρ1 H1 e σ) (l:Le K ρ H ρ1 H1)
  (f:∀a S,(Bz K noH ρ1 H1 (F a S) λfl S'=>Px K E ρ H S' D fl)->k' a S):Bz K (λc=>E c σ) ρ1 H1 r k':=by
 cases r with
 | ok a S=>exact f a S h
 | err c S=>exact λρ' H' l' s'=>h ρ' H' σ (l.trans l') s' (hl.mono l')
 | bad=>exact h
def sNx:MS:=λe S=>.ok (.nx e) S
def BM (a b:MS):MS:=λe S=>(a e S).bind λf S1=>match f with
 | .nx e1=>b e1 S1
 | f=>.ok f S1
def CD (m:ME):MS:=λe S=>(m e S).lift e λ_ S1=>.ok (.nx e) S1
def DM (m:ME):MS:=λe S=>(m e S).lift e λd S1=>.ok (.rt d) S1
def sIf (t:MT) (a b:MS):MS:=λe S=>(t e S).lift e λc S1=>if c=true then a e S1 else b e S1
def Xq (m:ME) (g:MG):MS:=λe S=>(m e S).lift e λd S1=>(g d e S1).bind λe1 S2=>.ok (.nx e1) S2
def tgN (i:Nat):MG:=λd e S=>.ok (e.set i (some d)) S
def BZ (i:Nat) (m:ME):MS:=Xq m (tgN i)
section
variable {X:Cx} {E:EW} {st:Cg} {rest:List Cg} {e:Expr} {pos:Pos} {a b:MS} {m:ME} {t:MT}
theorem Px.later {K:AA} {ρ ρ1:List AK} {H H1:Hp} {S:Sto} {D:WB} {f:Fl} (l:Le K ρ H ρ1 H1) (h:Px K E ρ H S D f):Px K E ρ1 H1 S D f:=by
 cases f with
 | nx e=>exact λρ' H' σ' l'=>h ρ' H' σ' (l.trans l')
 | bk e=>exact λρ' H' σ' l'=>h ρ' H' σ' (l.trans l')
 | ct e=>exact λρ' H' σ' l'=>h ρ' H' σ' (l.trans l')
 | ex c e=>exact λρ' H' σ' l'=>h ρ' H' σ' (l.trans l')
 | rt d=>exact λρ' H' x l'=>h ρ' H' x (l.trans l')
theorem CP:GSs X E [] sNx:=dq.imp λD σ H ⟨ρ,l,S,hl,hs,hm⟩=>by
 exact hm ρ H σ .refl hs hl
theorem Ad (h1:GS X E st a) (h2:GSs X E rest b):GSs X E (st :: rest) (BM a b):=(aE h1 h2).imp λD σ H ⟨ρ,l,S,hl,hs,hm⟩=>by
 refine ⟨ρ,l,S,hl,hs,hm.seq λg S1 hm=>?_⟩
 cases g with
 | nx e'=>exact λρ1 H1 σ1 l1 s1 r1=>⟨ρ1,e',S1,r1,s1,hm.go l1 λ_ _ k=>k.later l1⟩
 | rt d=>exact hm
 | bk d=>exact hm
 | ct d=>exact hm
 | ex c d=>exact hm
theorem Av (h1:GS X E st a):GSs X E [st] a:=dn h1
theorem C4 (he:GE X E e m) (hs:Fo e none pos.line X.env=pure false:=by rfl):GS X E (.Expr e pos) (CD m):=(du he hs).imp λD σ H ⟨ρ,l,S,hl,hs,hm⟩=>by
 exact ⟨ρ,l,S,hl,hs,hm.lift hl .refl λd S1 hm ρ1 H1 x l1 s1 r1=>hm ρ1 H1 σ l1 s1 (hl.mono l1)⟩
theorem B3 (he:GE X E e m):GS X E (.Return (some e) pos) (DM m):=(jC he).imp λD σ H ⟨ρ,l,S,hl,hs,hm⟩=>by
 exact ⟨ρ,l,S,hl,hs,hm.lift hl .refl λd S1 hm ρ1 H1 x l1 s1 r1=>hm ρ1 H1 x l1 s1 r1⟩
theorem EA {c:Expr} {sa sb:List Cg} (hc:GT X E c t) (ha:GSs X E sa a) (hb:GSs X E sb b):GS X E (.If c sa sb pos) (sIf t a b):=(lU hc ha hb).imp λD σ H ⟨ρ,l,S,hl,hs,hm⟩=>by
 refine ⟨ρ,l,S,hl,hs,hm.lift hl .refl λc S1 hm ρ1 H1 l1 s1=>?_⟩
 cases c with
 | true=>rw [qX rfl] at hm ⊢;exact ⟨ρ1,l,S1,hl.mono l1,s1,hm.go l1 λ_ _ k=>k.later l1⟩
 | false=>rw [qY AR] at hm ⊢;exact ⟨ρ1,l,S1,hl.mono l1,s1,hm.go l1 λ_ _ k=>k.later l1⟩
theorem fN {i:Nat} {tg:Expr} (h:PG X tg (W0 i)):GG X tg (tgN i):=h.imp λv σ H Q ⟨ρ,l,S,d,hd,hl,hs,hm⟩=>by
 exact hm ρ H _ .refl hs (hl.set hd i)
theorem jx {tg:Expr} {g:MG} (he:GE X E e m) (hg:GG X tg g) (hs:swapsWithSole [tg] e pos.line X.env=pure false:=by rfl) (hw:swappedStores [tg] e X.env=pure none:=by rfl)
  (h1:(Ef [tg] X.env).map (·.2)=[Oj tg X.env]:=by rfl):GS X E (.Assign [tg] e pos) (Xq m g):=(jF he hg hs hw h1).imp λD σ H ⟨ρ,l,S,hl,hs,hm⟩=>by
 exact ⟨ρ,l,S,hl,hs,hm.lift hl .refl λd S1 hm ρ1 H1 x l1 s1 r1=>⟨ρ1,l,S1,d,r1,hl.mono l1,s1,(hm.later l1).seq λe1 S2 hm ρ2 H2 σ2 l2 s2 r2=>hm ρ2 H2 σ2 (l1.trans l2) s2 r2⟩⟩
theorem jw {i:Nat} {x:Str} {pos':Pos} (hN:X.N.Nodup) (hi:X.N[i]?=some x) (hx:Loc X.env.scope x) (he:GE X E e m) (hs:Fo e (some (.Name x pos')) pos.line X.env=pure false:=by rfl)
  (hf:X.fn x=true∨X.env.scope.names.lookup x=some .local:=by first | exact .inl rfl | exact .inr rfl | assumption):GS X E (.Assign [.Name x pos'] e pos) (BZ i m):=(jB hN hi hx he hs hf).imp λD σ H ⟨ρ,l,S,hl,hs,hm⟩=>by
 exact ⟨ρ,l,S,hl,hs,hm.lift hl .refl λd S1 hm ρ1 H1 x l1 s1 r1=>hm ρ1 H1 _ l1 s1 ((hl.mono l1).set r1 i)⟩
def JU (v:Hf) (g:MG) (b:MS):Nat->Nat->Lo->Sto->Res Fl
 | k,i,e,S=>match v S with
  | none=>.bad
  | some ds=>match ds[i]? with
   | none=>.ok (.nx e) S
   | some d=>match k with
    | 0=>.bad
    | k+1=>(g d e S).bind λe1 S1=>(b e1 S1).bind λf S2=>match f with
     | .nx e2=>JU v g b k (i+1) e2 S2
     | .ct e2=>JU v g b k (i+1) e2 S2
     | .bk e2=>.ok (.nx e2) S2
     | .rt d=>.ok (.rt d) S2
     | .ex c e2=>.ok (.ex c e2) S2
def Cj (v:Hf) (S:Sto):Nat:=match v S with
 | none=>0
 | some ds=>ds.length
def HF (m:MI) (g:MG) (b:MS):MS:=λe S=>(m e S).lift e λv S1=>JU v g b (Cj v S1) 0 e S1
theorem GC {tg iter:Expr} {body:List Cg} {mi:MI} {g:MG} (hp:NZ (AZ X.prog X.w) X.A X.env X.xe) (hc:X.calm=true) (hi:GI X E tg iter mi) (hg:GG X tg g) (hb:GSs X E body b)
  (hs:∀x,FC iter X.env x=pure x:=by intro _;rfl):GS X E (.For tg iter body [] pos) (HF mi g b):=(jD hp hc hi hg hb hs).imp λD σ H ⟨ρ,l,S,hl,hs,hm⟩=>by
 refine ⟨ρ,l,S,hl,hs,hm.lift hl .refl λv S1 hm ρ1 H1 J l1 s1 vo=>?_⟩;refine ⟨λi n σ2 H2=>∃ρ2 e2 S2,Le X.K ρ1 H1 ρ2 H2/\FB X.K ρ2 H2 e2 σ2/\B4 X.K ρ2 S2 H2/\Bz X.K noH ρ2 H2 (JU v g b n i e2 S2) λfl S'=>Px X.K E ρ H S' D fl,⟨Cj v S1,ρ1,l,S1,.refl,hl.mono l1,s1,hm.later l1⟩,?_⟩;rintro i n σ2 H2 ⟨ρ2,e2,S2,l2,r2,s2,hm2⟩;unfold JU at hm2
 cases hv:v S2 with
 | none=>rw [hv] at hm2;exact hm2.elim
 | some ds=>
  rw [hv] at hm2;dsimp only at hm2;obtain ⟨v1,v2⟩:=vo ρ2 H2 S2 ds i l2 s2 hv
  cases hd:ds[i]? with
  | none=>
   rw [hd] at hm2;exact .inl ⟨v1 hd,hm2 ρ2 H2 σ2 (l1.trans l2) s2 r2⟩
  | some d=>
   rw [hd] at hm2;dsimp only at hm2;obtain ⟨go,yl⟩:=v2 d hd
   cases n with
   | zero=>exact hm2.elim
   | succ n=>
    dsimp only at hm2;refine .inr ⟨go,λσ' H'=>∃ρ2 e2 S2,Le X.K ρ1 H1 ρ2 H'/\FB X.K ρ2 H' e2 σ'/\B4 X.K ρ2 S2 H'/\Bz X.K noH ρ2 H' (JU v g b n (i+1) e2 S2) λfl S'=>Px X.K E ρ H S' D fl,λσ' H' q=>⟨n,CU n,q⟩,λx H' y=>?_⟩;obtain ⟨ρ3,l3,s3,rd⟩:=yl x H' y;refine ⟨ρ3,e2,S2,d,rd,r2.mono l3,s3,(hm2.later l3).seq λe3 S3 hm2 ρ4 H4 σ4 l4 s4 r4=>?_⟩;refine ⟨ρ4,e3,S3,r4,s4,(hm2.later l4).seq λf4 S4 hm2=>?_⟩
    cases f4 with
    | nx e5=>exact λρ5 H5 σ5 l5 s5 r5=>⟨ρ5,e5,S4,l2.trans (l3.trans (l4.trans l5)),r5,s5,hm2.later l5⟩
    | ct e5=>exact λρ5 H5 σ5 l5 s5 r5=>⟨ρ5,e5,S4,l2.trans (l3.trans (l4.trans l5)),r5,s5,hm2.later l5⟩
    | bk e5=>exact λρ5 H5 σ5 l5 s5 r5=>hm2 ρ5 H5 σ5 (l1.trans (l2.trans (l3.trans (l4.trans l5)))) s5 r5
    | ex c e5=>exact λρ5 H5 σ5 l5 s5 r5=>hm2 ρ5 H5 σ5 (l1.trans (l2.trans (l3.trans (l4.trans l5)))) s5 r5
    | rt d5=>exact λρ5 H5 x5 l5 s5 r5=>hm2 ρ5 H5 x5 (l1.trans (l2.trans (l3.trans (l4.trans l5)))) s5 r5
def E8 (c:MT) (b:MS):Nat->MS
 | 0=>λ_ _=>.bad
 | n+1=>λe S=>(c e S).lift e λt S1=>if t=true then (b e S1).bind λf S2=>match f with
   | .nx e2=>E8 c b n e2 S2
   | .ct e2=>E8 c b n e2 S2
   | .bk e2=>.ok (.nx e2) S2
   | .rt d=>.ok (.rt d) S2
   | .ex c e2=>.ok (.ex c e2) S2
  else .ok (.nx e) S1
theorem Pt {c:Expr} {body:List Cg} (N:Nat) (hp:NZ (AZ X.prog X.w) X.A X.env X.xe) (hc:GT X E c t) (hb:GSs X E body b):GS X E (.While c body [] pos) (E8 t b N):=(aF hp hc hb).imp λD σ H ⟨ρ,l,S,hl,hs,hm⟩=>by
 refine ⟨λn σ2 H2=>∃ρ2 e2 S2,Le X.K ρ H ρ2 H2/\FB X.K ρ2 H2 e2 σ2/\B4 X.K ρ2 S2 H2/\Bz X.K noH ρ2 H2 (E8 t b n e2 S2) λfl S'=>Px X.K E ρ H S' D fl,⟨N,ρ,l,S,.refl,hl,hs,hm⟩,?_⟩;rintro n σ2 H2 ⟨ρ2,e2,S2,l2,r2,s2,hm2⟩
 cases n with
 | zero=>exact hm2.elim
 | succ n=>
  refine ⟨ρ2,e2,S2,r2,s2,hm2.lift r2 l2 λtc S3 hm2 ρ3 H3 l3 s3=>?_⟩
  cases tc with
  | false=>rw [qY AR] at hm2 ⊢;exact hm2 ρ3 H3 σ2 (l2.trans l3) s3 (r2.mono l3)
  | true=>
   rw [qX rfl] at hm2 ⊢;refine ⟨λσ' H'=>∃ρ2 e2 S2,Le X.K ρ H ρ2 H'/\FB X.K ρ2 H' e2 σ'/\B4 X.K ρ2 S2 H'/\Bz X.K noH ρ2 H' (E8 t b n e2 S2) λfl S'=>Px X.K E ρ H S' D fl,λσ' H' q=>⟨n,CU n,q⟩,?_⟩;refine ⟨ρ3,e2,S3,r2.mono l3,s3,(hm2.later l3).seq λf4 S4 hm2=>?_⟩
   cases f4 with
   | nx e5=>exact λρ5 H5 σ5 l5 s5 r5=>⟨ρ5,e5,S4,l2.trans (l3.trans l5),r5,s5,hm2.later l5⟩
   | ct e5=>exact λρ5 H5 σ5 l5 s5 r5=>⟨ρ5,e5,S4,l2.trans (l3.trans l5),r5,s5,hm2.later l5⟩
   | bk e5=>exact λρ5 H5 σ5 l5 s5 r5=>hm2 ρ5 H5 σ5 (l2.trans (l3.trans l5)) s5 r5
   | ex c e5=>exact λρ5 H5 σ5 l5 s5 r5=>hm2 ρ5 H5 σ5 (l2.trans (l3.trans l5)) s5 r5
   | rt d5=>exact λρ5 H5 x5 l5 s5 r5=>hm2 ρ5 H5 x5 (l2.trans (l3.trans l5)) s5 r5
end
section
variable {X:Cx} {E:EW} {tg e:Expr} {m:ME} {ml:ML} {K:AA}
def Ng (d:D):Hf:=λS=>match d with
 | .ref n=>match S[n]? with
  | some (.lst ds)=>some ds
  | _=>none
 | .fro ds=>some ds
 | _=>none
def Dq (ds:List D):Hf:=λ_=>some ds
def mJ (m:ME):MI:=λe S=>(m e S).bind λd S1=>match Ng d S1 with
 | some _=>.ok (Ng d) S1
 | none=>.bad
def gs (m:ME):MI:=λe S=>(m e S).bind λd S1=>match d with
 | .tup ds=>.ok (Dq ds) S1
 | _=>.bad
theorem O1 {ρ:List AK} {H:Hp} {S:Sto} {a:AK} {d:D} {ds:List D} (s:B4 K ρ S H) (r:Bv K ρ H d (.ref a)) (hv:Ng d S=some ds):∃xs,SqL K H a xs/\Ay K ρ H ds xs:=by
 cases r with
 | tup h1 h2=>cases hv
 | exc _ _=>cases hv
 | fro h1 h2=>cases hv;exact ⟨_,h1.sq,h2⟩
 | @ref n _ hn=>
  obtain ⟨o,ho,ro⟩:=s.there hn;unfold Ng at hv;simp only [ho] at hv
  cases o with
  | lst es=>
   cases hv;obtain ⟨vs,e,rr⟩:=ro;exact ⟨vs,.inl (.inl e),rr⟩
  | _=>cases hv
theorem O0 {ρ:List AK} {H:Hp} {a:AK} {d:D} (r:Bv K ρ H d (.ref a)):NW K ρ H (Itl K a) (Ng d):=by
 intro ρ2 H2 S ds i l s hv;obtain ⟨xs,sq,rr⟩:=O1 s (r.mono l) hv;refine ⟨λhn=>⟨xs,sq,by rw [<-rr.length];exact Bh.mp hn⟩,λd hd=>?_⟩;obtain ⟨x,hx,rx⟩:=rr.get hd;refine ⟨⟨xs,x,sq,hx⟩,λy H' ⟨e,hy⟩=>?_⟩;subst e;have:=hy xs sq;rw [hx] at this;cases this;exact ⟨ρ2,.refl,s,rx⟩
theorem j4 (h:GE X E e m):GI X E tg e (mJ m):=(d9 h).imp λσ H R ⟨ρ,l,S,hl,hs,hm⟩=>by
 refine ⟨ρ,l,S,hl,hs,hm.seq λd S1 hm ρ1 H1 x l1 s1 r1=>?_⟩
 cases hv:Ng d S1 with
 | none=>rw [hv] at hm;exact hm.elim
 | some ds=>
  rw [hv] at hm
  have:∃a,x=.ref a:=by
   cases r1 <;> first | exact ⟨_,rfl⟩ | (cases hv;done)
  obtain ⟨a,rfl⟩:=this;obtain ⟨xs,sq,_⟩:=O1 s1 r1 hv;exact ⟨a,rfl,⟨xs,sq⟩,hm ρ1 H1 _ l1 s1 (O0 r1)⟩
theorem Oy {ρ:List AK} {H:Hp} {a:AK} {ds:List D} {xs:List V} (h1:H a=some (.tup xs)) (h2:Ay K ρ H ds xs):NW K ρ H (Itt K a) (Dq ds):=by
 intro ρ2 H2 S ds' i l s hv;cases hv;have rr:=h2.mono l;have sq:SqT K H2 a xs:=.inl (.inl (l.tup _ _ h1));refine ⟨λhn=>⟨xs,sq,by rw [<-rr.length];exact Bh.mp hn⟩,λd hd=>?_⟩;obtain ⟨x,hx,rx⟩:=rr.get hd;refine ⟨⟨xs,x,sq,hx⟩,λy H' ⟨e,hy⟩=>?_⟩;subst e;have:=hy xs sq;rw [hx] at this;cases this;exact ⟨ρ2,.refl,s,rx⟩
theorem jz (h:GE X E e m):GI X E tg e (gs m):=(jG h).imp λσ H R ⟨ρ,l,S,hl,hs,hm⟩=>by
 refine ⟨ρ,l,S,hl,hs,hm.seq λd S1 hm ρ1 H1 x l1 s1 r1=>?_⟩
 cases d <;> first | exact hm.elim | skip
 cases r1 with
 | tup q1 q2=>exact ⟨_,rfl,⟨_,.inl (.inl q1)⟩,hm ρ1 H1 _ l1 s1 (Oy q1 q2)⟩
def DH (lo:Int) (n:Nat):List D:=(AT n).map λi:Nat=>D.int (lo+i)
theorem NE (lo:Int) (n i:Nat):(DH lo n)[i]?=if i < n then some (.int (lo+i)) else none:=by
 unfold DH;rw [AX]
 by_cases h:i < n
 ·rw [Bg h,qX h];rfl
 ·rw [qY h,Bh.mpr (by simpa using h)];rfl
theorem Oz {ρ:List AK} {H:Hp} (lo:Int) (n:Nat):NW K ρ H (Itr lo n) (Dq (DH lo n)):=by
 intro ρ2 H2 S ds' i l s hv;cases hv;rw [NE];refine ⟨λhn=>?_,λd hd=>?_⟩
 ·split at hn
  ·cases hn
  ·rename_i h;exact Oq h
 ·split at hd
  ·rename_i h
   cases hd;refine ⟨h,λy H' ⟨e,hy⟩=>?_⟩;subst e;subst hy;exact ⟨ρ2,.refl,s,.int _⟩
  ·cases hd
def iR1 (ml:ML):MI:=λe S=>(ml e S).bind λds S1=>match ds with
 | [.int j]=>if -(2 ^ 62)<=j/\j < 2 ^ 62 then .ok (Dq (DH 0 j.toNat)) S1 else .bad
 | _=>.bad
def iR2 (ml:ML):MI:=λe S=>(ml e S).bind λds S1=>match ds with
 | [.int i,.int j]=>if -(2 ^ 62)<=i/\i < 2 ^ 62/\-(2 ^ 62)<=j/\j < 2 ^ 62 then .ok (Dq (DH i (j - i).toNat)) S1 else .bad
 | _=>.bad
theorem Fj {a:Expr} {p pos:Pos} (hg:Gl X "range") (hm:X.mg "range" = none) (ha:GA X E [a] ml) (hs:AS [a] X.env=[(false,Bm a X.env)]:=by rfl):GI X E tg (.Call (.Name "range" p) [a] [] pos) (iR1 ml):=(Xz hg hm ha hs).imp λσ H R ⟨ρ,l,S,hl,hs,hm⟩=>by
 refine ⟨ρ,l,S,hl,hs,hm.seq λds S1 hm ρ1 H1 xs l1 s1 r1=>?_⟩;split at hm
 ·rename_i j
  split at hm
  ·rename_i hj
   cases r1 with
   | cons r t=>
    cases t;cases r;exact ⟨j,rfl,hj.1,hj.2,hm ρ1 H1 _ l1 s1 (Oz 0 j.toNat)⟩
  ·exact hm.elim
 ·exact hm.elim
theorem YQ {a b:Expr} {p pos:Pos} (hg:Gl X "range") (hm:X.mg "range" = none) (ha:GA X E [a,b] ml) (hs:AS [a,b] X.env=[(false,Bm a X.env),(false,Bm b X.env)]:=by rfl) (hs2:AS [b] X.env=[(false,Bm b X.env)]:=by rfl) :
  GI X E tg (.Call (.Name "range" p) [a,b] [] pos) (iR2 ml):=(Xy hg hm ha hs hs2).imp λσ H R ⟨ρ,l,S,hl,hs,hm⟩=>by
 refine ⟨ρ,l,S,hl,hs,hm.seq λds S1 hm ρ1 H1 xs l1 s1 r1=>?_⟩;split at hm
 ·rename_i i j
  split at hm
  ·rename_i hj
   cases r1 with
   | cons r t=>
    cases t with
    | cons r' t=>
     cases t;cases r;cases r';exact ⟨i,j,rfl,hj,hm ρ1 H1 _ l1 s1 (Oz i _)⟩
  ·exact hm.elim
 ·exact hm.elim
end
def GX:List D->Lo->Sto->Res Lo
 | [],e,S=>.ok e S
 | _,_,_=>.bad
def B7 (g:MG) (r:List D->Lo->Sto->Res Lo):List D->Lo->Sto->Res Lo
 | d :: ds,e,S=>(g d e S).bind λe1 S1=>r ds e1 S1
 | [],_,_=>.bad
def Fx (n:Nat) (r:List D->Lo->Sto->Res Lo):MG:=λd e S=>match d with
 | .tup ds=>if ds.length=n then r ds e S else .bad
 | _=>.bad
section
variable {X:Cx} {E:EW} {pos:Pos}
def gGs (K:AA) (r:List D->Lo->Sto->Res Lo):TGs:=λvs σ H Q=>∃ρ e S ds,Ay K ρ H ds vs/\FB K ρ H e σ/\B4 K ρ S H/\Bz K noH ρ H (r ds e S) λe' S'=>∀ρ' H' σ',Le K ρ H ρ' H'->B4 K ρ' S' H'->FB K ρ' H' e' σ'->Q σ' H'
abbrev GGs (X:Cx) (ts:List Expr) (r:List D->Lo->Sto->Res Lo):Prop:=PGs X ts (gGs X.K r)
theorem PGs.imp {X:Cx} {ts:List Expr} {t t':TGs} (h:PGs X ts t) (i:∀vs σ H Q,t' vs σ H Q->t vs σ H Q):PGs X ts t':=λpins s σ H vs us Q I r q=>h pins s σ H vs us Q I r (i vs σ H Q q)
theorem Jn:GGs X [] GX:=eD.imp λvs σ H Q ⟨ρ,l,S,ds,hd,hl,hs,hm⟩=>by
 cases ds with
 | nil=>cases hd;exact ⟨rfl,hm ρ H σ .refl hs hl⟩
 | cons d ds=>exact hm.elim
theorem Df {e:Expr} {es:List Expr} {g:MG} {r:List D->Lo->Sto->Res Lo} (h1:GG X e g) (h2:GGs X es r)
  (hs:(Ef (e :: es) X.env).map (·.2)=Oj e X.env :: (Ef es X.env).map (·.2):=by rfl):GGs X (e :: es) (B7 g r):=(aL h1 h2 hs).imp λvs σ H Q ⟨ρ,l,S,ds,hd,hl,hs,hm⟩=>by
 cases ds with
 | nil=>exact hm.elim
 | cons d ds=>
  cases hd with
  | cons q1 q2=>
   exact ⟨_,_,rfl,ρ,l,S,d,q1,hl,hs,hm.seq λe1 S1 hm ρ1 H1 σ1 l1 s1 r1=>⟨ρ1,e1,S1,ds,q2.mono l1,r1,s1,hm.go l1 λ_ _ k ρ2 H2 σ2 l2 s2 r2=>k ρ2 H2 σ2 (l1.trans l2) s2 r2⟩⟩
theorem Lp {es:List Expr} {k:Nat} {r:List D->Lo->Sto->Res Lo} {n:Nat} (hc:X.calm=true) (h:GGs X es r)
  (hn:(Ef es X.env).length=n:=by rfl) (hst:(Ef es X.env).findIdx? (·.1)=none:=by rfl):GG X (.Tuple es k pos) (Fx n r):=(jH hc h hn hst).imp λv σ H Q ⟨ρ,l,S,d,hd,hl,hs,hm⟩=>by
 cases d <;> first | exact hm.elim | skip
 rename_i ds
 cases hd with
 | tup q1 q2=>
  unfold Fx at hm;dsimp only at hm;split at hm
  ·rename_i hlen
   exact ⟨_,_,rfl,.inl (.inl q1),by rw [<-q2.length];exact hlen,ρ,l,S,ds,q2,hl,hs,hm⟩
  ·exact hm.elim
end
def spM (K:AA) (n:Nat) (f:List D->Sto->Res D):Sp:=λvs H Q E=>∃ρ ds S,ds.length=n/\Ay K ρ H ds vs/\B4 K ρ S H/\Bz K (λc H'=>E (.ref c) none H') ρ H (f ds S) λd S'=>
 ∀ρ' H' x,Le K ρ H ρ' H'->B4 K ρ' S' H'->Bv K ρ' H' d x->Q x H'
theorem spM.len {K:AA} {n:Nat} {f:List D->Sto->Res D} {vs:List V} {H:Hp} {Q:VK} {E:XK} (h:spM K n f vs H Q E):vs.length=n:=by
 obtain ⟨ρ,ds,S,h1,h2,_⟩:=h;rw [<-h2.length];exact h1
def BB (n:Nat) (f:List D->Sto->Res D) (m:ML):ME:=λe S=>(m e S).bind λds S1=>if ds.length=n then f ds S1 else .bad
def Pe (C:AK) (n:Nat) (f:List D->Sto->Res D) (m:ML):ME:=λe S=>(m e S).bind λds S1=>if ds.length+1=n then (f (.ref S1.length :: ds) (S1++[.ins C []])).bind (λd S2=>match d with
  | .non=>.ok (.ref S1.length) S2
  | _=>.bad) else .bad
def Xa (E:EW) (σ:St):XK:=λv o H=>o=none/\∃c,v=.ref c/\E c σ H
section
variable {X:Cx} {E:EW} {CX:CXT} {k n:Nat} {f C:AK} {fd:Dh} {ps:List Str} {x:Str} {p pos:Pos} {e:Expr} {es:List Expr} {ml:ML} {g:List D->Sto->Res D}
theorem Bz.xk {α:Type} {K:AA} {σ:St} {ρ ρ1:List AK} {H H1:Hp} {r:Res α} {k k':α->Sto->Prop} (h:Bz K (λc=>E c σ) ρ H r k) (l:Le K ρ H ρ1 H1) (f:∀a S,k a S->k' a S):Bz K (λc H'=>Xa E σ (.ref c) none H') ρ1 H1 r k':=by
 cases r with
 | ok a S=>exact f a S h
 | err c S=>exact λρ' H' l' s=>⟨rfl,c,rfl,h ρ' H' (l.trans l') s⟩
 | bad=>exact h
theorem BO (F:Dp X.prog X.w X.K X.mg X.base CX k f fd ps (spM X.K n g)) (hx:Lv CX X (Xa E)) (hr:HQ k X.A) (hg:Gl X x) (hm:X.mg x=some (.ref f)) (hk:Fu X.K (.ref f)=true) (hb:Binds X.K fd ps [])
  (ha:GA X E (e :: es) ml) (hdb:(x==("__debug__" : Str))=false:=by decide) (he:AS (e :: es) X.env=(false,Bm e X.env) :: AS es X.env:=by rfl) (hpl:(DX pos (AS es X.env)).any (·.1)=false:=by rfl) :
  GE X E (.Call (.Name x p) (e :: es) [] pos) (BB n g ml):=(eS (E:=Xa E) F hr hg hm hk hb .nil hx ha hdb he hpl).imp λσ H Q ⟨ρ,l,S,hl,hs,hm⟩=>by
 refine ⟨ρ,l,S,hl,hs,hm.seq λds S1 hm ρ1 H1 xs l1 s1 r1=>?_⟩;split at hm
 ·rename_i hlen
  rw [BJ];exact ⟨ρ1,ds,S1,hlen,r1,s1,hm.xk l1 λ_ _ k ρ' H' z l' s' r'=>k ρ' H' z (l1.trans l') s' r'⟩
 ·exact hm.elim
theorem fR (M:Mk X.K C f) (F:Dp X.prog X.w X.K X.mg X.base CX k f fd ps (spM X.K n g)) (hx:Lv CX X (Xa E)) (hr:HQ (k+1) X.A) (hg:Gl X x) (hm:X.mg x=some (.ref C)) (hb:Binds X.K fd ps [])
  (ha:GA X E (e :: es) ml) (hdb:(x==("__debug__" : Str))=false:=by decide) (he:AS (e :: es) X.env=(false,Bm e X.env) :: AS es X.env:=by rfl) (hpl:(DX pos (AS es X.env)).any (·.1)=false:=by rfl) :
  GE X E (.Call (.Name x p) (e :: es) [] pos) (Pe C n g ml):=(eI (E:=Xa E) M F hr hg hm hb .nil hx ha hdb he hpl).imp λσ H Q ⟨ρ,l,S,hl,hs,hm⟩=>by
 refine ⟨ρ,l,S,hl,hs,hm.seq λds S1 hm ρ1 H1 xs l1 s1 r1 a dx ha hdx hne=>?_⟩;split at hm
 ·rename_i hlen
  rw [BJ];obtain ⟨s2,l2⟩:=HY (ho:=.own a) s1 hdx
  have ha2:upd H1 dx (.own a) a=none:=by rw [By (Bw hne)];exact ha
  obtain ⟨s3,l3,at3⟩:=s2.alloc (p:=a) (ho:=.ins C dx []) (o:=.ins C []) ha2 ⟨dx,[],Bj,.nil⟩;refine ⟨ρ1++[a],.ref S1.length :: ds,S1++[.ins C []],by simpa using hlen,.cons (.ref at3) (r1.mono (l2.trans l3)),s3,Bz.xk (hm.seq λz S2 hm=>hm) (l1.trans (l2.trans l3)) λz S2 hm ρ' H' y l' s' r'=>?_⟩
  cases z <;> first | exact hm.elim | skip
  cases r';exact ⟨rfl,hm ρ' H' _ (l1.trans (l2.trans (l3.trans l'))) s' (.ref (l'.pre _ _ at3))⟩
 ·exact hm.elim
end
theorem KVR.lookup {K:AA} {ρ:List AK} {H:Hp} (f:Str):∀ {x:List (Str×D)} {y:List (Str×V)} {d:D},KVR K ρ H x y->x.lookup f=some d->∃v,y.lookup f=some v/\Bv K ρ H d v
 | _,_,_,.nil,h=>by simp at h
 | (g,a) :: x,(g',b) :: y,d,.cons r t,h=>by
  obtain ⟨r1,r2⟩:=r;dsimp only at r1 r2;subst r1;rw [DV] at h ⊢
  cases hq:(f==g) with
  | true=>rw [hq] at h;cases h;exact ⟨b,rfl,r2⟩
  | false=>rw [hq] at h;exact KVR.lookup f t h
def OF (f:Str) (v:D):List (Str×D)->List (Str×D)
 | []=>[(f,v)]
 | (g,x) :: r=>if g=f then (g,v) :: r else (g,x) :: OF f v r
theorem KVR.putF {K:AA} {ρ:List AK} {H:Hp} (f:Str) {d:D} {v:V} (rd:Bv K ρ H d v):∀ {x:List (Str×D)} {y:List (Str×V)},KVR K ρ H x y->KVR K ρ H (OF f d x) (putF f v y)
 | _,_,.nil=>.cons ⟨rfl,rd⟩ .nil
 | (g,a) :: x,(g',b) :: y,.cons r t=>by
  obtain ⟨r1,r2⟩:=r;dsimp only at r1 r2;subst r1;unfold OF L2.putF
  by_cases hq:g=f
  ·rw [qX hq,qX hq];exact .cons ⟨rfl,rd⟩ t
  ·rw [qY hq,qY hq];exact .cons ⟨rfl,r2⟩ (KVR.putF f rd t)
theorem KVR.length {κ:Type} {K:AA} {ρ:List AK} {H:Hp} {x:List (κ×D)} {y:List (κ×V)} (h:KVR K ρ H x y):x.length=y.length:=EQ h
def Hu (C:AK) (f:Str) (m:ME):ME:=λe S=>(m e S).bind λd S1=>match d with
 | .ref n=>match S1[n]? with
  | some (.ins C' fs)=>if C'=C then (match fs.lookup f with | some v=>.ok v S1 | none=>.bad) else .bad
  | _=>.bad
 | _=>.bad
def Q2 (C:AK) (f:Str) (mo mv:ME):MS:=λe S=>(mv e S).lift e λv S1=>(mo e S1).lift e λd S2=>match d with
 | .ref n=>match S2[n]? with
  | some (.ins C' fs)=>if C'=C/\fs.length < 1000 then .ok (.nx e) (S2.set n (.ins C (OF f v fs))) else .bad
  | _=>.bad
 | _=>.bad
section
variable {X:Cx} {E:EW} {o e value:Expr} {f:Str} {pos pos':Pos} {m mv:ME} {C:AK}
theorem Kc (hc:Cls X.K C) (hn:IG X.K C f) (he:GE X E e m) (hb:EC e f X.env (Bm e X.env)=Bm e X.env:=by rfl):GE X E (.Attribute e f pos) (Hu C f m):=(jQ he hb).imp λσ H Q ⟨ρ,l,S,hl,hs,hm⟩=>by
 refine ⟨ρ,l,S,hl,hs,hm.seq λx S1 hm ρ1 H1 v l1 s1 r1=>?_⟩
 cases x <;> first | exact hm.elim | skip
 rename_i n;dsimp only at hm
 cases ho:S1[n]? with
 | none=>rw [ho] at hm;exact hm.elim
 | some ob=>
  rw [ho] at hm
  cases ob <;> first | exact hm.elim | skip
  rename_i C' fs;dsimp only at hm;split at hm
  ·rename_i hC
   rw [hC] at ho
   cases r1 with
   | ref hn'=>
    obtain ⟨dx,fs',e1,e2⟩:=s1.ob n _ _ ho hn'
    cases hq:fs.lookup f with
    | none=>rw [hq] at hm;exact hm.elim
    | some w=>
     rw [hq] at hm;obtain ⟨v,h3,h4⟩:=KVR.lookup f e2 hq;exact ⟨_,_,dx,fs',v,rfl,e1,hc,hn,h3,hm ρ1 H1 v l1 s1 h4⟩
  ·exact hm.elim
theorem Vt (hc:Cls X.K C) (hn:IG X.K C f) (ha:GE X E o m) (hv:GE X E value mv) (hs:Fo value (some (.Attribute o f pos')) pos.line X.env=pure false:=by rfl):GS X E (.Assign [.Attribute o f pos'] value pos) (Q2 C f m mv):=(jE ha hv hs).imp λD σ H ⟨ρ,l,S,hl,hs,hm⟩=>by
 refine ⟨ρ,l,S,hl,hs,hm.lift hl .refl λv S1 hm ρ1 H1 y l1 s1 r1=>⟨ρ1,l,S1,hl.mono l1,s1,(hm.later l1).lift (hl.mono l1) l1 λx S2 hm ρ2 H2 u l2 s2 r2=>?_⟩⟩
 cases x <;> first | exact hm.elim | skip
 rename_i n;dsimp only at hm
 cases ho:S2[n]? with
 | none=>rw [ho] at hm;exact hm.elim
 | some ob=>
  rw [ho] at hm
  cases ob <;> first | exact hm.elim | skip
  rename_i C' fs;dsimp only at hm;split at hm
  ·rename_i hC
   obtain ⟨hC,hlen⟩:=hC;rw [hC] at ho
   cases r2 with
   | ref hn'=>
    obtain ⟨dx,fs',e1,e2⟩:=s2.ob n _ _ ho hn';have le:Le X.K ρ2 H2 ρ2 (upd H2 _ (.ins C dx (putF f y fs'))):=Le.write hn' (by rw [e1];trivial);obtain ⟨s3,l3⟩:=s2.write (ho:=.ins C dx (putF f y fs')) (o:=.ins C (OF f v fs)) hn' ⟨dx,_,Bj,(KVR.putF f (r1.mono l2) e2).mono le⟩;refine ⟨_,C,dx,fs',rfl,e1,hc,hn,by rw [<-KVR.length e2];exact hlen,?_⟩;exact hm ρ2 _ σ (l1.trans (l2.trans l3)) s3 (hl.mono (l1.trans (l2.trans l3)))
  ·exact hm.elim
end
theorem Ct.get {P:Aq} {w:BF} {H:Hp} {h:Bq} {a:AK} {o:HO} (x:Ct P w H h a o):∃u,h.get? a=some u:=by
 cases o with
 | lst xs=>obtain ⟨_,_,_,_,e⟩:=x;exact ⟨_,e⟩
 | tup xs=>obtain ⟨_,_,_,o,e,_⟩:=x;exact ⟨_,e⟩
 | dK kvs=>obtain ⟨_,_,_,_,o,_,_,e,_⟩:=x;exact ⟨_,e⟩
 | dT kvs=>obtain ⟨_,_,_,_,o,_,_,e,_⟩:=x;exact ⟨_,e⟩
 | set S n=>obtain ⟨o,_,_,_,e,_⟩:=x;exact ⟨_,e⟩
 | ins C dx fs=>obtain ⟨_,_,_,e,_⟩:=x;exact ⟨_,e⟩
 | own y=>exact x
 | xd fs=>obtain ⟨_,⟨_,_,_,e,_⟩,_⟩:=x;exact ⟨_,e⟩
 | rng lo hi=>obtain ⟨_,_,_,e⟩:=x;exact ⟨_,e⟩
 | frz ob u=>obtain ⟨e,_⟩:=x;exact ⟨_,e⟩
 | tbl ps=>exact ⟨_,(show h.get? a=some _ from x)⟩
 | met f y=>exact ⟨_,(show h.get? a=some _ from x)⟩
 | ext φ=>obtain ⟨_,e,_⟩:=x;exact e
def Qp (Nw:AK->Prop) (F:Option AD->Prop) (ea C:AK) (H:Hp) (h:Bq):Prop:=
 H ea=none/\Nw ea/\∃(oe:Obj) (vs:Array AD) (a0:AD),h.get? ea=some oe/\oe.cls=.ref C/\(oe.dict=none/\oe.data=.fields vs)/\vs[0]?=some a0 /\
  ((F none/\vs[1]?=some .none)∨∃(T:AK) (oT:Obj) (ts:Array AD) (fl:AD),F (some fl)/\vs[1]?=some (.ref T)/\T≠ea/\H T=none/\Nw T/\h.get? T=some oT/\oT.data=.fields ts/\ts[3]?=some fl)
theorem Qp.imp {Nw:AK->Prop} {h:Bq} {F G:Option AD->Prop} {ea C:AK} {H:Hp} (x:Qp Nw F ea C H h) (f:∀o,F o->G o):Qp Nw G ea C H h:=by
 obtain ⟨n1,n2,oe,vs,a0,g1,g2,g3,g4,g5⟩:=x;refine ⟨n1,n2,oe,vs,a0,g1,g2,g3,g4,?_⟩
 rcases g5 with ⟨a,b⟩ | ⟨T,oT,ts,fl,a,b⟩
 ·exact .inl ⟨f _ a,b⟩
 ·exact .inr ⟨T,oT,ts,fl,f _ a,b⟩
structure Jz (X:Cx):Prop where
 st:X.stack=X.env :: X.outer
 fr:X.env.frame=some X.env.locals
 ex:X.ex=[]
def Nw (X:Cx) (b:AK):Prop:=X.s₀.heap.get? b=none/\∀p∈X.pn,p.1≠b
section
variable {X:Cx} {pins:List (AK×Obj)} {σ:St} {H:Hp} {s:AG} {h':Bq} {ea C:AK} {F:Option AD->Prop}
theorem Inv.old (I:Inv X pins σ H s) (O:Jz X) {b:AK} (e:s.heap.get? b=none):H b=none/\Nw X b:=by
 refine ⟨?_,?_,λp hp z=>?_⟩
 ·cases q:H b with
  | none=>rfl
  | some u=>
   obtain ⟨o,ho⟩:=(I.hok b u q).get;rw [e] at ho;cases ho
 ·cases q:X.s₀.heap.get? b with
  | none=>rfl
  | some o=>
   obtain ⟨o',ho⟩:=I.base.there b o q (by rw [O.ex];simp);rw [e] at ho;cases ho
 ·have:=(I.pin p (A3 _ hp)).1
  rw [z,e] at this;cases this
theorem Inv.recs {ch:List AK} (I:Inv X [] σ H s) (O:Jz X) (hc:∀b∈ch,H b=none/\Nw X b/\∃o vs,s.heap.get? b=some o/\o.data=.fields vs)
  (st:(Js s.heap (frs X.stack++ch)).StaysIn h') (up:s.heap.UpToSlots h'):Inv X [] σ H { s with heap:=h' }:=by
 have keepB:∀b o,b∉frs X.stack->b∉ch->s.heap.get? b=some o->h'.get? b=some o:=λb o h1 h2 e=>
  st b o (UZ _ e λz=>(Aw.mp z).elim h1 h2)
 have noL:∀b∈ch,b≠X.env.locals:=λb hb z=>by
  obtain ⟨_,_,o,vs,e,d⟩:=hc b hb;obtain ⟨m,⟨o',es,ep,ho',hd',_⟩,_⟩:=I.loc;rw [z,ho'] at e;cases e;rw [hd'] at d;cases d
 have noC:∀b∈ch,∀x c,X.env.cells.lookup x=some c->c≠b:=λb hb x c q z=>by
  obtain ⟨_,_,o,vs,e,d⟩:=hc b hb;obtain ⟨v,o',ho',hd'⟩:=I.cell x c q;rw [z,e] at ho';cases ho';rw [d] at hd';cases hd'
 refine I.stepN (g':=s.gens) (t':=s.toks) (d':=s.drawn) (ch:=ch) (λb hb=>⟨.inr (hc b hb).2.1.1,noL b hb,noC b hb,λp hp=>(hc b hb).2.1.2 p (by rwa [BJ] at hp)⟩)
  (λb o nl nf nc e _=>keepB b o (λz=>(Au.mp (I.stkSub b z)).elim nl nf) nc e) (λb o _ hf _ e _=>?_) (λ_ _ _ _ n=>n) (λb o nc e=>?_) (λ_ _ q=>q) (λ_ _ _ q=>q) (λb ps q=>⟨#[],by rw [q];simp⟩) (λm hm=>up.ns hm) (λa o e=>?_) I.bare
 ·obtain ⟨o',ho',nf⟩:=(I.funs.mem hf).2
  rw [e] at ho';cases ho';exact up b o e nf
 ·by_cases hb:b∈frs X.stack
  ·obtain ⟨o',ho',nf⟩:=(I.stack.mem hb).2
   rw [e] at ho';cases ho';obtain ⟨sl,q⟩:=up b o e nf;exact ⟨_,q⟩
  ·exact ⟨o,keepB b o hb nc e⟩
 ·have tr:∀b u,H b=some u->∀v,s.heap.get? b=some v->h'.get? b=some v:=λb u q v r=>
   keepB b v (λz=>by rw [I.stkFree b z] at q;cases q) (λz=>by rw [(hc b z).1] at q;cases q) r
  refine (I.hok a o e).stay (λb u hb q=>?_) (λ_ q=>q) λ_ _ q=>q
  rcases hb with z | z
  ·subst z;exact tr _ _ e u q
  ·exact tr _ _ z u q
abbrev bM (X:Cx) (h:Bq) (ch:List AK):Bq:=Js h (frs X.stack++ch)
theorem RE {h:Bq} {ch:List AK} {b:AK} (hb:b∈ch):(bM X h ch).get? b=none:=KD _ (A4 _ hb)
theorem Kh (f:Array AD->Array AD) (o:Obj):(Cy f o).dict=o.dict:=by
 obtain ⟨c,d,dt,sl⟩:=o
 cases dt <;> rfl
theorem UI {M:Uw} {A:BA} {E:AD->AG->Prop} {Q:Unit->AG->Prop} {base:Bq} {env:Env} {outer:List Env} {L e:AK} {oe:Obj} {vs:Array AD} {head:AD} {hadNext:Bool}
  (hfr:A.frames=some (env :: outer)) (hl:s.heap.FunFrames base (env :: outer)) (hf:env.frame=some L) (he:s.heap.get? e=some oe) (hd:oe.data=.fields vs) (hsz:1 < vs.size)
  (k:∀h2 T oT ts,T≠e->s.heap.get? T=none->(∀b o,b≠e->b∉frs (env :: outer)->s.heap.get? b=some o->h2.get? b=some o)->(∀b o,b≠e->s.heap.get? b=some o->∃sl,h2.get? b=some { o with slots:=sl }) ->
   h2.get? e=some (Cy (·.setIfInBounds 1 (.ref T)) oe)->h2.get? T=some oT->oT.data=.fields ts->ts[3]?=some (EO L)->Q () { s with heap:=h2 }) :
  Al M A (do let a <-frameOf env;let pl <-entryPlaceOf L hadNext;let b <-Ro head a .none (EO L) .none pl;cO (.ref e) 1 b) Q E s:=by
 have hnot:e∉frs (env :: outer):=λz=>by
  obtain ⟨_,o,ho,nf⟩:=hl.mem z;rw [he] at ho;cases ho;exact nf vs hd
 refine AB (wpAny_frameOf_fun hfr hl hf λg1 so=>AB (wpAny_entryPlaceOf λpl hpl=>?_));unfold Ro newFields;refine AB (B9 ?_ (hpl.sizeOk5 _ _ _ _ _));have e1:g1.get? e=some oe:=(so.2.1 e hnot).trans he;have e2:=AI (h:=g1) { cls:=.type "traceback",dict:=none,data:=.fields ([head,.ref L,.none,EO L,.none]++(if pl.isEmpty then BU 6 BQ else pl)).toArray } e1;refine FQ e2 hd hsz ?_;have nTe:g1.objs.size≠e:=KF (Ab e1);have dd:=CA hd (·.setIfInBounds 1 (A0 g1.objs.size))
 have old:∀b o,b≠e->g1.get? b=some o->((g1.push { cls:=.type "traceback",dict:=none,data:=.fields ([head,.ref L,.none,EO L,.none]++(if pl.isEmpty then BU 6 BQ else pl)).toArray }).update e (Cy (·.setIfInBounds 1 (A0 g1.objs.size)))).get? b=some o:=λb o ne q=>by
  rw [Ce _ _ (Bw ne)];exact AI _ q
 refine k _ g1.objs.size { cls:=.type "traceback",dict:=none,data:=.fields ([head,.ref L,.none,EO L,.none]++(if pl.isEmpty then BU 6 BQ else pl)).toArray } _ nTe (WJ (Uv so.1.symm)) (λb o ne nf q=>old b o ne ((so.2.1 b nf).trans q)) (λb o ne q=>?_) (DZ _ e2 (Eg dd)) ?_ rfl ?_
 ·obtain ⟨sl,z⟩:=so.2.2 b o q
  exact ⟨sl,old b _ ne z⟩
 ·rw [Ce _ _ (Bw nTe)]
  exact Ah g1 rfl
 ·rcases hpl with rfl | ⟨_,_,_,_,_,_,_,rfl⟩ <;> simp
theorem TZ {h:Bq} {ch:List AK} (keep:∀b o,b∉frs X.stack->b∉ch->h.get? b=some o->h'.get? b=some o):(bM X h ch).StaysIn h':=λb o q=>by
 have hb:b∉frs X.stack++ch:=λz=>by
  have:=KD (h:=h) (frs X.stack++ch) z;rw [show (bM X h ch).get? b=(Js h (frs X.stack++ch)).get? b from rfl,this] at q;cases q
 exact keep b o (λz=>hb (A3 _ z)) (λz=>hb (A4 _ z)) (LW _ q)
theorem Wi {M:Uw} {A:BA} {E:AD->AG->Prop} {Q:Unit->AG->Prop} (I:Inv X [] σ H s) (O:Jz X) (hA:A.frames=some X.stack) (x:Qp (Nw X) F ea C H s.heap)
  (hF:∀o,F o->o=none∨o=some .none∨o=some (EO X.env.locals))
  (k:∀h',Inv X [] σ H { s with heap:=h' }->Qp (Nw X) (· = some (EO X.env.locals)) ea C H h'->Q () { s with heap:=h' }):Al M A (Yu (.ref ea) X.env) Q E s:=by
 obtain ⟨n1,n2,oe,vs,a0,g1,g2,⟨g0,g3⟩,g4,g5⟩:=x
 have hA':A.frames=some (X.env :: X.outer):=by rw [hA,O.st]
 have hst:frs (X.env :: X.outer)=frs X.stack:=by rw [O.st]
 have fr:s.heap.FunFrames X.base (X.env :: X.outer):=by rw [<-O.st];exact I.stack
 rcases g5 with ⟨_,h1⟩ | ⟨T,oT,ts,fl,hf,h1,ne,m1,m2,gT,dT,h3⟩
 ·have hsz:=(Et.mp h1).1
  unfold Yu;simp only [O.fr];refine AB (DE g1 g3 h1 ?_);rw [qY (by decide)]
  refine UI hA' fr O.fr g1 g3 hsz λh2 T oT ts nT fT kp up q1 q2 q3 q4=>?_
  rw [hst] at kp;have hT:=I.old O fT
  have hc:∀b∈[ea],H b=none/\Nw X b/\∃o vs,s.heap.get? b=some o/\o.data=.fields vs:=λb hb=>by
   cases AY.mp hb;exact ⟨n1,n2,oe,vs,g1,g3⟩
  refine k h2 (I.recs O hc (TZ λb o z1 z2 q=>kp b o (λz=>z2 (AY.mpr z)) z1 q) λb o q nf=>up b o (λz=>?_) q) ?_
  ·rw [z,g1] at q
   cases q;exact nf vs g3
  ·exact ⟨n1,n2,_,_,a0,q1,by rw [JV];exact g2,⟨by rw [Kh];exact g0,CA g3 _⟩,by rw [Nd (by decide)];exact g4,.inr ⟨T,oT,ts,_,rfl,by simp [hsz],nT,hT.1,hT.2,q2,q3,q4⟩⟩
 ·rcases hF _ hf with e | e | e
  ·cases e
  ·cases e
   have hsz:=(Et.mp h1).1;unfold Yu;simp only [O.fr];refine AB (DE g1 g3 h1 ?_);rw [qX (show (A0 T != BQ)=true from by simp)];refine AB (DE gT dT h3 ?_);rw [qY (show ¬((BQ==EO X.env.locals)=true) from by simp [EO])];refine AB (FQ gT dT (Et.mp h3).1 ?_)
   have oth:∀b,b≠T->(s.heap.update T (Cy (·.setIfInBounds 3 BQ))).get? b=s.heap.get? b:=λb hb=>Ce _ _ (Bw hb)
   have nrec:∀b o,s.heap.get? b=some o->(∀vs,o.data≠.fields vs)->b≠T:=λb o hb nf q=>by
    rw [q,gT] at hb;cases hb;exact nf ts dT
   have fr2:(s.heap.update T (Cy (·.setIfInBounds 3 BQ))).FunFrames X.base (X.env :: X.outer):=fr.of_keeps λb o hb nf=>⟨o,(oth b (nrec b o hb nf)).trans hb,rfl⟩
   have gU:(s.heap.update T (Cy (·.setIfInBounds 3 BQ))).get? T=some (Cy (·.setIfInBounds 3 BQ) oT):=DZ _ gT (Eg (CA dT _))
   have hc:∀b∈[ea,T],H b=none/\Nw X b/\∃o vs,s.heap.get? b=some o/\o.data=.fields vs:=λb hb=>by
    rcases Au.mp hb with rfl | hb
    ·exact ⟨n1,n2,oe,vs,g1,g3⟩
    ·cases AY.mp hb
     exact ⟨m1,m2,oT,ts,gT,dT⟩
   refine UI (s:={ s with heap:=s.heap.update T (Cy (·.setIfInBounds 3 BQ)) }) hA' fr2 O.fr ((oth ea (Bw ne)).trans g1) g3 hsz λh2 T2 oT2 ts2 nT fT kp up q1 q2 q3 q4=>?_
   rw [hst] at kp
   have fT':s.heap.get? T2=none:=by
    have z:T2≠T:=λz=>by rw [z] at fT;exact zX (fT.symm.trans gU) (by simp)
    rw [<-oth T2 z];exact fT
   have hT:=I.old O fT';refine k h2 (I.recs O hc (TZ λb o z1 z2 q=>kp b o (λz=>z2 (by rw [z];exact Ag)) z1 ((oth b λz=>z2 (by rw [z];exact AW _ (AY.mpr rfl))).trans q)) λb o q nf=>up b o (λz=>?_) ((oth b (nrec b o q nf)).trans q)) ?_
   ·rw [z,g1] at q
    cases q;exact nf vs g3
   ·exact ⟨n1,n2,_,_,a0,q1,by rw [JV];exact g2,⟨by rw [Kh];exact g0,CA g3 _⟩,by rw [Nd (by decide)];exact g4,.inr ⟨T2,oT2,ts2,_,rfl,by simp [hsz],nT,hT.1,hT.2,q2,q3,q4⟩⟩
  ·cases e
   have hTn:(bM X s.heap [ea,T]).get? T=none:=RE (AW _ (AY.mpr rfl));refine wpAny_noteFrame_againW (base:=bM X s.heap [ea,T]) (cls:=.ref C) (a0:=a0) O.fr ⟨oe,vs,T,oT,ts,g1,⟨g2,g4⟩,g3,h1,hTn,ne,gT,dT,h3⟩ ?_;exact k s.heap I ⟨n1,n2,oe,vs,a0,g1,g2,⟨g0,g3⟩,g4,.inr ⟨T,oT,ts,_,rfl,h1,ne,m1,m2,gT,dT,h3⟩⟩
theorem RF {M:Uw} {A:BA} {E:AD->AG->Prop} {Q:Unit->AG->Prop} (f:Option AK) (I:Inv X [] σ H s) (O:Jz X) (x:Qp (Nw X) F ea C H s.heap) (hF:¬F none)
  (k:∀h',Inv X [] σ H { s with heap:=h' }->Qp (Nw X) (· = some (f.elim BQ λa=>EO a)) ea C H h'->Q () { s with heap:=h' }):Al M A (setFlight (.ref ea) f) Q E s:=by
 obtain ⟨n1,n2,oe,vs,a0,g1,g2,⟨g0,g3⟩,g4,g5⟩:=x
 rcases g5 with ⟨z,_⟩ | ⟨T,oT,ts,fl,hf,h1,ne,m1,m2,gT,dT,h3⟩
 ·exact (hF z).elim
 ·have hc:∀b∈[ea,T],H b=none/\Nw X b/\∃o vs,s.heap.get? b=some o/\o.data=.fields vs:=λb hb=>by
   rcases Au.mp hb with rfl | hb
   ·exact ⟨n1,n2,oe,vs,g1,g3⟩
   ·cases AY.mp hb
    exact ⟨m1,m2,oT,ts,gT,dT⟩
  have hsz:3 < ts.size:=(Et.mp h3).1;unfold setFlight;refine AB (DE g1 g3 h1 ?_);rw [qX (show (A0 T != BQ)=true from by simp)];refine FQ gT dT hsz ?_
  have oth:∀b,b≠T->(s.heap.update T (Cy (·.setIfInBounds 3 (f.elim BQ λa=>EO a)))).get? b=s.heap.get? b:=λb hb=>Ce _ _ (Bw hb)
  have nrec:∀b o,s.heap.get? b=some o->(∀vs,o.data≠.fields vs)->b≠T:=λb o hb nf q=>by
   rw [q,gT] at hb;cases hb;exact nf ts dT
  refine k _ (I.recs O hc (λb o q=>?_) λb o q nf=>⟨o.slots,(oth b (nrec b o q nf)).trans q⟩) ?_
  ·have hb:b≠T:=λz=>by rw [z,RE (AW _ (AY.mpr rfl))] at q;cases q
   exact (oth b hb).trans (LW _ q)
  ·refine ⟨n1,n2,oe,vs,a0,(oth ea (Bw ne)).trans g1,g2,⟨g0,g3⟩,g4,.inr ⟨T,_,_,_,rfl,h1,ne,m1,m2,DZ _ gT (Eg (CA dT _)),CA dT _,?_⟩⟩
   simp [hsz]
end
def trF (X:Cx) (o:Option AD):Prop:=o=none∨o=some .none∨o=some (EO X.env.locals)
def XE (X:Cx) (E:EW) (e:AD) (s':AG):Prop:=∃ea C σ H',e=.ref ea/\Inv X [] σ H' s'/\Qp (Nw X) (trF X) ea C H' s'.heap/\E C σ H'
def CXG (P:Aq) (w:BF):CXT:=λouter H s E e s'=>∃ea C H',e=.ref ea/\s'.os=s.os/\II s'.gens/\Un (frs outer) [] H H' s.heap s'.heap/\HOk P w H' s'.heap/\Qp (λb=>s.heap.get? b=none) (· = some .none) ea C H' s'.heap/\E (.ref C) none H'
theorem XE.own {X:Cx} {E:EW} (O:Jz X):NZ (AZ X.prog X.w) X.A X.env (XE X E):=by
 rintro e s' ⟨ea,C,σ,H,rfl,I,x,w⟩
 refine Wi I O I.ok.frames x (λo z=>z) λh1 I1 x1=>?_
 have x1':=x1;obtain ⟨n1,n2,oe,vs,a0,g1,g2,g3,g4,g5⟩:=x1'
 rcases g5 with ⟨z,_⟩ | ⟨T,oT,ts,fl,hf,h1',_⟩
 ·cases z
 ·show Al _ _ _ _ _ _
  refine AB (DE (s:={ s' with heap:=h1 }) g1 g3.2 h1' ?_);rw [qY (by simp)];rw [O.fr]
  refine RF (s:={ s' with heap:=h1 }) (some X.env.locals) I1 O x1 (by simp) λh2 I2 x2=>?_
  exact ⟨ea,C,σ,H,rfl,I2,x2.imp λo z=>.inr (.inr z),w⟩
theorem XE.leave {X:Cx} {E:EW} {e:AD} {s':AG} {Q:Unit->AG->Prop} {E':AD->AG->Prop} (O:Jz X) (h:XE X E e s')
  (k:∀ea C σ H' s'',e=.ref ea->Inv X [] σ H' s''->Qp (Nw X) (· = some .none) ea C H' s''.heap->E C σ H'->Q () s''):Al (AZ X.prog X.w) X.A (leaving X.env e) Q E' s':=by
 obtain ⟨ea,C,σ,H,rfl,I,x,w⟩:=h;unfold leaving;refine AB (Wi I O I.ok.frames x (λo z=>z) λh1 I1 x1=>?_)
 refine RF (s:={ s' with heap:=h1 }) none I1 O x1 (by simp) λh2 I2 x2=>?_
 exact k ea C σ H _ rfl I2 x2 w
abbrev Cx.p (X:Cx) (pn:List (AK×Obj)):Cx:={ X with pn:=pn }
abbrev Cx.w' (X:Cx) (pn:List (AK×Obj)) (E:EW):Cx:={ X with pn:=pn,xe:=XE (X.p pn) E }
theorem Inv.with {X:Cx} {pins:List (AK×Obj)} {σ:St} {H:Hp} {s:AG} (I:Inv X pins σ H s) (z:AD->AG->Prop):Inv { X with xe:=z } pins σ H s:=by
 obtain ⟨ok,a,b,c,d,e,f,g,i,j,l⟩:=I;obtain ⟨o1,o2,o3,o4,o5,o6,o7,o8,o9,o10,o11,o12,o13,o14,o15,o16,o17,o18⟩:=ok;exact ⟨⟨o1,o2,o3,o4,o5,o6,o7,o8,o9,o10,o11,o12,o13,o14,o15,o16,o17,o18⟩,a,b,c,d,e,f,g,i,j,l⟩
theorem Inv.without {X:Cx} {pins:List (AK×Obj)} {σ:St} {H:Hp} {s:AG} {z:AD->AG->Prop} (I:Inv { X with xe:=z } pins σ H s):Inv X pins σ H s:=by
 have:=I.with X.xe
 exact this
structure Good (X:Cx) (E:EW):Prop where
 pass:Lv (CXG X.prog X.w) X (Xa E)
 own:NZ (AZ X.prog X.w) X.A X.env X.xe
 made:∀(pins:List (AK×Obj)) (σ:St) (H:Hp) (s:AG) (h':Bq) (ea C:AK) (args:List AD),Inv X pins σ H s->E C σ H->Bq.MadeExcOf s.heap h' ea (.ref C) args->X.xe (.ref ea) { s with heap:=h' }
theorem Jz.p {X:Cx} (O:Jz X) (pn:List (AK×Obj)):Jz (X.p pn):=⟨O.st,O.fr,O.ex⟩
theorem BH {X:Cx} {E:EW} {pn:List (AK×Obj)} (O:Jz X):Good (X.w' pn E) E:=by
 have O':=O.p pn;refine ⟨λpins σ H s e s' I h=>?_,XE.own O',λpins σ H s h' ea C args I w hx=>?_⟩
 ·obtain ⟨ea,C,H',rfl,os,bare,un,hok,x,_,c,ec,w⟩:=h
  cases ec;have I0:Inv (X.p pn) pins σ H s:=Inv.without (X:=X.p pn) I;have I1:Inv (X.p pn) pins σ H' s':=I0.call' os un hok bare (λb z=>zX z (by simp))
  have I2:Inv (X.p pn) [] σ H' s':=I1.pins_of λp hp=>zX hp (by simp)
  obtain ⟨n1,n2,oe,vs,a0,g1,g2,g3,g4,g5⟩:=x;refine ⟨ea,C,σ,H',rfl,I2,⟨n1,(I0.old O' n2).2,oe,vs,a0,g1,g2,g3,g4,?_⟩,w⟩
  rcases g5 with ⟨z,_⟩ | ⟨T,oT,ts,fl,hf,h1,ne,m1,m2,r⟩
  ·cases z
  ·exact .inr ⟨T,oT,ts,fl,.inr (.inl hf),h1,ne,m1,(I0.old O' m2).2,r⟩
 ·have I0:Inv (X.p pn) pins σ H s:=Inv.without (X:=X.p pn) I
  have I1:Inv (X.p pn) pins σ H { s with heap:=h',toks:=s.toks }:=I0.kept hx.keeps;obtain ⟨t,g1,_,_⟩:=hx.there;have hold:=I0.old O' hx.new;exact ⟨ea,C,σ,H,rfl,I1.pins_of λp hp=>zX hp (by simp),⟨hold.1,hold.2,_,_,_,g1,rfl,⟨rfl,rfl⟩,rfl,.inl ⟨.inl rfl,rfl⟩⟩,w⟩
theorem good_none {X:Cx} (hx:X.xe=λ_ _=>False):Good X noE:=by
 refine ⟨λpins σ H s e s' I h=>?_,by rw [hx];exact NZ.never,λ_ _ _ _ _ _ _ _ _ w _=>w.elim⟩;obtain ⟨ea,C,H',rfl,os,bare,un,hok,x,_,c,ec,w⟩:=h;exact w.elim
abbrev RM:List AD:=[.type "ValueError",.type "Exception",.type "BaseException",.type "object"]
structure XCl (K:AA) (C:AK):Prop where
 ex:cG K C RM "ValueError.__new__" = true
theorem XCl.obj {K:AA} {C:AK} (c:XCl K C):∃bm N nm q bs hdct sn sub ab col dd k0 k1 k2 k3 k5,K.lookup C=some (excClassObj nm q C N bs bm hdct sn sub ab col dd k0 k1 k2 k3 k5 "ValueError.__new__") /\
  Ol K N=true/\PySem.W.nsIn K N "__init__" = some none/\PySem.W.tailIn K RM bm=true:=by
 have q:=c.ex;unfold cG at q;split at q
 ·rename_i ddx cdx slx hox
  split at q
  ·rename_i Cx bmx j0 j1 j2 j3 nx j5 hmx hsx
   simp only [D9,beq_iff_eq,ZP] at q;obtain ⟨⟨⟨⟨⟨e1,e2⟩,e3⟩,e4⟩,e5⟩,e6⟩:=q;subst e1;subst e2;obtain ⟨f1,f2,f3,f4,f5,f6,f7,f8,f9,f10,f11⟩:=cdx;dsimp only at hmx e3 e5 e6;subst hmx;subst e3;obtain ⟨lx⟩:=slx;dsimp only at hsx;subst hsx;exact ⟨bmx,f4,f1,f5,f2,f6,f7,f8,f9,f10,ddx,j0,j1,j2,j3,j5,hox,e5,e6,e4⟩
  ·cases q
 ·cases q
theorem eh {K:AA} {N:AK} {h h2:Bq} {m:Str->Option AD} (e:Ol K N=true) (X:K.In h) (X2:K.In h2) (n:h.Ns N m):h2.Ns N m:=by
 obtain ⟨o,es,ep,ho,r⟩:=n;unfold Ol at e;split at e
 ·rename_i hk
  have z:=X _ _ hk;rw [ho] at z;cases z;exact ⟨_,es,ep,X2 _ _ hk,r⟩
 ·cases e
def ER (C:AK) (ml:ML):MS:=λe S=>(ml e S).lift e λds S1=>if ds.length<=sizeLine then .ok (.ex C e) S1 else .bad
section
variable {X:Cx} {E:EW} {x:Str} {np cpos pos:Pos} {e:Expr} {es:List Expr} {ml:ML} {C:AK}
theorem KY (G:Good X E) (hc:X.calm=true) (c:XCl X.K C) (hg:Gl X x) (hm:X.mg x=some (.ref C)) (ha:GA X E (e :: es) ml) (hdb:(x==("__debug__" : Str))=false:=by decide)
  (he:AS (e :: es) X.env=(false,Bm e X.env) :: AS es X.env:=by rfl) (hpl:(DX cpos (AS es X.env)).any (·.1)=false:=by rfl) :
  GS X E (.Raise (some (.Call (.Name x np) (e :: es) [] cpos)) none pos) (ER C ml):=by
 intro pins s σ H D I ⟨ρ,l,S,hl,hs,hm'⟩;have hh:X.A.handled=none:=I.ok.hd hc;obtain ⟨bm,N,nm,q,bs,hdct,sn,sub,ab,col,dd,k0,k1,k2,k3,k5,hC,hok,hin,htl⟩:=c.obj;have hN:s.heap.Ns N (s.heap.nsMap N):=.of_isNs (PySem.W.isNs_of_in I.kIn hok)
 refine wpAny_Raise_call_subT (C:=C) (nm:=nm) (q:=q) (N:=N) (bs:=bs) (bm:=bm) (hdct:=hdct) (sn:=sn) (sub:=sub) (ab:=ab) (col:=col) (dd:=dd) (k0:=k0) (k1:=k1) (k2:=k2) (k3:=k3) (k5:=k5) (bmB:=RM) PySem.F.excBase_ValueError
  ((Ut I.kIn htl).hasType (by decide +kernel)) hh (by rw [he];show (false||(DX cpos (AS es X.env)).any (·.1))=false;rw [hpl];rfl) (PySem.W.nsMap_none_of_in I.kIn hok hin)
  (OZ I hg hm ⟨rfl,?_⟩ hdb)
 have hgo:=ha cpos pins s σ H (λvs H1=>vs.length<=sizeLine/\E C σ H1) I ⟨ρ,l,S,hl,hs,Bz.lift hm' hl .refl λds S1 hm ρ1 H1 xs l1 s1 r1=>by
  split at hm
  ·rename_i hz
   exact ⟨by rw [<-r1.length];exact hz,hm ρ1 H1 σ l1 s1 (hl.mono l1)⟩
  ·exact hm.elim⟩
 rw [he] at hgo ⊢;refine Kz (thn hgo λus s2 ⟨vs,H2,I2,rv,hz,w⟩=>?_);exact ⟨rfl,by rw [<-rv.length];exact hz,I2.kIn _ _ hC,eh hok I.kIn I2.kIn hN,Ut I2.kIn htl,λh' ea hx=>G.made pins σ H2 s2 h' ea C us I2 w hx⟩
end
section
variable {X:Cx} {E:EW} {body suite:List Cg} {b₀:Cg} {g n:Str} {gp hpos pos:Pos} {cs:List AK} {i:Nat} {mb mh:MS} {G:AK}
end
def DF (n:Nat) (ds:List D):Lo:=ds.map some++BU (n - ds.length) none
theorem VP {K:AA} {ρ:List AK} {H:Hp} {N:List Str} {ds:List D} {vs:List V} (r:Ay K ρ H ds vs):FB K ρ H (DF N.length ds) (start N vs):=by
 refine ⟨by simp [DF,start,r.length],λi d q=>?_⟩;unfold DF at q;unfold start
 by_cases hi:i < ds.length
 ·rw [Ac (by simpa using hi),AX] at q
  rw [Ac (by rw [AH,<-r.length];exact hi),AX]
  cases e:ds[i]? with
  | none=>rw [e] at q;cases q
  | some d'=>
   rw [e] at q;cases q;obtain ⟨v,h1,h2⟩:=r.get e;exact ⟨v,by rw [h1];rfl,h2⟩
 ·rw [A9 (by simpa using hi),DA] at q
  split at q <;> cases q
def EG (n:Nat) (mb:MS) (ds:List D) (S:Sto):Res D:=(okR (mb (DF n ds) S)).bind λf S1=>match f with
 | .rt d=>.ok d S1
 | .nx _=>.ok .non S1
 | .ex c _=>.err c S1
 | _=>.bad
section
variable {P:Aq} {w:BF} {K:AA} {mg:Str->Option AD} {base:Bq}
theorem kE {x qual:Str} {st:Cg} {f:AK} {fd:Dh} {N ps:List Str} {k n:Nat} (F:Fun K x qual st f fd) (Sc:Bx N ps (An st)) (hn:ps.length=n) {mb:MS}
  (hbody:∀(cdv:AD) (A:BA) (outer:List Env) (s:AG) (H:Hp) (E:XK),HQ k (A.deeper (LV qual (An st) s.heap.objs.size f cdv))->∀pn E',GSs ((SO (CXG P w) P w K mg base N qual (An st) f cdv A outer s H E).w' pn E') E' (Bs st) mb) :
  Dp P w K mg base (CXG P w) (k+1) f fd ps (spM K n (EG N.length mb)):=by
 obtain ⟨oc,od,kV,doc,pm,an,cdv,ct,osl,rfl,lk,hcd⟩:=F.ex
 refine mS lk hcd Sc (λvs H Q E h=>by rw [hn];exact h.len) λA outer s H vs Q E hr h=>?_
 obtain ⟨ρ,ds,S,h1,h2,h3,h4⟩:=h;have O:Jz (SO (CXG P w) P w K mg base N qual (An st) f cdv A outer s H E):=⟨rfl,rfl,rfl⟩;have hb:=hbody cdv A outer s H E hr [] (λc _ H'=>E (.ref c) none H');refine ⟨gS K (λc _ H'=>E (.ref c) none H') mb,λpins s' σ H' D I q=>GZ (hb pins s' σ H' D (I.with _) q) (λfl s1 z=>?_) λe s1 z=>?_,ρ,_,S,VP h2,h3,?_⟩
 ·cases fl with
  | next=>obtain ⟨σ',H2,J,z⟩:=z;exact ⟨σ',H2,J.without,z⟩
  | brk=>obtain ⟨σ',H2,J,z⟩:=z;exact ⟨σ',H2,J.without,z⟩
  | cont=>obtain ⟨σ',H2,J,z⟩:=z;exact ⟨σ',H2,J.without,z⟩
  | ret u=>obtain ⟨v,σ',H2,J,r,z⟩:=z;exact ⟨v,σ',H2,J.without,r,z⟩
 ·refine XE.leave O z λea C σ' H2 s2 e1 J x w=>⟨ea,C,H2,e1,J.os,J.bare,J.base,J.hok,?_,w⟩
  obtain ⟨n1,n2,oe,vs',a0,g1,g2,g3,g4,g5⟩:=x;refine ⟨n1,n2.1,oe,vs',a0,g1,g2,g3,g4,?_⟩
  rcases g5 with z | ⟨T,oT,ts,fl,hf,h1,ne,m1,m2,r⟩
  ·exact .inl z
  ·exact .inr ⟨T,oT,ts,fl,hf,h1,ne,m1,m2.1,r⟩
 ·unfold EG at h4
  cases hr:mb (DF N.length ds) S with
  | bad=>rw [hr] at h4;exact h4.elim
  | err c S'=>rw [hr] at h4;exact h4.elim
  | ok fl S'=>
   rw [hr] at h4
   cases fl with
   | nx e'=>exact λρ' H' σ' l s' r=>h4 ρ' H' .non l s' .non
   | rt d=>exact h4
   | bk e'=>exact h4.elim
   | ct e'=>exact h4.elim
   | ex c e'=>exact λρ' H' σ' l s' r=>h4 ρ' H' l s'
end
section
variable {X:Cx}
def intOp (C:Int->Int->Prop) [∀i j,Decidable (C i j)] (g:Int->Int->D):D->D->Sto->Res D
 | .int i,.int j,S=>if C i j then .ok (g i j) S else .bad
 | _,_,_=>.bad
theorem bJ {C:Int->Int->Prop} [∀i j,Decidable (C i j)] {g:Int->Int->D} {a b d:D} {S S':Sto} (h:intOp C g a b S=.ok d S'):∃i j,a=.int i/\b=.int j/\C i j/\d=g i j/\S'=S:=by
 unfold intOp at h;split at h
 ·split at h
  ·rename_i i j _ hc
   cases h;exact ⟨_,_,rfl,rfl,hc,rfl,rfl⟩
  ·cases h
 ·cases h
theorem R6 {f:AD->AD->Sem AD} {C:Int->Int->Prop} [∀i j,Decidable (C i j)] {g:Int->Int->D} {v:Int->Int->V} (hv:∀ρ H i j,Bv X.K ρ H (g i j) (v i j)) (h:OpR X f (rI C v)):OpR X f (rD X.K (intOp C g)):=h.imp λx y H Q ⟨ρ,S,a,b,d,S',hs,ra,rb,hm,k⟩=>by
 obtain ⟨i,j,rfl,rfl,hc,rfl,rfl⟩:=bJ hm;cases ra;cases rb;exact ⟨i,j,rfl,rfl,hc,k ρ H _ .refl hs (hv _ _ _ _)⟩
theorem MY {f:AD->AD->Sem AD} {g:Int->Int->D} {v:Int->Int->V} (hv:∀ρ H i j,Bv X.K ρ H (g i j) (v i j)) (h:OpR X f (rI0 v)):OpR X f (rD X.K (intOp (λ_ _=>True) g)):=
 R6 (C:=λ_ _=>True) hv (h.imp λx y H Q ⟨i,j,e1,e2,_,q⟩=>⟨i,j,e1,e2,q⟩)
instance (i j:Int):Decidable (gH i j):=inferInstanceAs (Decidable (_/\_))
instance (i j:Int):Decidable (Ys i j):=inferInstanceAs (Decidable (_∨_))
abbrev Zr:=intOp (λ_ _=>True) λi j=>.int (i - j)
abbrev Pb:=intOp Ys λi j=>.int (i * j)
abbrev Fk:=intOp gH λi j=>.int (i / j)
abbrev Cw:=intOp (λ_ j=>0 < j) λi j=>.int (i % j)
abbrev ltD:=intOp (λ_ _=>True) λi j=>.bl (decide (i < j))
abbrev leD:=intOp (λ_ _=>True) λi j=>.bl (decide (i<=j))
abbrev gtD:=intOp (λ_ _=>True) λi j=>.bl (decide (j < i))
abbrev geD:=intOp (λ_ _=>True) λi j=>.bl (decide (j<=i))
theorem aS:OpR X (D7 .Sub) (rD X.K Zr):=MY (λ_ _ _ _=>.int _) jV
theorem R5:OpR X (D7 .Mult) (rD X.K Pb):=R6 (λ_ _ _ _=>.int _) jW
theorem IX:OpR X (D7 .FloorDiv) (rD X.K Fk):=R6 (λ_ _ _ _=>.int _) eW
theorem Dj:OpR X (D7 .Mod) (rD X.K Cw):=R6 (λ_ _ _ _=>.int _) jX
theorem LP:OpR X (Bp .Lt) (rD X.K ltD):=MY (λ_ _ _ _=>.bl _) lZ
theorem Wh:OpR X (Bp .LtE) (rD X.K leD):=MY (λ_ _ _ _=>.bl _) lb
theorem ll:OpR X (Bp .Gt) (rD X.K gtD):=MY (λ_ _ _ _=>.bl _) lc
theorem lm:OpR X (Bp .GtE) (rD X.K geD):=MY (λ_ _ _ _=>.bl _) lf
def Do:D->D->Sto->Res D
 | .int i,.int j,S=>.ok (.int (i+j)) S
 | .tup xs,.tup ys,S=>if xs.length+ys.length<=sizeLine then .ok (.tup (xs++ys)) S else .bad
 | .ref l,.ref b,S=>match S[l]?,S[b]? with
  | some (.lst xs),some (.lst ys)=>if xs.length+ys.length<=sizeLine then .ok (.ref S.length) (S++[.lst (xs++ys)]) else .bad
  | _,_=>.bad
 | _,_,_=>.bad
def lS (K:AA):R2:=λx y H Q=>∃a b xs ys,x=.ref a/\y=.ref b/\H a=some (.tup xs)/\H b=some (.tup ys)/\xs.length+ys.length<=sizeLine /\
 (xs=[]->Q (.ref b) H)/\(ys=[]->Q (.ref a) H)/\(∀p,H p=none->Q (.ref p) (upd H p (.tup (xs++ys))))
theorem eY:OpR X (D7 .Add) (lS X.K):=by
 intro pins s σ H x y v u Q I rx ry h;obtain ⟨a,b,xs,ys,rfl,rfl,ha,hb,hz,q0,q1,q2⟩:=h;cases rx;cases ry;obtain ⟨its,r1,p1,_⟩:=I.tuple (a:=a) (xs:=xs) (.inl (.inl ha));obtain ⟨its2,r2,p2,_⟩:=I.tuple (a:=b) (xs:=ys) (.inl (.inl hb))
 by_cases hx:xs=[]
 ·obtain ⟨⟨cls,dd,data,sl⟩,ho,hc,n,hd⟩:=id p1
  obtain ⟨⟨cls2,dd2,data2,sl2⟩,ho2,hc2,n2,hd2⟩:=id p2;simp only at hc hd hc2 hd2;subst hc hd hc2 hd2;have hi:its=[]:=r1.nil_iff.mpr hx
  exact ZE ⟨_,ho,rfl⟩ ⟨_,ho2,rfl⟩ Rb XN Ja JA (Ib _ _)
   (tuple_addW0 a b its.toArray its2.toArray n n2 dd dd2 sl sl2 (by simp [hi])) ⟨ho,ho2,⟨.ref b,H,I,rfl,q0 hx⟩⟩
 ·exact eX pins s σ H (.ref a) (.ref b) _ _ Q I rfl rfl ⟨a,b,xs,ys,rfl,rfl,.inl (.inl ha),.inl (.inl hb),hx,hz,q1,λ_ p hp=>q2 p hp⟩
theorem Ay.nil_of {K:AA} {ρ:List AK} {H:Hp} {xs:List D} {vs:List V} (r:Ay K ρ H xs vs) (e:vs=[]):xs=[]:=by
 subst e;cases r;rfl
theorem Ek:OpR X (D7 .Add) (rD X.K Do):=(ja.or (eY.or jZ)).imp λx y H Q ⟨ρ,S,a,b,d,S',hs,ra,rb,hm,k⟩=>by
 cases ra with
 | int i=>
  cases rb <;> first | (cases hm;done) | skip
  cases hm;exact .inl ⟨_,_,rfl,rfl,k ρ H _ .refl hs (.int _)⟩
 | @tup xs a1 vs h1 h2=>
  cases rb with
  | @tup ys b1 ws h3 h4=>
   unfold Do at hm;dsimp only at hm;split at hm
   ·rename_i hz
    cases hm;refine .inr (.inl ⟨_,_,_,_,rfl,rfl,h1,h3,by rw [<-h2.length,<-h4.length];exact hz,λe=>?_,λe=>?_,λp hp=>?_⟩)
    ·rw [h2.nil_of e,List.nil_append] at k
     exact k ρ H _ .refl hs (.tup h3 h4)
    ·rw [h4.nil_of e,BJ] at k
     exact k ρ H _ .refl hs (.tup h1 h2)
    ·obtain ⟨s2,l2⟩:=HY (ho:=.tup (vs++ws)) hs hp
     exact k ρ _ _ l2 s2 (.tup Bj ((h2.append h4).mono l2))
   ·cases hm
  | _=>cases hm
 | @ref n a1 hn=>
  cases rb with
  | @ref m b1 hn'=>
   unfold Do at hm;dsimp only at hm;split at hm
   ·rename_i xs ys h1 h2
    split at hm
    ·rename_i hz
     cases hm;obtain ⟨vs,e1,r1⟩:=hs.ob _ _ _ h1 hn;obtain ⟨us,e2,r2⟩:=hs.ob _ _ _ h2 hn';refine .inr (.inr ⟨_,_,_,_,rfl,rfl,e1,e2,by rw [<-r1.length,<-r2.length];exact hz,λp hp=>?_⟩);have le:Le X.K ρ H (ρ++[p]) (upd H p (.lst (vs++us))):=Le.alloc hp;obtain ⟨s2,l2,at2⟩:=hs.alloc (ho:=.lst (vs++us)) (o:=.lst (xs++ys)) hp ⟨_,Bj,(r1.append r2).mono le⟩;exact k _ _ _ l2 s2 (.ref at2)
    ·cases hm
   ·cases hm
  | _=>cases hm
 | _=>cases hm
def ixD:D->D->Sto->Res D:=λa b S=>match Fy a S,b with
 | some ds,.int i=>match atI ds i with
  | some d=>.ok d S
  | none=>.bad
 | _,_=>.bad
theorem fu {K:AA} {ρ:List AK} {H:Hp} {ds:List D} {vs:List V} {i:Int} {d:D} (r:Ay K ρ H ds vs) (h:atI ds i=some d):∃v,atI vs i=some v/\Bv K ρ H d v:=by
 unfold atI at h ⊢;rw [<-r.length]
 cases hq:ixN ds.length i with
 | none=>rw [hq] at h;cases h
 | some j=>
  rw [hq] at h;exact r.get h
theorem lj:IxR X (rD X.K ixD):=(ix_list.or jp).imp λx y H Q ⟨ρ,S,a,b,d,S',hs,ra,rb,hm,k⟩=>by
 unfold ixD at hm;split at hm
 ·rename_i ds i hq
  split at hm
  ·rename_i d' hd
   cases hm;cases rb;obtain ⟨p,xs,rfl,rr,sq⟩:=MN hs ra hq;obtain ⟨v,h1,h2⟩:=fu rr hd
   rcases sq with sq | sq
   ·exact .inl ⟨p,xs,_,v,rfl,rfl,sq,h1,k ρ H v .refl hs h2⟩
   ·exact .inr ⟨p,xs,_,v,rfl,rfl,sq,h1,k ρ H v .refl hs h2⟩
  ·cases hm
 ·cases hm
def Qj (neg:Bool) (x y:D) (S:Sto):Res D:=match y with
 | .non=>match x with
  | .non=>.ok (.bl (!neg)) S
  | _=>.ok (.bl neg) S
 | _=>.bad
theorem Vf:OpR X (Bp .Is) (rD X.K (Qj false)):=jY.imp λx y H Q ⟨ρ,S,a,b,d,S',hs,ra,rb,hm,k⟩=>by
 cases rb <;> first | (cases hm;done) | skip
 refine ⟨rfl,?_⟩
 cases ra <;> (cases hm;exact k ρ H _ .refl hs (.bl _))
theorem ef:OpR X (Bp .IsNot) (rD X.K (Qj true)):=eV.imp λx y H Q ⟨ρ,S,a,b,d,S',hs,ra,rb,hm,k⟩=>by
 cases rb <;> first | (cases hm;done) | skip
 refine ⟨rfl,?_⟩
 cases ra <;> (cases hm;exact k ρ H _ .refl hs (.bl _))
end
def mQ (f:List D->Sto->Res D) (m:ML):ME:=λe S=>(m e S).bind λds S1=>okR (f ds S1)
section
variable {X:Cx} {E:EW} {e:Expr} {es:List Expr} {x:Str} {p pos:Pos} {ml:ML} {id T:String} {r:List V->Hp->VK->Prop} {f:List D->Sto->Res D}
def gC (K:AA) (r:List V->Hp->VK->Prop) (f:List D->Sto->Res D):Prop:=∀ρ H S ds q xs d S' (Q:VK),B4 K ρ S H->Ay K ρ H ds xs->(SqL K H q xs∨SqT K H q xs)->f ds S=.ok d S' ->
 (∀ρ' H' z,Le K ρ H ρ' H'->B4 K ρ' S' H'->Bv K ρ' H' d z->Q z H')->r [.ref q] H Q
def kO (K:AA) (r:List V->Hp->VK->Prop) (f:List D->Sto->Res D):Prop:=∀ρ H S ds xs d S' (Q:VK),B4 K ρ S H->Ay K ρ H ds xs->f ds S=.ok d S' ->
 (∀ρ' H' z,Le K ρ H ρ' H'->B4 K ρ' S' H'->Bv K ρ' H' d z->Q z H')->r xs H Q
def mn (K:AA) (r:List V->Hp->VK->Prop) (f:List D->Option (List D)):Prop:=∀ρ H S ds q xs es (Q:VK),B4 K ρ S H->Ay K ρ H ds xs->(SqL K H q xs∨SqT K H q xs)->f ds=some es ->
 (∀ρ' H' p ys,Le K ρ H ρ' H'->B4 K ρ' S H'->Ay K ρ' H' es ys->H' p=some (.lst ys)->(∀n:Nat,ρ'[n]?≠some p)->H p=none->Q (.ref p) H')->r [.ref q] H Q
theorem Oe (hc:HV X (.builtin id) r) (hf:gC X.K r f) (hg:Gl X x) (hm:X.mg x=none) (hv:Ee x=some (.builtin id)) (h:GQ X E e ml) (hn:x≠"__name__":=by decide) (hdb:(x==("__debug__" : Str))=false:=by decide)
  (he:AS [e] X.env=(false,Bm e X.env) :: AS [] X.env:=by rfl):GE X E (.Call (.Name x p) [e] [] pos) (mQ f ml):=(KL hc hg hm hv (Ez h HH he) hn hdb he rfl).imp λσ H Q ⟨ρ,l,S,hl,hs,hm⟩=>by
 refine ⟨ρ,l,S,hl,hs,hm.seq λds S1 hm ρ1 H1 q xs l1 s1 r1 sq=>?_⟩;obtain ⟨d,S',e,k⟩:=hm.okR
 exact hf ρ1 H1 S1 ds q xs d S' Q s1 r1 sq e λρ' H' z l' s' r'=>k ρ' H' z (l1.trans l') s' r'
theorem Wy (hc:HV X (.builtin id) r) (hf:kO X.K r f) (hg:Gl X x) (hm:X.mg x=none) (hv:Ee x=some (.builtin id)) (h:GA X E (e :: es) ml) (hn:x≠"__name__":=by decide) (hdb:(x==("__debug__" : Str))=false:=by decide)
  (he:AS (e :: es) X.env=(false,Bm e X.env) :: AS es X.env:=by rfl) (hpl:(DX pos (AS es X.env)).any (·.1)=false:=by rfl):GE X E (.Call (.Name x p) (e :: es) [] pos) (mQ f ml):=(KL hc hg hm hv h hn hdb he hpl).imp λσ H Q ⟨ρ,l,S,hl,hs,hm⟩=>by
 refine ⟨ρ,l,S,hl,hs,hm.seq λds S1 hm ρ1 H1 xs l1 s1 r1=>?_⟩;obtain ⟨d,S',e,k⟩:=hm.okR
 exact hf ρ1 H1 S1 ds xs d S' Q s1 r1 e λρ' H' z l' s' r'=>k ρ' H' z (l1.trans l') s' r'
def mN (f:List D->Option (List D)) (m:ML):ML:=λe S=>(m e S).bind λds S1=>match f ds with
 | some es=>.ok es S1
 | none=>.bad
theorem fL {f:List D->Option (List D)} (hc:HV X (.type T) r) (hf:mn X.K r f) (hg:Gl X x) (hm:X.mg x=none) (hv:Ee x=some (.type T)) (h:GQ X E e ml) (hn:x≠"__name__":=by decide) (hdb:(x==("__debug__" : Str))=false:=by decide)
  (he:AS [e] X.env=(false,Bm e X.env) :: AS [] X.env:=by rfl):GL X E (.Call (.Name x p) [e] [] pos) (mN f ml):=(Q6 hc hg hm hv (Ez h HH he) hn hdb he rfl).imp λσ H Q ⟨ρ,l,S,hl,hs,hm⟩=>by
 refine ⟨ρ,l,S,hl,hs,hm.seq λds S1 hm ρ1 H1 q xs l1 s1 r1 sq=>?_⟩
 cases hq:f ds with
 | none=>rw [hq] at hm;exact hm.elim
 | some es=>
  rw [hq] at hm
  exact hf ρ1 H1 S1 ds q xs es Q s1 r1 sq hq λρ' H' p ys l' s' r' hp hn hp0=>hm ρ' H' p ys (l1.trans l') s' r' hp hn (l1.back hs s1 hp0)
def mE (ds:List D) (S:Sto):Res D:=.ok (.int ds.length) S
theorem ip:gC X.K (λxs H Q=>∃p ys,xs=[.ref p]/\(SqL X.K H p ys∨SqT X.K H p ys)/\Q (.int ys.length) H) mE:=λρ H S ds q xs d S' Q hs rr sq hm k=>by
 cases hm;exact ⟨q,xs,rfl,sq,k ρ H _ .refl hs (by rw [rr.length];exact .int _)⟩
def Q8:List D->Sto->Res D
 | [.int i,.int j],S=>.ok (.int (if j < i then j else i)) S
 | _,_=>.bad
def Q9:List D->Sto->Res D
 | [.int i,.int j],S=>.ok (.int (if j > i then j else i)) S
 | _,_=>.bad
theorem fy:kO X.K (λxs H Q=>∃i j,xs=[.int i,.int j]/\Q (.int (if j < i then j else i)) H) Q8:=λρ H S ds xs d S' Q hs rr hm k=>by
 unfold Q8 at hm;split at hm
 ·cases hm
  cases rr with
  | cons a t=>
   cases t with
   | cons b t=>
    cases t;cases a;cases b;exact ⟨_,_,rfl,k ρ H _ .refl hs (.int _)⟩
 ·cases hm
theorem gB:kO X.K (λxs H Q=>∃i j,xs=[.int i,.int j]/\Q (.int (if j > i then j else i)) H) Q9:=λρ H S ds xs d S' Q hs rr hm k=>by
 unfold Q9 at hm;split at hm
 ·cases hm
  cases rr with
  | cons a t=>
   cases t with
   | cons b t=>
    cases t;cases a;cases b;exact ⟨_,_,rfl,k ρ H _ .refl hs (.int _)⟩
 ·cases hm
def T3 (ds:List D):Option (List D):=some ds
theorem dX:mn X.K (λxs H Q=>∃p ys,xs=[.ref p]/\(SqL X.K H p ys∨SqT X.K H p ys)/\∀l,H l=none->Q (.ref l) (upd H l (.lst ys))) T3:=λρ H S ds q xs es Q hs rr sq hm k=>by
 cases hm;refine ⟨q,xs,rfl,sq,λl hl=>?_⟩;obtain ⟨s2,l2⟩:=HY (ho:=.lst xs) hs hl;exact k ρ _ l xs l2 s2 (rr.mono l2) Bj (λn e=>hs.notIn hl e) hl
end
def Dl (X:Cx) (scope:IK) (N':List Str) (cl:List (Str×AK)) (C:AK) (s₁:AG) (H₁:Hp) (ex:List AK) (pn:List (AK×Obj)):Cx where
 prog:=X.prog
 w:=X.w
 K:=X.K
 mg:=X.mg
 base:=X.base
 A:=X.A
 N:=N'
 s₀:=s₁
 H₀:=H₁
 env:=compEnvC scope cl C X.env
 outer:=X.stack
 stack:=X.stack
 ex:=ex
 fn:=λ_=>false
 calm:=X.calm
 pn:=pn
 xe:=λ_ _=>False
theorem SQ {env:Env}:∀(names:List (Str×QR)) (acc:List (Str×AK)),(∀y∈names,y.2=.free->∃c,env.cells.lookup y.1=some c)->(∀n c,acc.lookup n=some c->env.cells.lookup n=some c) ->
  ∃cl,(forIn names acc (λ(x:Str×QR) (cs:List (Str×AK))=>match x with | (name,kind)=>if (kind==IQ)=true then do let a <-cellOf env name;pure (G4 ((name,a) :: cs)) else pure (G4 cs)):Sem (List (Str×AK)))=pure cl /\
   (∀n c,cl.lookup n=some c->env.cells.lookup n=some c)/\(∀n c,acc.lookup n=some c->∃c',cl.lookup n=some c')/\∀y∈names,y.2=.free->∃c,cl.lookup y.1=some c
 | [],acc,_,ha=>⟨acc,rfl,ha,λn c h=>⟨c,h⟩,λ_ h=>nomatch h⟩
 | (n,k) :: r,acc,h,ha=>by
  rw [cV]
  by_cases hk:k=.free
  ·subst hk
   obtain ⟨c,hc⟩:=h (n,.free) Ag rfl
   obtain ⟨cl,e,h1,h2,h3⟩:=SQ r ((n,c) :: acc) (λy hy=>h y (AW _ hy)) (λm d hm=>by
    rw [DV] at hm
    cases hq:(m==n) with
    | true=>rw [hq] at hm;cases hm;rw [eq_of_beq hq];exact hc
    | false=>rw [hq] at hm;exact ha m d hm)
   have e0:cellOf env n=pure c:=by unfold cellOf;rw [hc]
   refine ⟨cl,?_,h1,λm d hm=>h2 m (if m==n then c else d) ?_,λy hy hf=>?_⟩
   ·simp only [beq_self_eq_true,if_true,e0,pure_bind]
    exact e
   ·rw [DV]
    cases hq:(m==n) with
    | true=>rfl
    | false=>exact hm
   ·rcases Au.mp hy with rfl | hy
    ·exact h2 n c (by rw [DV,beq_self_eq_true])
    ·exact h3 y hy hf
  ·have hb:(k==IQ)=false:=by simpa using hk
   obtain ⟨cl,e,h1,h2,h3⟩:=SQ r acc (λy hy=>h y (AW _ hy)) ha;refine ⟨cl,?_,h1,h2,λy hy hf=>?_⟩
   ·simp only [hb,B1,if_false,pure_bind]
    exact e
   ·rcases Au.mp hy with rfl | hy
    ·exact (hk hf).elim
    ·exact h3 y hy hf
theorem W7 {scope:IK} {env:Env} (h:∀y∈scope.names,y.2=.free->∃c,env.cells.lookup y.1=some c):∃cl,closureFor scope env=pure cl /\
  (∀n c,cl.lookup n=some c->env.cells.lookup n=some c)/\∀y∈scope.names,y.2=.free->∃c,cl.lookup y.1=some c:=by
 obtain ⟨cl,e,h1,_,h3⟩:=SQ scope.names [] h (λn c z=>by simp at z);refine ⟨cl,?_,h1,h3⟩;unfold closureFor;exact (congrArg (λz=>z >>= λcs=>pure cs) e).trans (by rw [pure_bind])
def V9 (X:Cx) (ifs:List Expr) (t:TT):Prop:=
 ∀(pins:List (AK×Obj)) (s:AG) (σ:St) (H:Hp) (Q:Bool->Hp->Prop),Inv X pins σ H s->t σ H Q ->
  Al (AZ X.prog X.w) X.A (forIn ifs true λc r=>if r=true then do let ok <-Uk c X.env (Bm c X.env);pure (G4 ok) else pure (G4 r)) (TP X pins σ Q) X.xe s
theorem aJ {X:Cx}:V9 X [] (λ_ H Q=>Q true H):=λpins s σ H Q I h=>wpAny_tests_nil ⟨H,I,h⟩
theorem aI {X:Cx} {c:Expr} {t:TT} (h:PT X c t):V9 X [c] t:=λpins s σ H Q I q=>wpAny_tests_one (h pins s σ H Q I q)
structure Lx (X:Cx) (scope:IK) (own N':List Str):Prop where
 kind:scope.kind=.function
 nocell:∀y∈scope.names,y.2≠.cell
 names:∀y∈scope.names,y.2=.local->scope.names.lookup y.1=some .local
 free:∀y∈scope.names,y.2=.free->X.env.kindOf y.1=some .cell∨X.env.kindOf y.1=some .free
 len:N'.length=own.length+X.N.length
 up:∀i x,N'[own.length+i]?=some x->Vis (Iw scope X.env) x->X.N[i]?=some x/\Vis X.env.scope x/\((Iw scope X.env).names.lookup x=some .cell∨(Iw scope X.env).names.lookup x=some .free)/\X.env.kindOf x≠some .local
 vis:∀x,((Iw scope X.env).names.lookup x=some .cell∨(Iw scope X.env).names.lookup x=some .free)->(x,IQ)∈scope.names
section
variable {X:Cx} {pins:List (AK×Obj)} {σ:St} {H2:Hp} {s2:AG} {scope:IK} {own N':List Str} {cl:List (Str×AK)} {fp:List AK} {C:AK} {s:AG} {H:Hp}
theorem V1 (Sc:Lx X scope own N') (I:Inv X pins σ H2 s2) (hf:∀b∈fp,Lw X pins H2 b) (hfl:∀b∈fp,b < s2.heap.objs.size)
  (c1:∀n c,cl.lookup n=some c->X.env.cells.lookup n=some c) (c2:∀y∈scope.names,y.2=.free->∃c,cl.lookup y.1=some c)
  (hC:s2.heap.objs.size<=C) {m:Str->Option AD} (hn:s.heap.Ns C m) (hos:s.os=s2.os) (hg:II s.gens)
  (u:Un (frs X.stack) fp H2 H s2.heap s.heap) (hok:HOk X.prog X.w H s.heap) (hHC:H C=none) :
  Inv (Dl X scope N' cl C s2 H2 fp (X.pn++pins)) [] (BU own.length none++σ) H s:=by
 have cellK:∀x c v,cl.lookup x=some c->s2.heap.IsCell c v->s.heap.IsCell c v:=λx c v e ⟨o,ho,hd⟩=>by
  obtain ⟨sl,q⟩:=u.any ho (I.freeC x c (c1 x c e)) λz=>(hf c z).2.2.2.2.1 x c (c1 x c e) rfl
  exact ⟨_,q,hd⟩
 have ok':(Dl X scope N' cl C s2 H2 fp (X.pn++pins)).Ok:=by
  refine ⟨I.ok.mod,Sc.kind,I.ok.glob,I.ok.blt,hC,λx y c h1 h2=>I.ok.inj x y c (c1 x c h1) (c1 y c h2),λx hx=>?_,λx c z=>?_,I.ok.hd,I.ok.frames,.inl rfl,λb hb=>?_,I.bs,Ax I.ok.bsz I.sz,λb o e hb=>?_,λb hb hb'=>?_,I.stack,I.stkFree⟩
  ·obtain ⟨c,hc⟩:=c2 _ (Sc.vis x hx) rfl
   exact ⟨c,hc⟩
  ·exact zX (show false=true from z) AR
  ·exact ⟨Ak (Ae (hfl b hb) hC),λx c e=>(hf b hb).2.2.2.2.1 x c (c1 x c e)⟩
  ·obtain ⟨_,_,_,z,_⟩:=hf b hb
   rcases z with z | z
   ·exact I.ok.noex b o e z
   ·exact zX (Ae (Ab (I.ok.bs b o e).1) z) (Cz _)
  ·obtain ⟨_,z1,z2,_⟩:=hf b hb
   rcases Au.mp (I.stkSub b hb') with e | e
   ·exact z1 e
   ·exact z2 e
 refine ⟨ok',hos,hg,u,⟨m,hn,λi x v e1 e2 e3=>?_⟩,λx c e=>?_,hHC,λx c e=>?_,λp hp=>?_,hok,?_⟩
 ·have hi:own.length<=i:=by
   apply Oq
   intro hlt;rw [Ac (by simpa using hlt),DA,qX hlt] at e2;cases e2
  obtain ⟨j,rfl⟩:∃j,i=own.length+j:=⟨i - own.length,by lia⟩
  rw [A9 (by simp)] at e2
  have e2':σ[j]?=some (some v):=by simpa using e2
  obtain ⟨n1,n2,n3,n4⟩:=Sc.up j x e1 e3;obtain ⟨m0,hn0,hl⟩:=I.loc;obtain ⟨w',r,lk⟩:=hl j x v n1 e2' n2;refine ⟨w',r,.inr ⟨n3,?_⟩⟩
  rcases lk with ⟨k,_⟩ | ⟨_,c,hc,hcell⟩
  ·exact (n4 k).elim
  ·obtain ⟨c',hc'⟩:=c2 _ (Sc.vis x n3) rfl
   have e:=c1 x c' hc';rw [hc] at e;cases e;exact ⟨c,hc',cellK x c _ hc' hcell⟩
 ·obtain ⟨v,z⟩:=I.cell x c (c1 x c e)
  exact ⟨v,cellK x c v e z⟩
 ·obtain ⟨v,o,ho,hd⟩:=I.cell x c (c1 x c e)
  exact u.free c o ho (I.freeC x c (c1 x c e)) λz=>(hf c z).2.2.2.2.1 x c (c1 x c e) rfl
 ·have hp':p∈X.pn++pins:=by
   have hp:p∈(X.pn++pins)++[]:=hp;rwa [BJ] at hp
  obtain ⟨e,n,ne,nf,d⟩:=I.pin p hp'
  have nfs:p.1∉frs X.stack:=λz=>(Au.mp (I.stkSub _ z)).elim ne nf
  have nfp:p.1∉fp:=λz=>(hf _ z).2.2.2.2.2 p hp' rfl
  exact ⟨u.keep p.1 p.2 e n nfs nfp,u.free p.1 p.2 e n nfp,Ak (Ae (Ab e) hC),nfs,d⟩
 ·show (BU own.length none++σ).length=N'.length
  rw [Ao,Ko,I.len,Sc.len]
def Zp (k:Nat) (wi:TI) (g:TG) (tc:TT) (te:TE):TE:=λσ H Q=>wi σ H λJ H1=>∀p,H1 p=none->∃W:Nat->Nat->St->Hp->List V->Prop,(∃m,W 0 m (BU k none++σ) (upd H1 p (.lst [])) []) /\
 ∀i m σ' H' xs,W i m σ' H' xs->H' p=some (.lst xs)/\((J.stop i H'/\Q (.ref p) H')∨(J.go i H'/\xs.length < sizeLine/\∀x H'',J.yld i H' x H''->g x σ' H'' λσ2 H2=>tc σ2 H2 λb H3=>
  if b=true then te σ2 H3 λy H4=>H4 p=some (.lst xs)/\∃m',m' < m/\W (i+1) m' σ2 (upd H4 p (.lst (xs++[y]))) (xs++[y]) else ∃m',m' < m/\W (i+1) m' σ2 H3 xs))
theorem Yg {X':Cx} {elt target iter:Expr} {ifs:List Expr} {pos:Pos} {J:It} {it p:AK} {tn:Nat->Bq->Prop} {g:TG} {tc:TT} {te:TE} {R:ZF->AG->Prop} {Q:Hp->Prop}
  (hc:X'.calm=true) (hx:X'.xe=λ_ _=>False) (T:Sb X'.prog X'.w X'.K target J fp it tn) (hg:PG X' target g) (hif:V9 X' ifs tc) (he:PE X' elt te)
  (W:Nat->Nat->St->Hp->List V->Prop) (turn:∀i m σ' H' xs,W i m σ' H' xs->H' p=some (.lst xs)/\((J.stop i H'/\Q H')∨(J.go i H'/\xs.length < sizeLine/\∀x H'',J.yld i H' x H''->g x σ' H'' λσ2 H2=>tc σ2 H2 λb H3=>
   if b=true then te σ2 H3 λy H4=>H4 p=some (.lst xs)/\∃m',m' < m/\W (i+1) m' σ2 (upd H4 p (.lst (xs++[y]))) (xs++[y]) else ∃m',m' < m/\W (i+1) m' σ2 H3 xs)))
  (fin:∀σ' H' s',Inv X' [] σ' H' s'->Q H'->R (.ok .next) s')
  {m0:Nat} {σ0:St} {H0:Hp} {s0:AG} (I0:Inv X' [] σ0 H0 s0) (st0:tn 0 s0.heap) (f0:∀b∈fp,Lw X' [] H0 b) (w0:W 0 m0 σ0 H0 []) :
  J9 (AZ X'.prog X'.w) X'.A (.compLoop (.ListComp elt [⟨target,iter,ifs,0⟩] scope pos) 0 (.ref it) (.ref p) X'.env) R s0:=by
 have stat:∀ {H':Hp},(∀b∈fp,H' b=none)->∀b∈fp,Lw X' [] H' b:=λhn b hb=>⟨hn b hb,(f0 b hb).2⟩
 refine codeAny_loop rfl (λn s'=>∃i σ' H' xs,Inv X' [] σ' H' s'/\tn i s'.heap/\(∀b∈fp,H' b=none)/\W i n σ' H' xs) (λn s1 hI=>?_) m0 ⟨0,σ0,H0,[],I0,st0,λb hb=>(f0 b hb).1,w0⟩;obtain ⟨i,σ1,H1,xs,I1,st1,fr1,w1⟩:=hI;show Al _ X'.A ((compTurn (.ListComp elt [⟨target,iter,ifs,0⟩] scope pos) 0 (.ref it) (.ref p) X'.env).onRaise (λx=>do Yu x X'.env;theTreesLotGoes x)) _ _ s1;refine wpAny_noted ?_;rw [compTurn_list]
 have up:∀ {α:Type} {t:Sem α} {P:α->AG->Prop} {E:AD->AG->Prop} {s:AG},Al (AZ X'.prog X'.w) X'.A t P X'.xe s->Al (AZ X'.prog X'.w) X'.A t P E s:=λh=>GZ h (λ_ _ z=>z) λ_ _ z=>by rw [hx] at z;exact z.elim
 obtain ⟨hp,hcase⟩:=turn i n σ1 H1 xs w1;refine AB (wpAny_standAt (AB ?_))
 rcases hcase with ⟨stop,q⟩ | ⟨go,hz,step⟩
 ·refine up (thn (T.done X' rfl rfl rfl hc i [] s1 σ1 H1 X'.xe I1 (stat fr1) st1 stop) λr s4 ⟨hr,I4⟩=>?_)
  subst hr;exact AM (fin σ1 H1 s4 I4 q)
 ·refine up (thn (T.item X' rfl rfl rfl hc i [] s1 σ1 H1 X'.xe I1 (stat fr1) st1 go) λr s4 ⟨u,hr,h4⟩=>?_)
  subst hr;refine AB (up (thn h4 λ_ s5 ⟨x,H5,I5,r5,y5,st5,fr5⟩=>?_));have I5':=I5.pinned (stat fr5) (T.obj _ _ st5);refine AB (up (thn (hg _ s5 σ1 H5 x u _ I5' r5 (step x H5 y5)) λ_ s6 ⟨σ6,H6,I6,q6⟩=>?_))
  have again:∀ {s7:AG} {σ7:St} {H7:Hp} {ys:List V},Inv X' ([]++PN fp s5.heap) σ7 H7 s7->(∃m',m' < n/\W (i+1) m' σ7 H7 ys)->∃m,m < n/\∃i σ' H' xs,Inv X' [] σ' H' s7/\tn i s7.heap/\(∀b∈fp,H' b=none)/\W i m σ' H' xs:=λ{s7 σ7 H7 ys} I7 ⟨m',hm,w7⟩=>by
   refine ⟨m',hm,i+1,σ7,H7,ys,I7.unpinned,T.keep _ _ _ st5 λb hb o e=>(I7.pin (b,o) (A4 _ (A4 _ (Jl hb e)))).1,λb hb=>?_,w7⟩;obtain ⟨o,e,d⟩:=T.obj _ _ st5 b hb;exact (I7.pin (b,o) (A4 _ (A4 _ (Jl hb e)))).2.1
  refine AB (up (thn (hif _ s6 σ6 H6 _ I6 q6) λok s7 ⟨H7,I7,q7⟩=>?_))
  cases ok with
  | false=>
   rw [qY AR] at q7;exact AM ⟨rfl,again I7 q7⟩
  | true=>
   rw [qX rfl] at q7;refine AB (AB (up (thn (he _ s7 σ6 H7 _ I7 q7) λyv s8 ⟨y,H8,I8,r8,hp8,q8⟩=>?_)));refine AB (up (thn (Q7 (X:=X') _ s8 σ6 H8 (.ref p) [y] (.ref p) [yv] (λv H9=>v=.non/\H9=upd H8 p (.lst (xs++[y]))) I8 rfl (.cons r8 .nil) ⟨p,xs,y,rfl,rfl,hp8,hz,rfl,rfl⟩) λv9 s9 ⟨v,H9,I9,r9,e9,e10⟩=>?_));subst e10;exact AM (AM ⟨rfl,again I9 q8⟩)
end
section
variable {X:Cx} {pins:List (AK×Obj)} {σ:St} {H2:Hp} {s2:AG} {scope:IK} {own N':List Str} {cl:List (Str×AK)} {fp:List AK} {C:AK}
theorem RL {σ':St} {H':Hp} {s':AG} {h':Bq} (I2:Inv X pins σ H2 s2) (J:Inv (Dl X scope N' cl C s2 H2 fp (X.pn++pins)) [] σ' H' s') (hC:s2.heap.objs.size<=C) (hf:∀b∈fp,Lw X pins H2 b)
  (sb:EI C s'.heap h'):Inv X pins σ H' { s' with heap:=h' }:=by
 have ne:∀b o,s2.heap.get? b=some o->b≠C:=λb o e=>Ak (Ae (Ab e) hC)
 have jb:Un (frs X.stack) fp H2 H' s2.heap s'.heap:=J.base
 have u:Un (frs X.stack) fp H2 H' s2.heap h':=by
  refine ⟨λb o e n hb hx=>(sb.2 b (ne b o e)).trans (jb.keep b o e n hb hx),λb o e n hb hx=>?_,jb.free,λb o e hx=>?_,jb.tups,jb.frzs,jb.tbls⟩
  ·obtain ⟨sl,q⟩:=jb.slot b o e n hb hx
   exact ⟨sl,(sb.2 b (ne b o e)).trans q⟩
  ·obtain ⟨o',q⟩:=jb.there b o e hx
   exact ⟨o',(sb.2 b (ne b o e)).trans q⟩
 have hHC:H' C=none:=J.free
 have hok:HOk X.prog X.w H' h':=λa o e=>(J.hok a o e).stay (λb u hb q=>(sb.2 b λz=>by
  subst z
  rcases hb with z | z
  ·subst z;rw [hHC] at e;cases e
  ·rw [hHC] at z;cases z).trans q) (λ_ q=>q) λ_ _ q=>q
 exact I2.call' (s':={ s' with heap:=h' }) (ch:=fp) J.os u hok J.bare λb hb=>by
  obtain ⟨_,z1,z2,z3,z4,z5⟩:=hf b hb;exact ⟨z3,z1,z4,z5⟩
variable {elt iter target:Expr} {ifs:List Expr} {pos:Pos} {wi:TI} {g:TG} {tc:TT} {te:TE}
theorem P8 {σ:St} {E:AD->AG->Prop} {Qf:AK->Hp->Prop} {RR:AD->AK->ZF->AG->Prop} {it:AK} {J:It} {tn:Nat->Bq->Prop} (hc:X.calm=true) (Sc:Lx X scope own N')
  (hg:∀cl C s₁ H₁ ex pn,PG (Dl X scope N' cl C s₁ H₁ ex pn) target g) (hif:∀cl C s₁ H₁ ex pn,V9 (Dl X scope N' cl C s₁ H₁ ex pn) ifs tc) (he:∀cl C s₁ H₁ ex pn,PE (Dl X scope N' cl C s₁ H₁ ex pn) elt te)
  (c1:∀n c,cl.lookup n=some c->X.env.cells.lookup n=some c) (c2:∀y∈scope.names,y.2=.free->∃c,cl.lookup y.1=some c)
  (I2:Inv X pins σ H2 s2) (T:Sb X.prog X.w X.K target J fp it tn) (st2:tn 0 s2.heap) (f2:∀b∈fp,Lw X pins H2 b)
  (q2:∀p,H2 p=none->∃W:Nat->Nat->St->Hp->List V->Prop,(∃m,W 0 m (BU own.length none++σ) (upd H2 p (.lst [])) []) /\
   ∀i m σ' H' xs,W i m σ' H' xs->H' p=some (.lst xs)/\((J.stop i H'/\Qf p H')∨(J.go i H'/\xs.length < sizeLine/\∀x H'',J.yld i H' x H''->g x σ' H'' λσ2 H2=>tc σ2 H2 λb H3=>
    if b=true then te σ2 H3 λy H4=>H4 p=some (.lst xs)/\∃m',m' < m/\W (i+1) m' σ2 (upd H4 p (.lst (xs++[y]))) (xs++[y]) else ∃m',m' < m/\W (i+1) m' σ2 H3 xs)))
  (hRR:∀D C σ' H' s',s2.heap.objs.size<=C->Inv (Dl X scope N' cl C s2 H2 fp (X.pn++pins)) [] σ' H' s'->Qf D H'->RR (.ref D) C (.ok .next) s') :
  Al (AZ X.prog X.w) X.A (newList []) (λacc s₃=>Al (AZ X.prog X.w) X.A (newFunctionEnv scope X.env.globals cl [] X.env.qual none .none (some X.env)) (λcenv s₄=>
   J9 (AZ X.prog X.w) X.A (.compStart (.ListComp elt [⟨target,iter,ifs,0⟩] scope pos) 0 (.ref it) acc { cenv with scope:=Iw scope X.env }) (RR acc cenv.locals) s₄) E s₃) E s2:=by
 have hfl:∀b∈fp,b < s2.heap.objs.size:=λb hb=>by
  obtain ⟨o,e,_⟩:=T.obj _ _ st2 b hb;exact Ab e
 refine B9 (wpAny_newFunctionEnv Sc.nocell (by intro y hy;simp at hy) (λh₁ hns₁ hsb₁=>?_) Sc.kind);dsimp only at hns₁ hsb₁ ⊢;generalize hH3:s2.heap.push { cls:=.type "list",dict:=none,data:=.seq ([]:List AD).toArray }=H3 at hns₁ hsb₁ ⊢
 have hC:H3.objs.size=s2.heap.objs.size+1:=by rw [<-hH3,Cd]
 have hDC:s2.heap.objs.size≠H3.objs.size:=by rw [hC];exact Ak (CU _)
 have hCle:s2.heap.objs.size<=H3.objs.size:=by rw [hC];exact GU _
 have old:∀b o,s2.heap.get? b=some o->h₁.get? b=some o:=λb o e=>hsb₁.extBut b o (Ak (by rw [hC];exact Eo (Ab e))) (AI _ (hH3▸AI _ e))
 have hacc:h₁.get? s2.heap.objs.size=some { cls:=.type "list",dict:=none,data:=.seq ([]:List AD).toArray }:=hsb₁.extBut _ _ hDC (AI _ (hH3▸Ah _ rfl));have hD:H2 s2.heap.objs.size=none:=I2.hok.fresh (AL _);have u:Un (frs X.stack) fp H2 (upd H2 s2.heap.objs.size (.lst [])) s2.heap h₁:=Un.laid old (AL _) hD;have hok:HOk X.prog X.w (upd H2 s2.heap.objs.size (.lst [])) h₁:=I2.hok.laid old (AL _) ⟨Cm _,[],0,.nil,hacc⟩
 have hHC:upd H2 s2.heap.objs.size (.lst []) H3.objs.size=none:=by rw [By (Bw hDC)];exact I2.hok.fresh hCle
 obtain ⟨W,⟨m0,w0⟩,turn⟩:=q2 s2.heap.objs.size hD
 have loop:∀s₃:AG,s₃={ s2 with heap:=h₁,toks:=s2.toks+([]:List (Str×AD)).length } ->
   J9 (AZ X.prog X.w) X.A (.compLoop (.ListComp elt [⟨target,iter,ifs,0⟩] scope pos) 0 (.ref it) (.ref s2.heap.objs.size) (compEnvC scope cl H3.objs.size X.env))
    (RR (.ref s2.heap.objs.size) H3.objs.size) s₃:=by
  rintro s₃ rfl
  have J0:Inv (Dl X scope N' cl H3.objs.size s2 H2 fp (X.pn++pins)) [] (BU own.length none++σ) (upd H2 s2.heap.objs.size (.lst [])) { s2 with heap:=h₁,toks:=s2.toks+([]:List (Str×AD)).length }:=
   V1 (s:={ s2 with heap:=h₁,toks:=s2.toks+([]:List (Str×AD)).length }) Sc I2 f2 hfl c1 c2 hCle hns₁ rfl I2.bare u hok hHC
  refine Yg (X':=Dl X scope N' cl H3.objs.size s2 H2 fp (X.pn++pins)) (fp:=fp) (Q:=Qf s2.heap.objs.size) hc rfl T (hg _ _ _ _ _ _) (hif _ _ _ _ _ _) (he _ _ _ _ _ _) W turn (λσ' H' s' J q=>hRR _ _ σ' H' s' hCle J q) J0 (T.keep _ _ _ st2 λb _ o e=>old b o e) (λb hb=>?_) w0;obtain ⟨z0,z1,z2,z3,z4,z5⟩:=f2 b hb;refine ⟨by rw [By (Ak (hfl b hb))];exact z0,Ak (Ae (hfl b hb) hCle),λz=>?_,.inl hb,λx c e=>z4 x c (c1 x c e),λp hp=>?_⟩
  ·exact (Au.mp (I2.stkSub _ z)).elim z1 z2
  ·have hp:p∈(X.pn++pins)++[]:=hp
   rw [BJ] at hp;exact z5 p hp
 exact codeAny_compStart_list (loop _ rfl) (T.self X.A 0 _ _ _ (T.keep _ _ _ st2 λb _ o e=>old b o e) (loop _ rfl))
theorem eQ (hc:X.calm=true) (Sc:Lx X scope own N') (hi:PI X target iter wi)
  (hg:∀cl C s₁ H₁ ex pn,PG (Dl X scope N' cl C s₁ H₁ ex pn) target g) (hif:∀cl C s₁ H₁ ex pn,V9 (Dl X scope N' cl C s₁ H₁ ex pn) ifs tc) (he:∀cl C s₁ H₁ ex pn,PE (Dl X scope N' cl C s₁ H₁ ex pn) elt te)
  (hs:∀x,FC iter X.env x=pure x:=by intro _;rfl):PE X (.ListComp elt [⟨target,iter,ifs,0⟩] scope pos) (Zp own.length wi g tc te):=by
 intro pins s σ H Q I h;rw [eval_ListComp];obtain ⟨cl,hclos,c1,c2⟩:=W7 (scope:=scope) (env:=X.env) (λy hy hf=>I.ok.has y.1 (Sc.free y hy hf));refine XM (use:=none) rfl hs hclos Sc.kind Sc.names (thn (hi pins s σ H _ I h) λv s1 h1=>thn h1 λitv s2 h2=>?_);obtain ⟨it,fp,tn,J,H2,rfl,I2,T,st2,f2,q2⟩:=h2
 refine P8 (Qf:=λp H'=>Q (.ref p) H') (RR:=λacc C=>compPost (AZ X.prog X.w) X.A X.xe none (EP X pins σ Q) acc C) hc Sc hg hif he c1 c2 I2 T st2 f2 q2 λD C σ' H' s' hC J q=>?_
 obtain ⟨m,hn,_⟩:=J.loc;exact ⟨m,hn,λh' sb=>⟨.ref D,H',RL I2 J hC f2 sb,rfl,q⟩⟩
theorem dw {i:Nat} {y:Str} {py spos:Pos} (hc:X.calm=true) (hsw:Fo (.ListComp elt [⟨target,iter,ifs,0⟩] scope pos) (some (.Name y py)) spos.line X.env=pure true)
  (hN:X.N.Nodup) (hy:X.N[i]?=some y) (hloc:Loc X.env.scope y) (Sc:Lx X scope own N') (hi:PI X target iter wi)
  (hg:∀cl C s₁ H₁ ex pn,PG (Dl X scope N' cl C s₁ H₁ ex pn) target g) (hif:∀cl C s₁ H₁ ex pn,V9 (Dl X scope N' cl C s₁ H₁ ex pn) ifs tc) (he:∀cl C s₁ H₁ ex pn,PE (Dl X scope N' cl C s₁ H₁ ex pn) elt te)
  (hs:∀x,FC iter X.env x=pure x:=by intro _;rfl) (hf:X.fn y=true∨X.env.scope.names.lookup y=some .local:=by first | exact .inl rfl | exact .inr rfl | assumption) :
  PS X (.Assign [.Name y py] (.ListComp elt [⟨target,iter,ifs,0⟩] scope pos) spos) (il (Zp own.length wi g tc te) (W0 i)):=by
 intro pins s σ H D I h;rw [exec_Assign_Name_used _ _ _ _ hsw];refine AB (wpAny_standAt (AB ?_));show Al _ X.A (do let _ <-comprehension (.ListComp elt [⟨target,iter,ifs,0⟩] scope pos) scope X.env _ (newList []) false (Bm iter X.env) (some (Oj (.Name y py) X.env))) _ _ s;obtain ⟨cl,hclos,c1,c2⟩:=W7 (scope:=scope) (env:=X.env) (λy hy hf=>I.ok.has y.1 (Sc.free y hy hf))
 refine AB (GZ (XM (use:=some (Oj (.Name y py) X.env)) (Q:=λ_ s'=>SP X pins D .next s') rfl hs hclos Sc.kind Sc.names
  (thn (hi pins s σ H _ I h) λv s1 h1=>thn h1 λitv s2 h2=>?_)) (λ_ s' hq=>AM (AM hq)) λ_ _ e=>e)
 obtain ⟨it,fp,tn,J,H2,rfl,I2,T,st2,f2,q2⟩:=h2
 refine P8 (Qf:=λp H'=>D.nx (σ.set i (some (.ref p))) H') (RR:=λacc C=>compPost (AZ X.prog X.w) X.A X.xe (some (Oj (.Name y py) X.env)) (λ_ s'=>SP X pins D .next s') acc C) hc Sc hg hif he c1 c2 I2 T st2 f2 q2 λA C σ' H' s' hC J q=>?_
 obtain ⟨m,hn,_⟩:=J.loc;have I3:Inv X pins σ H' s':=RL I2 J hC f2 (nN ..);have hHC:H' C=none:=J.free
 have hcell:∀x c,X.env.cells.lookup x=some c->c≠C:=λx c e z=>by
  obtain ⟨v,q⟩:=I2.cell x c e;exact zX (Ae q.lt (by rw [z];exact hC)) (Cz _)
 have hloc':C≠X.env.locals:=KF (Ae I2.lt hC);show Al _ X.A (Oj (.Name y py) X.env (.ref A)) _ _ s';refine kP (Qz (v:=.ref A) I3 hN hy hloc rfl (λs4 I4 ⟨a,sb,ha⟩=>?_) hf)
 have haC:C≠a:=by
  rcases ha with e | e
  ·rw [e];exact hloc'
  ·exact Bw (hcell _ _ e)
 refine ⟨m,hn.sameBut sb haC,λh' sb'=>⟨_,H',?_,q⟩⟩
 refine I4.turned (t':=s4.toks) (it:=C) (λb o hb e=>(sb'.2 b hb).trans e) hHC hloc' (.inr (Ax I2.sz hC)) hcell λp hp z=>?_
 exact zX (Ae (Ab (I2.pin p hp).1) (by rw [z];exact hC)) (Cz _)
end
def E5 (v:Hf) (g:MG) (c:MT) (m:ME):Nat->Nat->Lo->Sto->List D->Res (List D)
 | k,i,e,S,acc=>match v S with
  | none=>.bad
  | some ds=>match ds[i]? with
   | none=>.ok acc S
   | some d=>match k with
    | 0=>.bad
    | k+1=>if acc.length < sizeLine then (okR (g d e S)).bind λe1 S1=>(okR (c e1 S1)).bind λb S2=>if b=true then (okR (m e1 S2)).bind λy S3=>E5 v g c m k (i+1) e1 S3 (acc++[y]) else E5 v g c m k (i+1) e1 S2 acc else .bad
def EU (n:Nat) (mi:MI) (g:MG) (c:MT) (m:ME):ML:=λe S=>(mi e S).bind λv S1=>E5 v g c m (Cj v S1) 0 (BU n none++e) S1 []
def Fn:MT:=λ_ S=>.ok true S
section
variable {X:Cx} {E:EW} {scope:IK} {own N':List Str} {elt iter target:Expr} {ifs:List Expr} {pos:Pos} {mi:MI} {g:MG} {c:MT} {m:ME}
abbrev gF (X:Cx) (E:EW) (ifs:List Expr) (c:MT):Prop:=V9 X ifs (gT X.K E c)
theorem GF:gF X E [] Fn:=λpins s σ H Q I ⟨ρ,l,S,hl,hs,hm⟩=>by
 exact aJ pins s σ H Q I (hm ρ H .refl hs)
theorem KZ {e:Expr} (h:GT X E e c):gF X E [e] c:=aI h
theorem FB.grow {K:AA} {ρ:List AK} {H:Hp} {e:Lo} {σ:St} (n:Nat) (h:FB K ρ H e σ):FB K ρ H (BU n none++e) (BU n none++σ):=by
 refine ⟨by simp [h.len],λi d q=>?_⟩
 by_cases hi:i < n
 ·rw [Ac (by simpa using hi),DA,qX hi] at q
  cases q
 ·rw [A9 (by simpa using hi)] at q ⊢
  simp only [Ko] at q ⊢;exact h.at' _ d q
theorem Bz.ok_of {α:Type} {K:AA} {E:EH} {ρ:List AK} {H:Hp} {r:Res α} {k:α->Sto->Prop} {a:α} {S:Sto} (e:r=.ok a S) (h:k a S):Bz K E ρ H r k:=by
 subst e;exact h
theorem PV {α β:Type} {r:Res α} {F:α->Sto->Res β} {b:β} {S:Sto} (h:(okR r).bind F=.ok b S):∃a S1,r=.ok a S1/\F a S1=.ok b S:=by
 cases r with
 | ok a S1=>exact ⟨a,S1,rfl,h⟩
 | err c S1=>cases h
 | bad=>cases h
theorem UN {v:Hf} {g:MG} {c:MT} {m:ME} {er:AK} {S':Sto}:∀(k i:Nat) (e:Lo) (S:Sto) (acc:List D),E5 v g c m k i e S acc≠.err er S':=by
 intro k
 induction k with
 | zero=>
  intro i e S acc h;unfold E5 at h;split at h
  ·cases h
  ·split at h <;> cases h
 | succ k ih=>
  intro i e S acc h;unfold E5 at h;split at h
  ·cases h
  ·split at h
   ·cases h
   ·dsimp only at h
    split at h
    ·cases h1:g _ e S with
     | ok e1 S1=>
      rw [h1] at h;dsimp only [okR,Res.bind] at h
      cases h2:c e1 S1 with
      | ok b S2=>
       rw [h2] at h;dsimp only [okR,Res.bind] at h
       cases b with
       | true=>
        rw [qX rfl] at h
        cases h3:m e1 S2 with
        | ok y S3=>rw [h3] at h;exact ih _ _ _ _ h
        | err _ _=>rw [h3] at h;cases h
        | bad=>rw [h3] at h;cases h
       | false=>
        rw [qY AR] at h;exact ih _ _ _ _ h
      | err _ _=>rw [h2] at h;cases h
      | bad=>rw [h2] at h;cases h
     | err _ _=>rw [h1] at h;cases h
     | bad=>rw [h1] at h;cases h
    ·cases h
theorem TW {K:AA} {n:Nat} {σ:St} {H:Hp} {Q:VK} (h:gL K E (EU n mi g c m) σ H Q):Zp n (gI K E mi) (gG K g) (gT K noE c) (gE K noE m) σ H Q:=by
 obtain ⟨ρ,l,S,hl,hs,hm⟩:=h;refine ⟨ρ,l,S,hl,hs,hm.seq λv S1 hm ρ1 H1 J l1 s1 vo p hp=>?_⟩
 obtain ⟨ds,S',hm,k⟩:∃ds S',E5 v g c m (Cj v S1) 0 (BU n none++l) S1 []=.ok ds S'/\∀ρ' H' p xs,Le K ρ H ρ' H'->B4 K ρ' S' H'->Ay K ρ' H' ds xs->H' p=some (.lst xs)->(∀n:Nat,ρ'[n]?≠some p)->H p=none->Q (.ref p) H':=by
  cases hc:E5 v g c m (Cj v S1) 0 (BU n none++l) S1 [] with
  | ok ds S'=>rw [hc] at hm;exact ⟨ds,S',rfl,hm⟩
  | err c S'=>exact (UN _ _ _ _ _ hc).elim
  | bad=>rw [hc] at hm;exact hm.elim
 obtain ⟨s1',l1'⟩:=HY (ho:=.lst []) s1 hp;have hp0:H p=none:=l1.back hs s1 hp
 refine ⟨λi j σ2 H2 xs=>∃ρ2 e2 S2 acc,Le K ρ1 H1 ρ2 H2/\FB K ρ2 H2 e2 σ2/\B4 K ρ2 S2 H2/\Ay K ρ2 H2 acc xs/\H2 p=some (.lst xs)/\(∀q:Nat,ρ2[q]?≠some p)/\E5 v g c m j i e2 S2 acc=.ok ds S',
  ⟨Cj v S1,ρ1,_,S1,[],l1',(hl.mono (l1.trans l1')).grow n,s1',.nil,Bj,λq e=>s1.notIn hp e,hm⟩,?_⟩
 rintro i j σ2 H2 xs ⟨ρ2,e2,S2,acc,l2,r2,s2,ra,hp2,hn2,hm2⟩;refine ⟨hp2,?_⟩;unfold E5 at hm2
 cases hv:v S2 with
 | none=>rw [hv] at hm2;cases hm2
 | some vs=>
  rw [hv] at hm2;dsimp only at hm2;obtain ⟨v1,v2⟩:=vo ρ2 H2 S2 vs i l2 s2 hv
  cases hd:vs[i]? with
  | none=>
   rw [hd] at hm2;cases hm2;exact .inl ⟨v1 hd,k ρ2 H2 p xs (l1.trans l2) s2 ra hp2 hn2 hp0⟩
  | some d=>
   rw [hd] at hm2;dsimp only at hm2;obtain ⟨go,yl⟩:=v2 d hd
   cases j with
   | zero=>cases hm2
   | succ j=>
    dsimp only at hm2;split at hm2
    ·rename_i hz
     obtain ⟨e3,S3,h3,hm2⟩:=PV hm2;obtain ⟨b,S4,h4,hm2⟩:=PV hm2;refine .inr ⟨go,by rw [<-ra.length];exact hz,λx H' y=>?_⟩;obtain ⟨ρ3,l3,s3,rd⟩:=yl x H' y;obtain ⟨hp3,hn3⟩:=l3.oth p _ hp2 hn2;refine ⟨ρ3,e2,S2,d,rd,r2.mono l3,s3,Bz.ok_of h3 λρ4 H4 σ4 l4 s4 r4=>?_⟩;obtain ⟨hp4,hn4⟩:=l4.oth p _ hp3 hn3;refine ⟨ρ4,e3,S3,r4,s4,Bz.ok_of h4 λρ5 H5 l5 s5=>?_⟩;obtain ⟨hp5,hn5⟩:=l5.oth p _ hp4 hn4
     cases b with
     | false=>
      rw [qY AR] at hm2 ⊢;exact ⟨j,CU j,ρ5,e3,S4,acc,l2.trans (l3.trans (l4.trans l5)),r4.mono l5,s5,ra.mono (l3.trans (l4.trans l5)),hp5,hn5,hm2⟩
     | true=>
      rw [qX rfl] at hm2 ⊢;obtain ⟨yv,S5,h5,hm2⟩:=PV hm2;refine ⟨ρ5,e3,S4,r4.mono l5,s5,Bz.ok_of h5 λρ6 H6 y6 l6 s6 r6=>?_⟩;obtain ⟨hp6,hn6⟩:=l6.oth p _ hp5 hn5
      have l7:∀xs',Le K ρ6 H6 ρ6 (upd H6 p (.lst xs'))->True:=λ_ _=>trivial
      have up7:∀xs':List V,B4 K ρ6 S5 (upd H6 p (.lst xs'))/\(∀a o,E6 K ρ6 H6 a o->a≠p->E6 K ρ6 (upd H6 p (.lst xs')) a o)/\∀e' w',Bv K ρ6 H6 e' w'->Bv K ρ6 (upd H6 p (.lst xs')) e' w':=λxs'=>by
       have kk:=GB (H:=H6) (p:=p) (ho:=.lst xs') (.inr (by rw [hp6];trivial))
       have mono:∀e' w',Bv K ρ6 H6 e' w'->Bv K ρ6 (upd H6 p (.lst xs')) e' w':=λe' w' r=>r.keep kk.1 kk.2
       have mob:∀a o,E6 K ρ6 H6 a o->a≠p->E6 K ρ6 (upd H6 p (.lst xs')) a o:=λa o r ne=>r.keep kk.1 kk.2 (By ne)
       exact ⟨⟨s6.len,s6.nd,λn o a q1 q2=>mob a o (s6.ob n o a q1 q2) λz=>hn6 n (by rw [<-z];exact q2)⟩,mob,mono⟩
      obtain ⟨u1,u2,u3⟩:=up7 (xs++[y6]);refine ⟨hp6,j,CU j,ρ6,e3,S5,acc++[yv],?_,?_,u1,?_,Bj,hn6,hm2⟩
      ·have lx:=l2.trans (l3.trans (l4.trans (l5.trans l6)))
       have kk:=GB (H:=H6) (p:=p) (ho:=.lst (xs++[y6])) (.inr (by rw [hp6];trivial))
       exact ⟨lx.pre,λa zs q=>kk.1 a zs (lx.tup a zs q),λa o u q=>kk.2 a o u (lx.frz a o u q),λa o q z=>by
        have nap:a≠p:=CI q hp;obtain ⟨z1,z2⟩:=lx.oth a o q z
        exact ⟨by rw [By nap];exact z1,z2⟩⟩
      ·have rr:=r4.mono (l5.trans l6)
       exact ⟨rr.len,λq d' hq=>by
        obtain ⟨w',z1,z2⟩:=rr.at' q d' hq
        exact ⟨w',z1,u3 _ _ z2⟩⟩
      ·have ra6:=ra.mono (l3.trans (l4.trans (l5.trans l6)))
       have kk:=GB (H:=H6) (p:=p) (ho:=.lst (xs++[y6])) (.inr (by rw [hp6];trivial));exact (ra6.keep kk.1 kk.2).append (.cons (u3 _ _ r6) .nil)
    ·cases hm2
theorem GD (hc:X.calm=true) (Sc:Lx X scope own N') (hi:GI X E target iter mi)
  (hg:∀cl C s₁ H₁ ex pn,GG (Dl X scope N' cl C s₁ H₁ ex pn) target g) (hif:∀cl C s₁ H₁ ex pn,gF (Dl X scope N' cl C s₁ H₁ ex pn) noE ifs c) (he:∀cl C s₁ H₁ ex pn,GE (Dl X scope N' cl C s₁ H₁ ex pn) noE elt m)
  (hs:∀x,FC iter X.env x=pure x:=by intro _;rfl):GL X E (.ListComp elt [⟨target,iter,ifs,0⟩] scope pos) (EU own.length mi g c m):=
 (eQ (g:=gG X.K g) (tc:=gT X.K noE c) (te:=gE X.K noE m) hc Sc hi hg hif he hs).imp λ_ _ _ h=>TW h
theorem SI {i:Nat} {y:Str} {py spos:Pos} (hc:X.calm=true) (hsw:Fo (.ListComp elt [⟨target,iter,ifs,0⟩] scope pos) (some (.Name y py)) spos.line X.env=pure true)
  (hN:X.N.Nodup) (hy:X.N[i]?=some y) (hloc:Loc X.env.scope y) (Sc:Lx X scope own N') (hi:GI X E target iter mi)
  (hg:∀cl C s₁ H₁ ex pn,GG (Dl X scope N' cl C s₁ H₁ ex pn) target g) (hif:∀cl C s₁ H₁ ex pn,gF (Dl X scope N' cl C s₁ H₁ ex pn) noE ifs c) (he:∀cl C s₁ H₁ ex pn,GE (Dl X scope N' cl C s₁ H₁ ex pn) noE elt m)
  (hs:∀x,FC iter X.env x=pure x:=by intro _;rfl) (hf:X.fn y=true∨X.env.scope.names.lookup y=some .local:=by first | exact .inl rfl | exact .inr rfl | assumption) :
  GS X E (.Assign [.Name y py] (.ListComp elt [⟨target,iter,ifs,0⟩] scope pos) spos) (BZ i (DB (EU own.length mi g c m))):=by
 refine (dw (g:=gG X.K g) (tc:=gT X.K noE c) (te:=gE X.K noE m) hc hsw hN hy hloc Sc hi hg hif he hs hf).imp λD σ H ⟨ρ,l,S,hl,hs,hm⟩=>?_
 refine TW (E:=E) (Q:=λx H'=>D.nx (σ.set i (some x)) H') ⟨ρ,l,S,hl,hs,Bz.seq (F:=λds S1=>Res.ok (L2.D.ref S1.length) (S1++[Ob.lst ds])) (k:=λd S2=>Bz X.K noH ρ H ((tgN i d l S2).bind λe1 S2=>.ok (.nx e1) S2) λfl S'=>Px X.K E ρ H S' D fl) (Bz.lift hm hl .refl λd S2 h=>h) λds S1 hm ρ1 H1 p xs l1 s1 r1 hp hn hp0=>?_⟩
 have l0:∀(n:Nat) a,ρ1[n]?=some a->(ρ1++[p])[n]?=some a:=λn a h=>by rw [Ac (AF.mp h).1];exact h
 obtain ⟨s2,at2⟩:=s1.adopt (o:=.lst ds) hn ⟨xs,hp,r1.more l0⟩
 have l2:Le X.K ρ H (ρ1++[p]) H1:=⟨λn a h=>l0 n a (l1.pre n a h),l1.tup,l1.frz,λa o e h=>⟨(l1.oth a o e h).1,λn q=>by
  rcases Hx q with ⟨q,_⟩ | ⟨_,q⟩
  ·exact (l1.oth a o e h).2 n q
  ·exact CI e hp0 q⟩⟩
 exact hm _ _ _ l2 s2 ((hl.mono l2).set (.ref at2) i)
end
end L2
namespace L2
open PySem PySem.Spec PyProof.Rows PySem.SeqAt
def Kg:D->D->Option Bool
 | .non,.non=>some true
 | .bl a,.bl b=>some (a==b)
 | .int a,.int b=>some (a==b)
 | .str a,.str b=>some (a==b)
 | .non,.int _=>some false
 | .non,.str _=>some false
 | .non,.bl _=>some false
 | .non,.tup _=>some false
 | .int _,.non=>some false
 | .str _,.non=>some false
 | .bl _,.non=>some false
 | .tup _,.non=>some false
 | .int _,.tup _=>some false
 | .tup _,.int _=>some false
 | _,_=>none
def eqL (f:D->D->Option Bool):List D->List D->Option Bool
 | [],[]=>some true
 | [],_ :: _=>some false
 | _ :: _,[]=>some false
 | x :: xs,y :: ys=>match f x y,eqL f xs ys with
  | some a,some b=>some (a&&b)
  | _,_=>none
def eqP:Nat->D->D->Option Bool
 | 0,x,y=>Kg x y
 | n+1,x,y=>match x,y with
  | .tup xs,.tup ys=>eqL (eqP n) xs ys
  | x,y=>Kg x y
theorem Ke {f:D->D->Option Bool} {x y:D} {xs ys:List D} {b:Bool} (h:eqL f (x :: xs) (y :: ys)=some b):∃a c,f x y=some a/\eqL f xs ys=some c/\b=(a&&c):=by
 unfold eqL at h;split at h
 ·rename_i a c h1 h2
  cases h;exact ⟨a,c,h1,h2,rfl⟩
 ·cases h
theorem W5 {f:D->D->Option Bool}:∀ {xs ys:List D} {b:Bool},eqL f xs ys=some b->(∀(j:Nat) x y,xs[j]?=some x->ys[j]?=some y->∃c,f x y=some c) /\
  b=((AT (min xs.length ys.length)).all (λj=>match xs[j]?,ys[j]? with | some x,some y=>(f x y).getD false | _,_=>false)&&xs.length==ys.length)
 | [],[],b,h=>by cases h;exact ⟨λj x y h=>by simp at h,by simp⟩
 | [],y :: ys,b,h=>by cases h;exact ⟨λj x y h=>by simp at h,by simp⟩
 | x :: xs,[],b,h=>by cases h;exact ⟨λj x y _ h=>by simp at h,by simp⟩
 | x :: xs,y :: ys,b,h=>by
  obtain ⟨a,c,h1,h2,rfl⟩:=Ke h;obtain ⟨i1,i2⟩:=W5 h2;refine ⟨λj x' y' e1 e2=>?_,?_⟩
  ·cases j with
   | zero=>simp at e1 e2;subst e1;subst e2;exact ⟨a,h1⟩
   | succ j=>exact i1 j x' y' (by simpa using e1) (by simpa using e2)
  ·rw [i2,A6,A6,show min (xs.length+1) (ys.length+1)=min xs.length ys.length+1 by lia,Ub,List.all_cons,Ue]
   simp only [List.getElem?_cons_zero,h1,Y1,Function.comp_def,List.getElem?_cons_succ];rw [Bool.and_assoc]
   congr 1
   congr 1
   rw [Bool.eq_iff_iff];simp
section
variable {K:AA} {ρ:List AK} {H:Hp}
theorem W2 (n k:Nat) (y:D):eqP n (.ref k) y=none:=by cases n <;> cases y <;> rfl
theorem W3 (n:Nat) (ds:List D) (y:D):eqP n (.fro ds) y=none:=by cases n <;> cases y <;> rfl
theorem W4 (n:Nat) (c:AK) (y:D):eqP n (.exc c) y=none:=by cases n <;> cases y <;> rfl
theorem MR {x x':D} {v:V} (r1:Bv K ρ H x v) (r2:Bv K ρ H x' v):x=x'∨(∃ds ds' vs,x=.tup ds/\x'=.tup ds'/\Ay K ρ H ds vs/\Ay K ρ H ds' vs)∨(∀n y,eqP n x y=none)∨∀n y,eqP n x' y=none:=by
 cases r1 with
 | non=>cases r2;exact .inl rfl
 | bl b=>cases r2;exact .inl rfl
 | int b=>cases r2;exact .inl rfl
 | str b=>cases r2;exact .inl rfl
 | fro _ _=>exact .inr (.inr (.inl λn y=>W3 n _ y))
 | ref _=>exact .inr (.inr (.inl λn y=>W2 n _ y))
 | exc _ _=>exact .inr (.inr (.inl λn y=>W4 n _ y))
 | tup u1 u2=>
  cases r2 with
  | fro _ _=>exact .inr (.inr (.inr λn y=>W3 n _ y))
  | ref _=>exact .inr (.inr (.inr λn y=>W2 n _ y))
  | exc _ _=>exact .inr (.inr (.inr λn y=>W4 n _ y))
  | tup w1 w2=>
   rw [u1] at w1;cases w1;exact .inr (.inl ⟨_,_,_,rfl,rfl,u2,w2⟩)
theorem fZ:∀(n:Nat) {x x' y:D} {v:V} {b b':Bool},Bv K ρ H x v->Bv K ρ H x' v->eqP n x y=some b->eqP n x' y=some b'->b=b':=by
 intro n
 induction n with
 | zero=>
  intro x x' y v b b' r1 r2 h h'
  rcases MR r1 r2 with rfl | ⟨ds,ds',vs,rfl,rfl,_,_⟩ | q | q
  ·rw [h] at h';cases h';rfl
  ·have:eqP 0 (.tup ds) y=eqP 0 (.tup ds') y:=by cases y <;> rfl
   rw [<-this,h] at h';cases h';rfl
  ·rw [q] at h;cases h
  ·rw [q] at h';cases h'
 | succ n ih=>
  intro x x' y v b b' r1 r2 h h'
  have lists:∀ {xs:List D} {vs:List V} {xs' ys:List D} {b b':Bool},Ay K ρ H xs vs->Ay K ρ H xs' vs->eqL (eqP n) xs ys=some b->eqL (eqP n) xs' ys=some b'->b=b':=by
   intro xs
   induction xs with
   | nil=>
    intro vs xs' ys b b' q1 q2 g g';cases q1;cases q2;rw [g] at g';cases g';rfl
   | cons d ds ihl=>
    intro vs xs' ys b b' q1 q2 g g'
    cases q1 with
    | cons a1 a2=>
     cases q2 with
     | cons c1 c2=>
      cases ys with
      | nil=>cases g;cases g';rfl
      | cons y ys=>
       obtain ⟨p,q,g1,g2,rfl⟩:=Ke g;obtain ⟨p',q',g1',g2',rfl⟩:=Ke g';rw [ih a1 c1 g1 g1',ihl a2 c2 g2 g2']
  rcases MR r1 r2 with rfl | ⟨ds,ds',vs,rfl,rfl,q1,q2⟩ | q | q
  ·rw [h] at h';cases h';rfl
  ·by_cases c:∃ys,y=.tup ys
   ·obtain ⟨ys,rfl⟩:=c
    exact lists q1 q2 h h'
   ·have:eqP (n+1) (.tup ds) y=eqP (n+1) (.tup ds') y:=by
     cases y <;> first | rfl | exact (c ⟨_,rfl⟩).elim
    rw [<-this,h] at h';cases h';rfl
  ·rw [q] at h;cases h
  ·rw [q] at h';cases h'
theorem EB {x:D} {b:Bool} (h:Kg x x=some b):b=true:=by
 cases x <;> first | (cases h;done) | (cases h;simp)
theorem P0:∀(n:Nat) {x:D} {b:Bool},eqP n x x=some b->b=true
 | 0,_,_,h=>EB h
 | n+1,x,b,h=>by
  have lists:∀ {xs:List D} {b:Bool},eqL (eqP n) xs xs=some b->b=true:=by
   intro xs
   induction xs with
   | nil=>intro b g;cases g;rfl
   | cons d ds ih=>
    intro b g;obtain ⟨p,q,g1,g2,rfl⟩:=Ke g;rw [P0 n g1,ih g2];rfl
  cases x with
  | tup xs=>exact lists h
  | non=>exact EB (x:=.non) h
  | bl c=>exact EB (x:=.bl c) h
  | int c=>exact EB (x:=.int c) h
  | str c=>exact EB (x:=.str c) h
  | ref c=>exact EB (x:=.ref c) h
  | fro c=>exact EB (x:=.fro c) h
  | exc c=>exact EB (x:=.exc c) h
theorem Ku {x y:D} (hy:(∃f,y=.fro f)∨(∃r,y=.ref r)∨∃c,y=.exc c) (n:Nat):eqP n x y=none:=by
 rcases hy with ⟨f,rfl⟩ | ⟨r,rfl⟩ | ⟨c,rfl⟩ <;> (cases n <;> cases x <;> rfl)
theorem bZ (n:Nat) {x y:D} {v:V} {b:Bool} (h1:Bv K ρ H x v) (h2:Bv K ρ H y v) (h:eqP n x y=some b):b=true:=by
 induction n generalizing x y v b with
 | zero=>
  rcases MR h1 h2 with rfl | ⟨ds,ds',vs,rfl,rfl,_,_⟩ | q | q
  ·exact P0 0 h
  ·cases h
  ·rw [q] at h;cases h
  ·cases h2 with
   | fro _ _=>rw [Ku (.inl ⟨_,rfl⟩)] at h;cases h
   | ref _=>rw [Ku (.inr (.inl ⟨_,rfl⟩))] at h;cases h
   | exc _ _=>rw [Ku (.inr (.inr ⟨_,rfl⟩))] at h;cases h
   | non=>cases (q 0 .non)
   | bl b=>cases (q 0 (.bl b))
   | int b=>cases (q 0 (.int b))
   | str b=>cases (q 0 (.str b))
   | tup _ _=>cases (q 0 .non)
 | succ n ih=>
  have lists:∀ {xs ys:List D} {vs:List V} {b:Bool},Ay K ρ H xs vs->Ay K ρ H ys vs->eqL (eqP n) xs ys=some b->b=true:=by
   intro xs
   induction xs with
   | nil=>intro ys vs b q1 q2 g;cases q1;cases q2;cases g;rfl
   | cons d ds ihl=>
    intro ys vs b q1 q2 g
    cases q1 with
    | cons a1 a2=>
     cases q2 with
     | cons c1 c2=>
      obtain ⟨p,q,g1,g2,rfl⟩:=Ke g;rw [ih a1 c1 g1,ihl a2 c2 g2];rfl
  rcases MR h1 h2 with rfl | ⟨ds,ds',vs,rfl,rfl,q1,q2⟩ | q | q
  ·exact P0 (n+1) h
  ·exact lists q1 q2 h
  ·rw [q] at h;cases h
  ·cases h2 with
   | fro _ _=>rw [Ku (.inl ⟨_,rfl⟩)] at h;cases h
   | ref _=>rw [Ku (.inr (.inl ⟨_,rfl⟩))] at h;cases h
   | exc _ _=>rw [Ku (.inr (.inr ⟨_,rfl⟩))] at h;cases h
   | non=>cases (q 0 .non)
   | bl b=>cases (q 0 (.bl b))
   | int b=>cases (q 0 (.int b))
   | str b=>cases (q 0 (.str b))
   | tup _ _=>cases (q 0 .non)
end
section
variable {X:Cx} {pins:List (AK×Obj)} {σ:St} {H:Hp} {s:AG} {ρ:List AK}
theorem Gq (A:BA):A.in1.units=A.units+1:=rfl
theorem Bd.at_ {vs:List V} {its:List AD} (r:Bd vs its) {j:Nat} (h:j < its.toArray.size):∃v,vs[j]?=some v/\RelV v its.toArray[j]:=by
 have hj:j < its.length:=by simpa using h
 have hv:j < vs.length:=by rw [r.length];exact hj
 obtain ⟨u,h1,h2⟩:=r.get (i:=j) (x:=vs[j]) (by simp [hv]);refine ⟨vs[j],by simp [hv],?_⟩
 have:its.toArray[j]=u:=by
  have:=AF.mp h1;obtain ⟨_,e⟩:=this;simpa using e
 rw [this];exact h2
theorem Ry {n:Nat} {A:BA} (ih:∀(x y:D) (b:Bool) (xv yv:V) (u v:AD),eqP n x y=some b->Bv X.K ρ H x xv->Bv X.K ρ H y yv->RelV xv u->RelV yv v->EqAt A s u v b)
  {xs ys:List D} {vs ws:List V} {us zs:List AD} {b:Bool} (h:eqL (eqP n) xs ys=some b) (r1:Ay X.K ρ H xs vs) (r2:Ay X.K ρ H ys ws) (q1:Bd vs us) (q2:Bd ws zs) :
  ∃e:Nat->Bool,(∀j (h1:j < us.toArray.size) (h2:j < zs.toArray.size),EqAt A s us.toArray[j] zs.toArray[j] (e j))/\b=((AT (min us.toArray.size zs.toArray.size)).all e&&us.toArray.size==zs.toArray.size):=by
 obtain ⟨i1,i2⟩:=W5 h;refine ⟨λj=>match xs[j]?,ys[j]? with | some x,some y=>(eqP n x y).getD false | _,_=>false,λj h1 h2=>?_,?_⟩
 ·obtain ⟨v,e1,rv⟩:=Bd.at_ q1 h1
  obtain ⟨w,e2,rw'⟩:=Bd.at_ q2 h2;obtain ⟨x,e3,rx⟩:=r1.get' e1;obtain ⟨y,e4,ry⟩:=r2.get' e2;obtain ⟨c,hc⟩:=i1 j x y e3 e4;have:=ih x y c v w _ _ hc rx ry rv rw';simp only [e3,e4,hc,Y1];exact this
 ·rw [i2,r1.length,r2.length,q1.length,q2.length]
  simp
theorem NS {A:BA} {x y:D} {b:Bool} {xv yv:V} {u v:AD} (I:Inv X pins σ H s) (hu:A.units < Eb) (h:Kg x y=some b) (r1:Bv X.K ρ H x xv) (r2:Bv X.K ρ H y yv) (q1:RelV xv u) (q2:RelV yv v) :
  EqAt A s u v b/\RcAt A s u v b/\RcNeAt A s u v (!b):=by
 cases r1 with
 | non=>
  cases q1
  cases r2 with
  | non=>cases q2;cases h;exact ⟨EqAt.same _,RcAt.none_none,RcNeAt.none_none⟩
  | bl c=>cases q2;cases h;exact ⟨EqAt.none_bool _,RcAt.none_bool _,RcNeAt.none_bool _⟩
  | int i=>obtain ⟨t,rfl⟩:=q2;cases h;exact ⟨EqAt.none_int _ _,RcAt.none_int _ _,RcNeAt.none_int _ _⟩
  | str z=>obtain ⟨t,rfl⟩:=q2;cases h;exact ⟨EqAt.none_str _ _,RcAt.none_str _ _,RcNeAt.none_str _ _⟩
  | tup a1 a2=>
   cases q2;cases h;obtain ⟨its,_,p,_⟩:=I.tuple (.inl (.inl a1));exact ⟨EqAt.none_tuple p hu,RcAt.none_tuple p hu,RcNeAt.none_tuple p hu⟩
  | _=>cases h
 | bl a=>
  cases q1
  cases r2 with
  | non=>cases q2;cases h;exact ⟨EqAt.bool_none _,RcAt.bool_none _,RcNeAt.bool_none _⟩
  | bl c=>cases q2;cases h;exact ⟨EqAt.bool_bool _ _,RcAt.bool_bool _ _,RcNeAt.bool_bool _ _⟩
  | _=>cases h
 | int a=>
  obtain ⟨t,rfl⟩:=q1
  cases r2 with
  | non=>cases q2;cases h;exact ⟨EqAt.int_none _ _,RcAt.int_none _ _,RcNeAt.int_none _ _⟩
  | int i=>obtain ⟨t',rfl⟩:=q2;cases h;exact ⟨EqAt.int_int _ _ _ _,RcAt.int_int _ _ _ _,RcNeAt.int_int _ _ _ _⟩
  | tup a1 a2=>
   cases q2;cases h;obtain ⟨its,_,p,_⟩:=I.tuple (.inl (.inl a1));exact ⟨EqAt.int_tuple _ _ p hu,RcAt.int_tuple _ _ p hu,RcNeAt.int_tuple _ _ p hu⟩
  | _=>cases h
 | str a=>
  obtain ⟨t,rfl⟩:=q1
  cases r2 with
  | non=>cases q2;cases h;exact ⟨EqAt.str_none _ _,RcAt.str_none _ _,RcNeAt.str_none _ _⟩
  | str i=>obtain ⟨t',rfl⟩:=q2;cases h;exact ⟨EqAt.str_str _ _ _ _,RcAt.str_str _ _ _ _,RcNeAt.str_str _ _ _ _⟩
  | _=>cases h
 | tup a1 a2=>
  cases q1;obtain ⟨its,_,p,_⟩:=I.tuple (.inl (.inl a1))
  cases r2 with
  | non=>cases q2;cases h;exact ⟨EqAt.tuple_none p hu,RcAt.tuple_none p hu,RcNeAt.tuple_none p hu⟩
  | int i=>obtain ⟨t',rfl⟩:=q2;cases h;exact ⟨EqAt.tuple_int _ _ p hu,RcAt.tuple_int _ _ p hu,RcNeAt.tuple_int _ _ p hu⟩
  | _=>cases h
 | _=>cases h
theorem Vz (I:Inv X pins σ H s):∀(n:Nat) (A:BA) (x y:D) (b:Bool) (xv yv:V) (u v:AD),A.units+n < Eb->eqP n x y=some b->Bv X.K ρ H x xv->Bv X.K ρ H y yv->RelV xv u->RelV yv v->EqAt A s u v b:=by
 intro n
 induction n with
 | zero=>exact λA x y b xv yv u v hu h r1 r2 q1 q2=>(NS I (by omega) h r1 r2 q1 q2).1
 | succ n ih=>
  intro A x y b xv yv u v hu h r1 r2 q1 q2
  by_cases ht:∃xs ys,x=.tup xs/\y=.tup ys
  ·obtain ⟨xs,ys,rfl,rfl⟩:=ht
   cases r1 with
   | @tup _ a vs a1 a2=>
    cases r2 with
    | @tup _ c ws b1 b2=>
     cases q1;cases q2
     by_cases hac:a=c
     ·subst hac
      rw [bZ (n+1) (.tup a1 a2) (.tup b1 b2) h];exact EqAt.same _
     ·obtain ⟨its,rv,p,_⟩:=I.tuple (.inl (.inl a1))
      obtain ⟨its2,rw',p2,_⟩:=I.tuple (.inl (.inl b1));obtain ⟨e,he,rfl⟩:=Ry (A:=A.in1) (λx y b xv yv u v g1 g2 g3 g4 g5=>ih A.in1 x y b xv yv u v (by rw [Gq];lia) g1 g2 g3 g4 g5) h a2 b2 rv rw';exact EqAt.of_refs hac (kl p p2 (by lia) he)
  ·have hf:Kg x y=some b:=by
    cases x <;> cases y <;> first | exact h | exact (ht ⟨_,_,rfl,rfl⟩).elim
   exact (NS I (by lia) hf r1 r2 q1 q2).1
def J4 (d:D) (S:Sto):Option (List D):=match d with
 | .fro ds=>some ds
 | .ref n=>match S[n]? with
  | some (.lst ds)=>some ds
  | _=>none
 | _=>none
def eqB (x y:D) (S:Sto):Option Bool:=match J4 x S,J4 y S with
 | some xs,some ys=>if xs.length=ys.length then eqL (eqP 8) xs ys else some false
 | none,none=>eqP 8 x y
 | some _,none=>match y with
  | .tup _=>some false
  | .non=>some false
  | _=>none
 | none,some _=>match x with
  | .tup _=>some false
  | .non=>some false
  | _=>none
def eqD (neg:Bool) (x y:D) (S:Sto):Res D:=match eqB x y S with
 | some b=>.ok (.bl (if neg then !b else b)) S
 | none=>.bad
theorem IY {K:AA} {S:Sto} {d:D} {x:V} {ds:List D} (hs:B4 K ρ S H) (r:Bv K ρ H d x) (h:J4 d S=some ds):∃p xs,x=.ref p/\Ay K ρ H ds xs/\SqL K H p xs:=by
 cases r with
 | fro h1 h2=>cases h;exact ⟨_,_,rfl,h2,h1.sq⟩
 | @ref n a hn=>
  obtain ⟨o,ho,ro⟩:=hs.there hn;unfold J4 at h;simp only [ho] at h
  cases o with
  | lst es=>cases h;obtain ⟨vs,e,rr⟩:=ro;exact ⟨_,_,rfl,rr,.inl (.inl e)⟩
  | _=>cases h
 | _=>cases h
theorem bf {S:Sto} {x y:D} {b:Bool} {xv yv:V} {u v:AD} (I:Inv X pins σ H s) (hu:X.A.units+64 < Eb) (hs:B4 X.K ρ S H) (r1:Bv X.K ρ H x xv) (r2:Bv X.K ρ H y yv) (q1:RelV xv u) (q2:RelV yv v) (h:eqB x y S=some b) :
  RcAt X.A s u v b/\RcNeAt X.A s u v (!b):=by
 unfold eqB at h;split at h
 ·rename_i xs ys h1 h2
  obtain ⟨p,vs,rfl,rr,sq⟩:=IY hs r1 h1;obtain ⟨p',vs',rfl,rr',sq'⟩:=IY hs r2 h2;cases q1;cases q2;obtain ⟨its,rv,pl,_⟩:=I.list sq;obtain ⟨its2,rv2,pl2,_⟩:=I.list sq';split at h
  ·rename_i hlen
   obtain ⟨e,he,rfl⟩:=Ry (A:=X.A.in1) (λx y b xv yv u v g1 g2 g3 g4 g5=>Vz I 8 X.A.in1 x y b xv yv u v (by rw [Gq];lia) g1 g2 g3 g4 g5) h rr rr' rv rv2
   have hsz:its.toArray.size=its2.toArray.size:=by
    simp only [AU];rw [<-rv.length,<-rv2.length,<-rr.length,<-rr'.length];exact hlen
   have e1:((AT (min its.toArray.size its2.toArray.size)).all e&&its.toArray.size==its2.toArray.size)=(AT its.toArray.size).all e:=by
    rw [<-hsz,Nat.min_self,beq_self_eq_true,Bool.and_true]
   rw [e1];exact ⟨RcAt.lists pl.isList pl2.isList hsz (by lia) he,RcNeAt.lists pl.isList pl2.isList hsz (by lia) he⟩
  ·rename_i hlen
   cases h
   have hsz:(its.toArray.size != its2.toArray.size)=true:=by
    simp only [AU];rw [<-rv.length,<-rv2.length,<-rr.length,<-rr'.length];simpa using hlen
   exact ⟨RcAt.lists_lengths pl.isList pl2.isList hsz (by lia),RcNeAt.lists_lengths pl.isList pl2.isList hsz (by lia)⟩
 ·by_cases ht:∃xs ys,x=.tup xs/\y=.tup ys
  ·obtain ⟨xs,ys,rfl,rfl⟩:=ht
   cases r1 with
   | tup a1 a2=>
    cases r2 with
    | tup b1 b2=>
     cases q1;cases q2;obtain ⟨its,rv,p,_⟩:=I.tuple (.inl (.inl a1));obtain ⟨its2,rw',p2,_⟩:=I.tuple (.inl (.inl b1));obtain ⟨e,he,rfl⟩:=Ry (n:=7) (A:=X.A.in1) (λx y b xv yv u v g1 g2 g3 g4 g5=>Vz I 7 X.A.in1 x y b xv yv u v (by rw [Gq];lia) g1 g2 g3 g4 g5) h a2 b2 rv rw';exact ⟨kl p p2 (by lia) he,RcNeAt.tuples p p2 (by lia) he⟩
  ·have hf:Kg x y=some b:=by
    cases x <;> cases y <;> first | exact h | exact (ht ⟨_,_,rfl,rfl⟩).elim
   exact (NS I (by lia) hf r1 r2 q1 q2).2
 ·rename_i xs h1 h2
  obtain ⟨p,vs,rfl,rr,sq⟩:=IY hs r1 h1;cases q1;obtain ⟨its,rv,pl,_⟩:=I.list sq;split at h
  ·cases h
   cases r2 with
   | tup b1 b2=>
    cases q2;obtain ⟨its2,rw',p2,_⟩:=I.tuple (.inl (.inl b1));exact ⟨RcAt.list_tuple pl.isList p2 (by lia),RcNeAt.list_tuple pl.isList p2 (by lia)⟩
  ·cases h
   cases r2;cases q2;exact ⟨RcAt.list_none pl.isList (by lia),RcNeAt.list_none pl.isList (by lia)⟩
  ·cases h
 ·rename_i xs h1 h2
  obtain ⟨p,vs,rfl,rr,sq⟩:=IY hs r2 h2;cases q2;obtain ⟨its,rv,pl,_⟩:=I.list sq;split at h
  ·cases h
   cases r1 with
   | tup b1 b2=>
    cases q1;obtain ⟨its2,rw',p2,_⟩:=I.tuple (.inl (.inl b1));exact ⟨RcAt.tuple_list p2 pl.isList (by lia),RcNeAt.tuple_list p2 pl.isList (by lia)⟩
  ·cases h
   cases r1;cases q1;exact ⟨RcAt.none_list pl.isList (by lia),RcNeAt.none_list pl.isList (by lia)⟩
  ·cases h
theorem JL (hu:X.A.units+64 < Eb):OpR X (Bp .Eq) (rD X.K (eqD false)):=by
 intro pins s σ H x y v u Q I rx ry h;obtain ⟨ρ,S,a,b,d,S',hs,ra,rb,hm,k⟩:=h;unfold eqD at hm;split at hm
 ·rename_i c hc
  cases hm;exact (bf I hu hs ra rb rx ry hc).1 _ _ _ _ ⟨.bl c,H,I,rfl,k ρ H _ .refl hs (.bl _)⟩
 ·cases hm
theorem Ts (hu:X.A.units+64 < Eb):OpR X (Bp .NotEq) (rD X.K (eqD true)):=by
 intro pins s σ H x y v u Q I rx ry h;obtain ⟨ρ,S,a,b,d,S',hs,ra,rb,hm,k⟩:=h;unfold eqD at hm;split at hm
 ·rename_i c hc
  cases hm;exact (bf I hu hs ra rb rx ry hc).2 _ _ _ _ ⟨.bl (!c),H,I,rfl,k ρ H _ .refl hs (.bl _)⟩
 ·cases hm
def Jy (x:D):List D->Option Bool
 | []=>some false
 | d :: ds=>match eqP 8 d x,Jy x ds with
  | some a,some b=>some (a||b)
  | _,_=>none
def inD (neg:Bool) (x y:D) (S:Sto):Res D:=match Fy y S with
 | some ds=>match Jy x ds with
  | some b=>.ok (.bl (if neg then !b else b)) S
  | none=>.bad
 | none=>.bad
theorem V5 {x d:D} {ds:List D} {b:Bool} (h:Jy x (d :: ds)=some b):∃a c,eqP 8 d x=some a/\Jy x ds=some c/\b=(a||c):=by
 unfold Jy at h;split at h
 ·rename_i a c h1 h2
  cases h;exact ⟨a,c,h1,h2,rfl⟩
 ·cases h
open Classical in
theorem Mn {x:D} {xv:V} {v:AD} (I:Inv X pins σ H s) {A:BA} (hu:A.units+8 < Eb) (rx:Bv X.K ρ H x xv) (qx:RelV xv v):∀ {ds:List D} {vs:List V} {us:List AD} {b:Bool},Ay X.K ρ H ds vs->Bd vs us->Jy x ds=some b ->
  ∃e:AD->Bool,(∀y∈us,EqAt A s y v (e y))/\b=us.any e:=by
 intro ds vs us b r q h
 let e:AD->Bool:=λy=>decide (∃d w,d∈ds/\Bv X.K ρ H d w/\RelV w y/\eqP 8 d x=some true)
 have all:∀ {ds':List D} {vs':List V} {us':List AD} {b':Bool},(∀d∈ds',d∈ds)->Ay X.K ρ H ds' vs'->Bd vs' us'->Jy x ds'=some b'->(∀y∈us',EqAt A s y v (e y))/\b'=us'.any e:=by
  intro ds'
  induction ds' with
  | nil=>intro vs' us' b' _ r q h;cases r;cases q;cases h;exact ⟨(λ_ z=>nomatch z),rfl⟩
  | cons d ds' ih=>
   intro vs' us' b' hsub r q h
   cases r with
   | cons r1 r2=>
    cases q with
    | @cons w y _ _ q1 q2=>
     obtain ⟨a,c,h1,h2,rfl⟩:=V5 h;obtain ⟨i1,i2⟩:=ih (λz hz=>hsub z (AW _ hz)) r2 q2 h2
     have ha:e y=a:=by
      by_cases hq:∃d w,d∈ds/\Bv X.K ρ H d w/\RelV w y/\eqP 8 d x=some true
      ·obtain ⟨d',w',_,g1,g2,g3⟩:=id hq
       rw [RelV.inj g2 q1] at g1;have:=fZ 8 g1 r1 g3 h1;rw [<-this];exact wX hq
      ·have:a=false:=by
        cases a with
        | false=>rfl
        | true=>exact (hq ⟨d,_,hsub d Ag,r1,q1,h1⟩).elim
       rw [this];exact wY hq
     refine ⟨λz hz=>?_,by rw [HC,ha,<-i2]⟩
     rcases Au.mp hz with rfl | hz
     ·rw [ha]
      exact Vz I 8 A d x a _ _ _ _ hu h1 r1 rx q1 qx
     ·exact i1 z hz
 obtain ⟨e1,e2⟩:=all (λ_ h=>h) r q h;exact ⟨e,e1,e2⟩
theorem gi (hu:X.A.units+64 < Eb):OpR X (Bp .In) (rD X.K (inD false)):=by
 intro pins s σ H x y v u Q I rx ry h;obtain ⟨ρ,S,a,b,d,S',hs,ra,rb,hm,k⟩:=h;unfold inD at hm;split at hm
 ·rename_i ds hq
  split at hm
  ·rename_i c hc
   cases hm;obtain ⟨p,xs,rfl,rr,sq⟩:=MN hs rb hq;cases ry
   rcases sq with sq | sq
   ·obtain ⟨its,rv,pl,_⟩:=I.list sq
    obtain ⟨e,he,rfl⟩:=Mn I (A:=X.A.in1) (by rw [Gq];lia) ra rx rr rv hc;exact in_listAt e pl.isList (λz hz=>he z (by simpa using hz)) ⟨.bl (its.toArray.any e),H,I,rfl,by rw [Ju];exact k ρ H _ .refl hs (.bl _)⟩
   ·obtain ⟨its,rv,pl,_⟩:=I.tuple sq
    obtain ⟨e,he,rfl⟩:=Mn I (A:=X.A.in1) (by rw [Gq];lia) ra rx rr rv hc;exact in_tupleAt e pl (λz hz=>he z (by simpa using hz)) ⟨.bl (its.toArray.any e),H,I,rfl,by rw [Ju];exact k ρ H _ .refl hs (.bl _)⟩
  ·cases hm
 ·cases hm
theorem aT (hu:X.A.units+64 < Eb):OpR X (Bp .NotIn) (rD X.K (inD true)):=by
 intro pins s σ H x y v u Q I rx ry h;obtain ⟨ρ,S,a,b,d,S',hs,ra,rb,hm,k⟩:=h;unfold inD at hm;split at hm
 ·rename_i ds hq
  split at hm
  ·rename_i c hc
   cases hm;obtain ⟨p,xs,rfl,rr,sq⟩:=MN hs rb hq;cases ry
   rcases sq with sq | sq
   ·obtain ⟨its,rv,pl,_⟩:=I.list sq
    obtain ⟨e,he,rfl⟩:=Mn I (A:=X.A.in1) (by rw [Gq];lia) ra rx rr rv hc;exact notIn_listAt e pl.isList (λz hz=>he z (by simpa using hz)) ⟨.bl (!its.toArray.any e),H,I,rfl,by rw [Ju];exact k ρ H _ .refl hs (.bl _)⟩
   ·obtain ⟨its,rv,pl,_⟩:=I.tuple sq
    obtain ⟨e,he,rfl⟩:=Mn I (A:=X.A.in1) (by rw [Gq];lia) ra rx rr rv hc;exact notIn_tupleAt e pl (λz hz=>he z (by simpa using hz)) ⟨.bl (!its.toArray.any e),H,I,rfl,by rw [Ju];exact k ρ H _ .refl hs (.bl _)⟩
  ·cases hm
 ·cases hm
end
end L2
namespace L2
open PySem PySem.Spec PyProof.Rows
def FA (mo ma:ME):ME:=λe S=>(mo e S).bind λd S1=>match d with
 | .ref n=>match S1[n]? with
  | some (.lst _)=>(ma e S1).bind λy S2=>match S2[n]? with
   | some (.lst xs)=>if xs.length < sizeLine then .ok .non (S2.set n (.lst (xs++[y]))) else .bad
   | _=>.bad
  | _=>.bad
 | _=>.bad
section
variable {X:Cx} {E:EW} {o e:Expr} {apos cpos:Pos} {mo ma:ME}
theorem Wa {K:AA} {ρ:List AK} {S:Sto} {H:Hp} {n:Nat} {x:V} {xs:List D} (s:B4 K ρ S H) (r:Bv K ρ H (.ref n) x) (h:S[n]?=some (.lst xs)):∃a vs,x=.ref a/\ρ[n]?=some a/\H a=some (.lst vs)/\Ay K ρ H xs vs:=by
 cases r with
 | ref hn=>
  obtain ⟨vs,e,rr⟩:=s.ob n _ _ h hn;exact ⟨_,vs,rfl,hn,e,rr⟩
theorem DN (ho:GE X E o mo) (ha:GE X E e ma) (hbase:EC o "append" X.env (Bm o X.env)=Bm o X.env:=by rfl)
  (hfew:((DX cpos (AS [e] X.env)).all (λx=>!x.1)&&(cS cpos (Sk [] X.env)).all (λx=>x.1.isSome)
    &&decide ([e].length+([]:List LX).length+(if ([]:List LX).isEmpty then 0 else 1) < 30))=true:=by rfl)
  (hline:(apos.endLine==cpos.line)=true:=by rfl) (hs:AS [e] X.env=(false,Bm e X.env) :: AS [] X.env:=by rfl) (hplain:(DX cpos (AS [] X.env)).any (·.1)=false:=by rfl) :
  GE X E (.Call (.Attribute o "append" apos) [e] [] cpos) (FA mo ma):=(gh Iz PySem.F.slot_list_append PySem.F.type_list_append Q7 ho (Ez ha HH hs) hbase hfew hline hs hplain).imp λσ H Q ⟨ρ,l,S,hl,hs,hm⟩=>by
 refine ⟨ρ,l,S,hl,hs,hm.seq λx S1 hm ρ1 H1 v l1 s1 r1=>?_⟩
 cases x <;> first | exact hm.elim | skip
 rename_i n;dsimp only at hm;split at hm
 ·rename_i xs0 h0
  obtain ⟨a,vs,rfl,hn,e0,_⟩:=Wa s1 r1 h0;refine ⟨.inl ⟨rfl,vs,.inl (.inl e0)⟩,ρ1,l,S1,hl.mono l1,s1,(hm.later l1).seq λy S2 hm ρ2 H2 u l2 s2 r2=>?_⟩;split at hm
  ·rename_i xs h3
   split at hm
   ·rename_i hz
    have hn2:=l2.pre n a hn;obtain ⟨ws,e3,rr⟩:=s2.ob n _ _ h3 hn2;have le:Le X.K ρ2 H2 ρ2 (upd H2 a (.lst (ws++[u]))):=Le.write hn2 (by rw [e3];trivial);obtain ⟨s3,l3⟩:=s2.write (ho:=.lst (ws++[u])) (o:=.lst (xs++[y])) hn2 ⟨_,Bj,(rr.append (.cons r2 .nil)).mono le⟩;exact ⟨a,ws,u,rfl,rfl,e3,by rw [<-rr.length];exact hz,hm ρ2 _ _ (l1.trans (l2.trans l3)) s3 .non⟩
   ·exact hm.elim
  ·exact hm.elim
 ·exact hm.elim
end
def EY {κ β:Type} [DecidableEq κ] (kvs:List (κ×β)) (k:κ):Option β:=(kvs.find? λkv=>decide (kv.1=k)).map (·.2)
def Ij {κ β:Type} [DecidableEq κ] (kvs:List (κ×β)) (k:κ) (v:β):List (κ×β):=
 if (kvs.any λkv=>decide (kv.1=k))=true then kvs.map (λkv=>if kv.1=k then (kv.1,v) else kv) else kvs++[(k,v)]
section
variable {κ:Type} [DecidableEq κ] {K:AA} {ρ:List AK} {H:Hp}
theorem KVR.val (k:κ):∀ {x:List (κ×D)} {y:List (κ×V)},KVR K ρ H x y->(EY x k=none->KJ y k=none)/\∀d,EY x k=some d->∃v,KJ y k=some v/\Bv K ρ H d v
 | _,_,.nil=>⟨λ_=>rfl,λd h=>by cases h⟩
 | (g,a) :: x,(g',b) :: y,.cons r t=>by
  obtain ⟨r1,r2⟩:=r;dsimp only at r1 r2;subst r1;unfold EY KJ;rw [BY,BY]
  by_cases e:g=k
  ·simp only [e,decide_true]
   exact ⟨(λh=>nomatch h),(λd h=>by cases h;exact ⟨b,rfl,r2⟩)⟩
  ·simp only [e,decide_false]
   exact KVR.val k t
theorem KVR.any (k:κ):∀ {x:List (κ×D)} {y:List (κ×V)},KVR K ρ H x y->(x.any λkv=>decide (kv.1=k))=y.any λkv=>decide (kv.1=k)
 | _,_,.nil=>rfl
 | (g,a) :: x,(g',b) :: y,.cons r t=>by
  rw [HC,HC,KVR.any k t,show g=g' from r.1]
theorem KVR.repl (k:κ) {d:D} {v:V} (rd:Bv K ρ H d v):∀ {x:List (κ×D)} {y:List (κ×V)},KVR K ρ H x y->KVR K ρ H (x.map λkv=>if kv.1=k then (kv.1,d) else kv) (y.map λkv=>if kv.1=k then (kv.1,v) else kv)
 | _,_,.nil=>.nil
 | (g,a) :: x,(g',b) :: y,.cons r t=>by
  obtain ⟨r1,r2⟩:=r;dsimp only at r1 r2;subst r1;rw [A5,A5];refine .cons ?_ (KVR.repl k rd t)
  by_cases e:g=k
  ·rw [qX e,qX e];exact ⟨rfl,rd⟩
  ·rw [qY e,qY e];exact ⟨rfl,r2⟩
theorem KVR.put (k:κ) {d:D} {v:V} (rd:Bv K ρ H d v) {x:List (κ×D)} {y:List (κ×V)} (h:KVR K ρ H x y):KVR K ρ H (Ij x k d) (HG y k v):=by
 unfold Ij HG;rw [KVR.any k h];split
 ·exact KVR.repl k rd h
 ·exact Ua h ⟨rfl,rd⟩
end
def bE:D->Option Key
 | .int i=>some (.inl i)
 | .str x=>some (.inr x)
 | _=>none
def T6:List D->Option (List Key)
 | []=>some []
 | d :: ds=>match bE d,T6 ds with
  | some k,some ks=>some (k :: ks)
  | _,_=>none
theorem Oa {K:AA} {ρ:List AK} {H:Hp} {d:D} {v:V} {k:Key} (r:Bv K ρ H d v) (h:bE d=some k):v=kV k:=by
 cases r <;> first | (cases h;done) | (cases h;rfl)
theorem Pm {K:AA} {ρ:List AK} {H:Hp}:∀ {ds:List D} {vs:List V} {ks:List Key},Ay K ρ H ds vs->T6 ds=some ks->vs=ks.map kV
 | _,_,_,.nil,h=>by cases h;rfl
 | _,_,_,.cons r t,h=>by
  unfold T6 at h;split at h
  ·rename_i k ks h1 h2
   cases h;rw [Oa r h1,Pm t h2];rfl
  ·cases h
def NU (x y:D) (S:Sto):Option (Option D):=match x with
 | .ref n=>match S[n]? with
  | some (.dK kvs)=>match bE y with
   | some k=>some (EY kvs k)
   | none=>none
  | some (.dT kvs)=>match y with
   | .tup ds=>match T6 ds with
    | some ks=>some (EY kvs ks)
    | none=>none
   | _=>none
  | _=>none
 | _=>none
theorem SN {K:AA} {ρ:List AK} {S:Sto} {H:Hp} {x y:D} {xv yv:V} {o:Option D} (s:B4 K ρ S H) (rx:Bv K ρ H x xv) (ry:Bv K ρ H y yv) (h:NU x y S=some o) :
  ∃a o',xv=.ref a/\Mr H a yv o'/\(o=none->o'=none)/\∀d,o=some d->∃v,o'=some v/\Bv K ρ H d v:=by
 unfold NU at h;split at h
 ·rename_i n
  cases rx with
  | @ref _ a hn=>
   split at h
   ·rename_i kvs h1
    split at h
    ·rename_i k hk
     cases h;obtain ⟨kvs',e,r⟩:=s.ob n _ _ h1 hn;rw [Oa ry hk];obtain ⟨v1,v2⟩:=KVR.val k r;exact ⟨a,KJ kvs' k,rfl,Mr.k e,v1,v2⟩
    ·cases h
   ·rename_i kvs h1
    split at h
    ·rename_i ds
     split at h
     ·rename_i ks hk
      cases h;obtain ⟨kvs',e,r⟩:=s.ob n _ _ h1 hn
      cases ry with
      | tup b1 b2=>
       obtain ⟨v1,v2⟩:=KVR.val ks r;rw [Pm b2 hk] at b1;exact ⟨a,KJ kvs' ks,rfl,Mr.t e b1,v1,v2⟩
     ·cases h
    ·cases h
   ·cases h
 ·cases h
def LS (x y:D) (S:Sto):Res D:=match NU x y S with
 | some (some d)=>.ok d S
 | _=>.bad
def LC (neg:Bool) (y x:D) (S:Sto):Res D:=match NU x y S with
 | some o=>.ok (.bl (if neg then !o.isSome else o.isSome)) S
 | none=>.bad
section
variable {X:Cx} {E:EW} {o i value:Expr} {pos pos':Pos} {mo mi mv:ME}
theorem fV (hu:X.A.units+1 < Eb) (ho:GE X E o mo) (hi:GE X E i mi) (hs:kN i:=by intro _ _;rfl):GE X E (.Subscript o i pos) (m2 LS mo mi):=(eN hu ho hi hs).imp λσ H Q h=>by
 refine (Lc h:tOp (rD X.K LS) (gE X.K E mo) (gE X.K E mi) σ H Q) |> λt=>?_
 obtain ⟨ρ,l,S,hl,hs,k⟩:=t;refine ⟨ρ,l,S,hl,hs,k.imp λx S1 k ρ1 H1 u l1 s1 r1=>?_⟩;obtain ⟨ρ2,l2,S2,hl2,hs2,k2⟩:=k ρ1 H1 u l1 s1 r1;refine ⟨ρ2,l2,S2,hl2,hs2,k2.imp λy S3 k2 ρ3 H3 v l3 s3 r3=>?_⟩;obtain ⟨ρ4,S4,x4,y4,d,S5,s4,r4,r5,hm,k4⟩:=k2 ρ3 H3 v l3 s3 r3;unfold LS at hm;split at hm
 ·rename_i d' hd
  cases hm;obtain ⟨a,o',rfl,g,_,g2⟩:=SN s4 r4 r5 hd;obtain ⟨w',rfl,rw'⟩:=g2 _ rfl;exact ⟨a,w',rfl,g,k4 ρ4 H3 w' .refl s4 rw'⟩
 ·cases hm
theorem WW {σ:St} {H:Hp} {Q:VK} (h:gE X.K E (m2 (LC false) mi mo) σ H Q):lH (gE X.K E mi) (gE X.K E mo) σ H Q:=by
 obtain ⟨ρ,l,S,hl,hs,k⟩:=(Lc h:tOp (rD X.K (LC false)) (gE X.K E mi) (gE X.K E mo) σ H Q);refine ⟨ρ,l,S,hl,hs,k.imp λx S1 k ρ1 H1 u l1 s1 r1=>?_⟩;obtain ⟨ρ2,l2,S2,hl2,hs2,k2⟩:=k ρ1 H1 u l1 s1 r1;refine ⟨ρ2,l2,S2,hl2,hs2,k2.imp λy S3 k2 ρ3 H3 v l3 s3 r3=>?_⟩;obtain ⟨ρ4,S4,x4,y4,d,S5,s4,r4,r5,hm,k4⟩:=k2 ρ3 H3 v l3 s3 r3;unfold LC at hm;split at hm
 ·rename_i o' hd
  cases hm;obtain ⟨a,o2,rfl,g,g1,g2⟩:=SN s4 r5 r4 hd;refine ⟨a,o2,rfl,g,?_⟩
  have:o2.isSome=o'.isSome:=by
   cases o' with
   | none=>rw [g1 rfl];rfl
   | some d=>obtain ⟨w',rfl,_⟩:=g2 d rfl;rfl
  rw [this];exact k4 ρ4 H3 _ .refl s4 (.bl _)
 ·cases hm
theorem VN {σ:St} {H:Hp} {Q:VK} (h:gE X.K E (m2 (LC true) mi mo) σ H Q):WV (gE X.K E mi) (gE X.K E mo) σ H Q:=by
 obtain ⟨ρ,l,S,hl,hs,k⟩:=(Lc h:tOp (rD X.K (LC true)) (gE X.K E mi) (gE X.K E mo) σ H Q);refine ⟨ρ,l,S,hl,hs,k.imp λx S1 k ρ1 H1 u l1 s1 r1=>?_⟩;obtain ⟨ρ2,l2,S2,hl2,hs2,k2⟩:=k ρ1 H1 u l1 s1 r1;refine ⟨ρ2,l2,S2,hl2,hs2,k2.imp λy S3 k2 ρ3 H3 v l3 s3 r3=>?_⟩;obtain ⟨ρ4,S4,x4,y4,d,S5,s4,r4,r5,hm,k4⟩:=k2 ρ3 H3 v l3 s3 r3;unfold LC at hm;split at hm
 ·rename_i o' hd
  cases hm;obtain ⟨a,o2,rfl,g,g1,g2⟩:=SN s4 r5 r4 hd;refine ⟨a,o2,rfl,g,?_⟩
  have:o2.isSome=o'.isSome:=by
   cases o' with
   | none=>rw [g1 rfl];rfl
   | some d=>obtain ⟨w',rfl,_⟩:=g2 d rfl;rfl
  rw [this];exact k4 ρ4 H3 _ .refl s4 (.bl _)
 ·cases hm
theorem kA (hu:X.A.units+1 < Eb) (hi:GE X E i mi) (ho:GE X E o mo) (h1:CJ .In o=false:=by rfl):GE X E (.Compare i [.In] [o] pos) (m2 (LC false) mi mo):=(jR (aP hu hi ho) h1).imp λ_ _ _ h=>WW h
theorem av {K:AA} {m:ME} {σ:St} {H:Hp} {Q:Bool->Hp->Prop} (h:gT K E (mB m) σ H Q):gE K E m σ H λx H1=>∃c,x=.bl c/\Q c H1:=by
 obtain ⟨ρ,l,S,hl,hs,hm⟩:=h;refine ⟨ρ,l,S,hl,hs,hm.seq λd S1 hm ρ1 H1 x l1 s1 r1=>?_⟩
 cases d <;> first | exact hm.elim | skip
 cases r1;exact ⟨_,rfl,hm ρ1 H1 l1 s1⟩
theorem jv (hu:X.A.units+1 < Eb) (hi:GE X E i mi) (ho:GE X E o mo) (h1:CJ .In o=false:=by rfl):GT X E (.Compare i [.In] [o] pos) (mB (m2 (LC false) mi mo)):=(aC (aP hu hi ho) h1).imp λ_ _ _ h=>WW (av h)
theorem YN (hu:X.A.units+1 < Eb) (hi:GE X E i mi) (ho:GE X E o mo) (h1:CJ .NotIn o=false:=by rfl):GT X E (.Compare i [.NotIn] [o] pos) (mB (m2 (LC true) mi mo)):=(aC (X3 hu hi ho) h1).imp λ_ _ _ h=>VN (av h)
def Ph:ME:=λ_ S=>.ok (.ref S.length) (S++[.dK []])
def au:ME:=λ_ S=>.ok (.ref S.length) (S++[.dT []])
theorem UD:GE X E (.Dict [] [] pos) Ph:=(aO (X:=X) (pos:=pos)).imp λσ H Q ⟨ρ,l,S,hl,hs,k⟩ p hp=>by
 obtain ⟨s2,l2,at2⟩:=hs.alloc (ho:=.dK []) (o:=.dK []) hp ⟨[],Bj,.nil⟩;exact k _ _ _ l2 s2 (.ref at2)
theorem bP:GE X E (.Dict [] [] pos) au:=(aN (X:=X) (pos:=pos)).imp λσ H Q ⟨ρ,l,S,hl,hs,k⟩ p hp=>by
 obtain ⟨s2,l2,at2⟩:=hs.alloc (ho:=.dT []) (o:=.dT []) hp ⟨[],Bj,.nil⟩;exact k _ _ _ l2 s2 (.ref at2)
def Yf (x y v:D) (S:Sto):Option Sto:=match x with
 | .ref n=>match S[n]? with
  | some (.dK kvs)=>match bE y with
   | some k=>if kvs.length < sizeLine then some (S.set n (.dK (Ij kvs k v))) else none
   | none=>none
  | some (.dT kvs)=>match y with
   | .tup ds=>match T6 ds with
    | some ks=>if kvs.length < sizeLine then some (S.set n (.dT (Ij kvs ks v))) else none
    | none=>none
   | _=>none
  | _=>none
 | _=>none
def Ii (mo mi mv:ME):MS:=λe S=>(mv e S).lift e λv S1=>(mo e S1).lift e λx S2=>(mi e S2).lift e λy S3=>match Yf x y v S3 with
 | some S4=>.ok (.nx e) S4
 | none=>.bad
theorem Wt (hu:X.A.units+1 < Eb) (ho:GE X E o mo) (hi:GE X E i mi) (hv:GE X E value mv) (hs:Fo value (some (.Subscript o i pos')) pos.line X.env=pure false:=by rfl):GS X E (.Assign [.Subscript o i pos'] value pos) (Ii mo mi mv):=(dv hu ho hi hv hs).imp λD σ H ⟨ρ,l,S,hl,hs,hm⟩=>by
 refine ⟨ρ,l,S,hl,hs,hm.lift hl .refl λv S1 hm ρ1 H1 vv l1 s1 r1=>⟨ρ1,l,S1,hl.mono l1,s1,(hm.later l1).lift (hl.mono l1) l1 λx S2 hm ρ2 H2 xv l2 s2 r2=>⟨ρ2,l,S2,hl.mono (l1.trans l2),s2,(hm.later l2).lift (hl.mono (l1.trans l2)) (l1.trans l2) λy S3 hm ρ3 H3 yv l3 s3 r3=>?_⟩⟩⟩;have r1':=r1.mono (l2.trans l3);have r2':=r2.mono l3;have hl3:=hl.mono (l1.trans (l2.trans l3));split at hm
 ·rename_i S4 hp
  unfold Yf at hp;split at hp
  ·rename_i n
   cases r2' with
   | @ref _ a hn=>
    split at hp
    ·rename_i kvs h4
     split at hp
     ·rename_i ky hk
      split at hp
      ·rename_i hz
       cases hp;obtain ⟨kvs',e,r⟩:=s3.ob n _ _ h4 hn;rw [Oa r3 hk];have le:Le X.K ρ3 H3 ρ3 (upd H3 a (.dK (HG kvs' ky vv))):=Le.write hn (by rw [e];trivial);obtain ⟨s5,l5⟩:=s3.write (ho:=.dK (HG kvs' ky vv)) (o:=.dK (Ij kvs ky v)) hn ⟨_,Bj,(KVR.put ky r1' r).mono le⟩;exact ⟨a,_,rfl,UW.k e (by rw [<-KVR.length r];exact hz),hm ρ3 _ σ (l1.trans (l2.trans (l3.trans l5))) s5 (hl3.mono l5)⟩
      ·cases hp
     ·cases hp
    ·rename_i kvs h4
     split at hp
     ·rename_i ds
      split at hp
      ·rename_i ks hk
       split at hp
       ·rename_i hz
        cases hp;obtain ⟨kvs',e,r⟩:=s3.ob n _ _ h4 hn
        cases r3 with
        | tup b1 b2=>
         rw [Pm b2 hk] at b1;have le:Le X.K ρ3 H3 ρ3 (upd H3 a (.dT (HG kvs' ks vv))):=Le.write hn (by rw [e];trivial);obtain ⟨s5,l5⟩:=s3.write (ho:=.dT (HG kvs' ks vv)) (o:=.dT (Ij kvs ks v)) hn ⟨_,Bj,(KVR.put ks r1' r).mono le⟩;exact ⟨a,_,rfl,UW.t e b1 (by rw [<-KVR.length r];exact hz),hm ρ3 _ σ (l1.trans (l2.trans (l3.trans l5))) s5 (hl3.mono l5)⟩
       ·cases hp
      ·cases hp
     ·cases hp
    ·cases hp
  ·cases hp
 ·exact hm.elim
end
section
variable {X:Cx} {E:EW} {a b c:Expr} {pos:Pos} {ma mb mc:ME}
theorem Xl {K:AA} {f g:D->D->Sto->Res D} {σ:St} {H:Hp} {Q:VK} (h:gE K E (m3 f g ma mb mc) σ H Q):Zq (rD K f) (rD K g) (gE K E ma) (gE K E mb) (gE K E mc) σ H Q:=by
 obtain ⟨ρ,l,S,hl,hs,hm⟩:=h;refine ⟨ρ,l,S,hl,hs,hm.seq λx S1 hm ρ1 H1 u l1 s1 r1=>⟨ρ1,l,S1,hl.mono l1,s1,(hm.later l1).seq λy S2 hm ρ2 H2 v l2 s2 r2=>?_⟩⟩
 cases hf:f x y S2 with
 | bad=>rw [hf] at hm;exact hm.elim
 | err _ _=>rw [hf] at hm;exact hm.elim
 | ok z S3=>
  rw [hf] at hm;dsimp only [okR,Res.bind] at hm;refine ⟨ρ2,S2,x,y,z,S3,s2,r1.mono l2,r2,hf,λρ3 H3 w l3 s3 r3=>?_⟩
  cases z with
  | bl k=>
   cases r3;refine ⟨k,rfl,?_⟩
   cases k with
   | true=>
    rw [qX rfl];refine ⟨ρ3,l,S3,hl.mono (l1.trans (l2.trans l3)),s3,Bz.seq (hm.later (l2.trans l3)) λw S4 hm ρ4 H4 wv l4 s4 r4=>?_⟩;obtain ⟨d,S',e,k⟩:=hm.okR;exact ⟨ρ4,S4,y,w,d,S',s4,r2.mono (l3.trans l4),r4,e,λρ' H' z l' s' r'=>k ρ' H' z (l1.trans (l2.trans (l3.trans (l4.trans l')))) s' r'⟩
   | false=>rw [qY AR];exact hm ρ3 H3 _ (l1.trans (l2.trans l3)) s3 (.bl false)
  | _=>exact hm.elim
theorem Ps {op op':Sr} {f g:D->D->Sto->Res D} (ho:OpR X (Bp op) (rD X.K f)) (ho':OpR X (Bp op') (rD X.K g)) (ha:GE X E a ma) (hb:GE X E b mb) (hc:GE X E c mc)
  (hm:lastMarks [op,op'] [b,c]=false:=by with_unfolding_all rfl):GT X E (.Compare a [op,op'] [b,c] pos) (mB (m3 f g ma mb mc)):=(aD ho ho' ha hb hc hm).imp λ_ _ _ h=>Xl (av h)
def T0 (m:ME):ME:=λe S=>(m e S).bind λd S1=>match d with
 | .int i=>.ok (.int (-i)) S1
 | _=>.bad
theorem SM (h:GE X E a ma):GE X E (.UnaryOp .USub a pos) (T0 ma):=(lV iW h).imp λσ H Q ⟨ρ,l,S,hl,hs,hm⟩=>by
 refine ⟨ρ,l,S,hl,hs,hm.seq λd S1 hm ρ1 H1 x l1 s1 r1=>?_⟩
 cases d <;> first | exact hm.elim | skip
 cases r1;exact ⟨_,rfl,hm ρ1 H1 _ l1 s1 (.int _)⟩
end
abbrev MO:=Lo->Sto->Res (Option Int)
def gO (K:AA) (E:EW) (m:MO):TO:=λσ H Q=>∃ρ e S,FB K ρ H e σ/\B4 K ρ S H/\Bz K (λc=>E c σ) ρ H (m e S) λo S'=>∀ρ' H',Le K ρ H ρ' H'->B4 K ρ' S' H'->Q o H'
abbrev GO (X:Cx) (E:EW) (e:Option Expr) (m:MO):Prop:=PO X e (gO X.K E m)
def PX:MO:=λ_ S=>.ok none S
def KP (m:ME):MO:=λe S=>(m e S).bind λd S1=>match d with
 | .int i=>.ok (some i) S1
 | _=>.bad
def LD {α:Type} (xs:List α) (lo hi:Option Int):List α:=(xs.drop (HT.sIx xs.length 0 lo)).take (HT.sIx xs.length xs.length hi - HT.sIx xs.length 0 lo)
def ZQ (n:Nat) (lo hi:Option Int):Bool:=decide (HT.sIx n 0 lo=0/\HT.sIx n n hi=n)
def Rw (d:D) (lo hi:Option Int) (S:Sto):Res D:=match d with
 | .tup ds=>if ZQ ds.length lo hi=true then .bad else .ok (.tup (LD ds lo hi)) S
 | _=>match J4 d S with
  | some ds=>.ok (.ref S.length) (S++[.lst (LD ds lo hi)])
  | none=>.bad
def Pd (m:ME) (ml mh:MO):ME:=λe S=>(m e S).bind λd S1=>(ml e S1).bind λlo S2=>(mh e S2).bind λhi S3=>okR (Rw d lo hi S3)
section
variable {X:Cx} {E:EW} {e:Expr} {lo hi:Option Expr} {pos p2:Pos} {m:ME} {ml mh:MO}
theorem PO.imp {o:Option Expr} {t t':TO} (h:PO X o t) (i:∀σ H Q,t' σ H Q->t σ H Q):PO X o t':=λpins s σ H Q I q=>h pins s σ H Q I (i σ H Q q)
theorem SJ:GO X E none PX:=PO.imp d6 λσ H Q ⟨ρ,l,S,hl,hs,hm⟩=>hm ρ H .refl hs
theorem Od (h:GE X E e m):GO X E (some e) (KP m):=PO.imp (dz h) λσ H Q ⟨ρ,l,S,hl,hs,hm⟩=>by
 refine ⟨ρ,l,S,hl,hs,hm.seq λd S1 hm ρ1 H1 x l1 s1 r1=>?_⟩
 cases d <;> first | exact hm.elim | skip
 cases r1;exact ⟨_,rfl,hm ρ1 H1 l1 s1⟩
theorem UM {K:AA} {ρ:List AK} {H:Hp} {ds:List D} {vs:List V} (r:Ay K ρ H ds vs) (lo hi:Option Int):Ay K ρ H (LD ds lo hi) (P7 vs lo hi):=by
 unfold LD P7;rw [r.length];exact (r.drop _).take _
theorem UB (he:GE X E e m) (hl:GO X E lo ml) (hu:GO X E hi mh):GE X E (.Subscript e (.Slice lo hi none p2) pos) (Pd m ml mh):=(aM (dY.or io) he hl hu).imp λσ H Q ⟨ρ,l,S,hl,hs,hm⟩=>by
 refine ⟨ρ,l,S,hl,hs,hm.seq λd S1 hm ρ1 H1 x l1 s1 r1=>⟨ρ1,l,S1,hl.mono l1,s1,(hm.later l1).seq λlo S2 hm ρ2 H2 l2 s2=>⟨ρ2,l,S2,hl.mono (l1.trans l2),s2,(hm.later l2).seq λhi S3 hm ρ3 H3 l3 s3=>?_⟩⟩⟩;obtain ⟨d',S',e,k⟩:=hm.okR;have r3:=r1.mono (l2.trans l3)
 have lst:∀ds,J4 d S3=some ds->Res.ok (.ref S3.length) (S3++[.lst (LD ds lo hi)])=Res.ok d' S'->lP X.K x lo hi H3 Q:=λds hq e=>by
  cases e;obtain ⟨p,xs,rfl,rr,sq⟩:=IY s3 r3 hq;refine ⟨p,xs,rfl,sq,λq hq=>?_⟩;have le:Le X.K ρ3 H3 (ρ3++[q]) (upd H3 q (.lst (P7 xs lo hi))):=Le.alloc hq;obtain ⟨s4,l4,at4⟩:=s3.alloc (ho:=.lst (P7 xs lo hi)) (o:=.lst (LD ds lo hi)) hq ⟨_,Bj,(UM rr lo hi).mono le⟩;exact k _ _ _ (l1.trans (l2.trans (l3.trans l4))) s4 (.ref at4)
 cases d with
 | tup ds=>
  unfold Rw at e;dsimp only at e;split at e
  ·cases e
  ·rename_i hw
   cases e
   cases r3 with
   | @tup _ a vs h1 h2=>
    refine .inr ⟨a,vs,rfl,.inl (.inl h1),λz=>hw ?_,λq hq=>?_⟩
    ·unfold ZQ
     rw [h2.length];exact wX z
    ·obtain ⟨s4,l4⟩:=HY (ho:=.tup (P7 vs lo hi)) s3 hq
     exact k _ _ _ (l1.trans (l2.trans (l3.trans l4))) s4 (.tup Bj ((UM h2 lo hi).mono l4))
 | non=>cases e
 | bl _=>cases e
 | int _=>cases e
 | str _=>cases e
 | exc _=>cases e
 | fro ds=>exact .inl (lst ds rfl e)
 | ref n=>
  unfold Rw at e;dsimp only at e;split at e
  ·rename_i ds hq
   exact .inl (lst ds hq e)
  ·cases e
end
section
variable {X:Cx} {E:EW} {e:Expr} {p pos:Pos} {m:ME} {ml:ML}
def Gn (m:ME):ME:=λe S=>(m e S).bind λd S1=>match Fy d S1 with
 | some ds=>.ok (.tup ds) S1
 | none=>.bad
theorem JS (hg:Gl X "tuple") (hm:X.mg "tuple" = none) (h:GE X E e m) (he:AS [e] X.env=(false,Bm e X.env) :: AS [] X.env:=by rfl):GE X E (.Call (.Name "tuple" p) [e] [] pos) (Gn m):=
 (Q6 Ql hg hm N5 (Ez h HH he) (by decide) (by decide) he rfl).imp λσ H Q ⟨ρ,l,S,hl,hs,hm⟩=>by
 refine ⟨ρ,l,S,hl,hs,hm.seq λd S1 hm ρ1 H1 x l1 s1 r1=>?_⟩
 cases hq:Fy d S1 with
 | none=>rw [hq] at hm;exact hm.elim
 | some ds=>
  rw [hq] at hm
  have newL:∀a vs,x=.ref a->SqL X.K H1 a vs->Ay X.K ρ1 H1 ds vs->∃p ys,[x]=[.ref p]/\((SqL X.K H1 p ys/\∀l,H1 l=none->Q (.ref l) (upd H1 l (.tup ys)))∨(SqT X.K H1 p ys/\Q (.ref p) H1)):=λa vs e sq rr=>by
   subst e;refine ⟨a,vs,rfl,.inl ⟨sq,λq hq=>?_⟩⟩;obtain ⟨s2,l2⟩:=HY (ho:=.tup vs) s1 hq;exact hm _ _ _ (l1.trans l2) s2 (.tup Bj (rr.mono l2))
  cases r1 with
  | @tup _ a vs h1 h2=>cases hq;exact ⟨a,vs,rfl,.inr ⟨.inl (.inl h1),hm ρ1 H1 _ l1 s1 (.tup h1 h2)⟩⟩
  | @fro _ a vs h1 h2=>cases hq;exact newL a vs rfl h1.sq h2
  | @ref n a hn=>
   obtain ⟨o,ho,ro⟩:=s1.there hn;unfold Fy at hq;simp only [ho] at hq
   cases o with
   | lst es=>cases hq;obtain ⟨vs,e,rr⟩:=ro;exact newL a vs rfl (.inl (.inl e)) rr
   | _=>cases hq
  | _=>cases hq
variable {o:Expr} {apos cpos:Pos} {mo ma:ME}
def atL (d:D) (S:Sto):Option (Nat×List D):=match d with
 | .ref n=>match S[n]? with
  | some (.lst xs)=>some (n,xs)
  | _=>none
 | _=>none
theorem SY {K:AA} {ρ:List AK} {S:Sto} {H:Hp} {d:D} {x:V} {n:Nat} {xs:List D} (s:B4 K ρ S H) (r:Bv K ρ H d x) (h:atL d S=some (n,xs)):d=.ref n/\S[n]?=some (.lst xs)/\∃a vs,x=.ref a/\ρ[n]?=some a/\H a=some (.lst vs)/\Ay K ρ H xs vs:=by
 unfold atL at h;split at h
 ·split at h
  ·rename_i ds hd
   cases h;exact ⟨rfl,hd,Wa s r hd⟩
  ·cases h
 ·cases h
theorem We {K:AA} {ρ:List AK} {S:Sto} {H:Hp} {n:Nat} {a:AK} {vs ws:List V} {ys:List D} (s:B4 K ρ S H) (hn:ρ[n]?=some a) (e:H a=some (.lst vs)) (r:Ay K ρ H ys ws) :
  B4 K ρ (S.set n (.lst ys)) (upd H a (.lst ws))/\Le K ρ H ρ (upd H a (.lst ws)):=by
 have le:Le K ρ H ρ (upd H a (.lst ws)):=Le.write hn (by rw [e];trivial);exact s.write (ho:=.lst ws) (o:=.lst ys) hn ⟨_,Bj,r.mono le⟩
def am (mo:ME):ME:=λe S=>(mo e S).bind λd S1=>match atL d S1 with
 | some (n,xs)=>.ok .non (S1.set n (.lst xs.reverse))
 | none=>.bad
theorem Vv (ho:GE X E o mo) (hbase:EC o "reverse" X.env (Bm o X.env)=Bm o X.env:=by rfl) (hline:(apos.endLine==cpos.line)=true:=by rfl) :
  GE X E (.Call (.Attribute o "reverse" apos) [] [] cpos) (am mo):=(jS Iz PySem.F.slot_list_reverse PySem.F.type_list_reverse Vi ho hbase hline).imp λσ H Q ⟨ρ,l,S,hl,hs,hm⟩=>by
 refine ⟨ρ,l,S,hl,hs,hm.seq λd S1 hm ρ1 H1 v l1 s1 r1=>?_⟩
 cases hq:atL d S1 with
 | none=>rw [hq] at hm;exact hm.elim
 | some z=>
  obtain ⟨n,xs⟩:=z;rw [hq] at hm;obtain ⟨rfl,h0,a,vs,rfl,hn,e,rr⟩:=SY s1 r1 hq;obtain ⟨s2,l2⟩:=We s1 hn e rr.reverse;exact ⟨.inl ⟨rfl,vs,.inl (.inl e)⟩,a,vs,rfl,rfl,e,hm ρ1 _ _ (l1.trans l2) s2 .non⟩
end
section
variable {X:Cx} {E:EW}
theorem range_getD {α:Type} (d:α) (bs:List α):(AT bs.length).map (λi=>bs.getD i d)=bs:=by
 apply Eh
 intro i;rw [AX]
 by_cases h:i < bs.length
 ·rw [Bg h]
  simp [cK,h]
 ·rw [Bh.mpr (by simpa using h),Bh.mpr (by simpa using h)]
  rfl
theorem dM {bs:List Bool} {its:List AD} (r:Bd (bs.map V.bl) its) {i:Nat} {v:AD} (h:its.toArray[i]?=some v):v=.bool (bs.getD i false):=by
 have h':its[i]?=some v:=by simpa using h
 obtain ⟨hi,e⟩:=AF.mp h'
 have hb:i < bs.length:=by have:=r.length;simp at this;lia
 obtain ⟨u,hu,ru⟩:=r.get (show (bs.map V.bl)[i]?=some (V.bl bs[i]) by simp [hb]);rw [h'] at hu;cases hu;rw [show v=L8 bs[i] from ru];simp [cK,hb]
def VX (K:AA) (f:List Bool->Bool):List V->Hp->VK->Prop:=λxs H Q=>∃p bs,xs=[.ref p]/\(SqL K H p (bs.map V.bl)∨SqT K H p (bs.map V.bl))/\Q (.bl (f bs)) H
theorem QB {pins:List (AK×Obj)} {s:AG} {σ:St} {H:Hp} {p:AK} {bs:List Bool} {R:AD->AG->Prop} {E:AD->AG->Prop} (hc:X.calm=true) (I:Inv X pins σ H s) (hq:SqL X.K H p (bs.map V.bl)∨SqT X.K H p (bs.map V.bl))
  (h:∀itv s2,(∃I fp wr n P St tr,itv=A0 I/\Walks X.prog X.w X.A.in1 I fp wr n P St/\St 0 s2.heap/\TruthOf X.prog X.w X.A.in1 P tr/\(AT n).map tr=bs /\
   ∀(h':Bq) (tk:Nat),(∀b o,¬b∈wr->s2.heap.get? b=some o->h'.get? b=some o)->Inv X pins σ H { s2 with heap:=h',toks:=tk })->R itv s2) :
  Al (AZ X.prog X.w) X.A.in1 (ZC (.ref p)) R E s:=by
 have hh:X.A.in1.handled=none:=I.ok.hd hc
 have fin:∀(its:List AD),Bd (bs.map V.bl) its->(AT its.toArray.size).map (λi=>bs.getD i false)=bs:=λits r=>by
  have:its.toArray.size=bs.length:=by have:=r.length;simp at this;simpa using this.symm
  rw [this,range_getD]
 have tru:∀(its:List AD),Bd (bs.map V.bl) its->TruthOf X.prog X.w X.A.in1 (λi v=>its.toArray[i]?=some v) (λi=>bs.getD i false):=λits r i v s Q E hv q=>by
  rw [dM r hv];exact CT q
 have kp:∀(ob:Obj) (h':Bq) (tk:Nat),(∀b o,¬b∈[s.heap.objs.size]->(s.heap.push ob).get? b=some o->h'.get? b=some o)->Inv X pins σ H { s with heap:=h',toks:=tk }:=λob h' tk k=>
  I.kept λb o e=>k b o (by simpa using Ak (Ab e)) (AI _ e)
 rcases hq with hq | hq
 ·obtain ⟨its,r',pl,hz⟩:=I.list hq
  refine QK pl.isList (h _ _ ⟨s.heap.objs.size,_,_,_,_,_,_,rfl,kj hh _ p (Ak (Ab pl.isList.choose_spec.1)) its.toArray,⟨⟨_,Ah _ rfl,rfl,rfl⟩,?_⟩,tru its r',fin its r',kp _⟩)
  exact pl.isList.at λo e=>AI _ e
 ·obtain ⟨its,r',pl,hz⟩:=I.tuple hq
  have pt:s.heap.IsTuple p its.toArray:=pl;refine Dg pt (h _ _ ⟨s.heap.objs.size,_,_,_,_,_,_,rfl,Uq hh _ p (Ak pl.lt) its.toArray,⟨⟨_,Ah _ rfl,rfl,rfl⟩,?_⟩,tru its r',fin its r',kp _⟩);obtain ⟨o,e,c⟩:=pt;exact ⟨o,AI _ e,c⟩
theorem Yn (hc:X.calm=true):HV X (.builtin "all") (VX X.K λbs=>bs.all id):=by
 intro pins s σ H xs us Q I r h;obtain ⟨p,bs,rfl,hq,q⟩:=h;obtain ⟨u,rfl,rx⟩:=vals1 r;cases rx;refine call_all_walk (QB hc I hq λitv s2 ⟨J,fp,wr,n,P,St,tr,e,W,st,tru,eb,kp⟩=>⟨J,fp,wr,n,P,St,tr,e,W,st,tru,λh' tk k=>⟨.bl _,H,kp h' tk k,rfl,?_⟩⟩);rw [<-eb] at q;dsimp only at q;rw [Ue] at q;exact q
theorem Ym (hc:X.calm=true):HV X (.builtin "any") (VX X.K λbs=>bs.any id):=by
 intro pins s σ H xs us Q I r h;obtain ⟨p,bs,rfl,hq,q⟩:=h;obtain ⟨u,rfl,rx⟩:=vals1 r;cases rx;refine call_any_walk (QB hc I hq λitv s2 ⟨J,fp,wr,n,P,St,tr,e,W,st,tru,eb,kp⟩=>⟨J,fp,wr,n,P,St,tr,e,W,st,tru,λh' tk k=>⟨.bl _,H,kp h' tk k,rfl,?_⟩⟩);rw [<-eb] at q;dsimp only at q;rw [List.any_map] at q;exact q
def V4:List D->Option (List Bool)
 | []=>some []
 | .bl b :: ds=>(V4 ds).map (b :: ·)
 | _ :: _=>none
theorem XA {K:AA} {ρ:List AK} {H:Hp}:∀ {ds:List D} {vs:List V} {bs:List Bool},Ay K ρ H ds vs->V4 ds=some bs->vs=bs.map V.bl
 | _,_,_,.nil,h=>by cases h;rfl
 | .bl b :: ds,_,bs,.cons r t,h=>by
  unfold V4 at h
  cases hq:V4 ds with
  | none=>rw [hq] at h;cases h
  | some cs=>rw [hq] at h;cases h;cases r;rw [XA t hq];rfl
 | .non :: _,_,_,.cons r t,h=>by cases h
 | .int _ :: _,_,_,.cons r t,h=>by cases h
 | .str _ :: _,_,_,.cons r t,h=>by cases h
 | .tup _ :: _,_,_,.cons r t,h=>by cases h
 | .fro _ :: _,_,_,.cons r t,h=>by cases h
 | .ref _ :: _,_,_,.cons r t,h=>by cases h
 | .exc _ :: _,_,_,.cons r t,h=>by cases h
def Yo (f:List Bool->Bool) (ds:List D) (S:Sto):Res D:=match V4 ds with
 | some bs=>.ok (.bl (f bs)) S
 | none=>.bad
theorem Tc {f:List Bool->Bool}:gC X.K (VX X.K f) (Yo f):=λρ H S ds q xs d S' Q hs rr sq hm k=>by
 unfold Yo at hm;split at hm
 ·rename_i bs hb
  cases hm;rw [XA rr hb] at sq;exact ⟨q,bs,rfl,sq,k ρ H _ .refl hs (.bl _)⟩
 ·cases hm
abbrev Yq:=Yo λbs=>bs.all id
abbrev fw:=Yo λbs=>bs.any id
def dU:List Int->Int:=λns=>hG (λi=>ns.getD i 0) ns.length
theorem MU {f g:Nat->Int}:∀(n:Nat),(∀i,i < n->f i=g i)->hG f n=hG g n
 | 0,_=>rfl
 | n+1,h=>by
  show hG f n+f n=hG g n+g n;rw [MU n λi hi=>h i (by lia),h n (by lia)]
theorem Qk {ns:List Int} {its:List AD} (r:Bd (ns.map V.int) its):∃xs:Array (Int×Tok),its.toArray=intItems xs/\xs.size=ns.length/\∀i,i < ns.length->numAt xs i=ns.getD i 0:=by
 induction ns generalizing its with
 | nil=>
  cases r;exact ⟨#[],by simp [intItems],rfl,λi hi=>zX hi (by simp)⟩
 | cons n ns ih=>
  cases r with
  | cons r1 r2=>
   obtain ⟨xs,e1,e2,e3⟩:=ih r2;obtain ⟨t,rfl⟩:=r1;refine ⟨#[(n,t)]++xs,?_,by simp [e2];lia,λi hi=>?_⟩
   ·unfold intItems at e1 ⊢
    rw [Array.map_append,<-e1];simp
   ·cases i with
    | zero=>
     unfold numAt;rw [Array.getElem?_append_left (by simp)];simp
    | succ i=>
     have:=e3 i (by simpa using hi);unfold numAt at this ⊢;rw [Array.getElem?_append_right (by simp)];simpa using this
def lQ (K:AA) (f:List Int->Int):List V->Hp->VK->Prop:=λxs H Q=>∃p ns,xs=[.ref p]/\SqL K H p (ns.map V.int)/\Q (.int (f ns)) H
theorem Yh (hc:X.calm=true):HV X (.builtin "sum") (lQ X.K dU):=by
 intro pins s σ H xs us Q I r h;obtain ⟨p,ns,rfl,hq,q⟩:=h;obtain ⟨u,rfl,rx⟩:=vals1 r;cases rx;obtain ⟨its,r',pl,hz⟩:=I.list hq;obtain ⟨xs,e1,e2,e3⟩:=Qk r'
 refine sum_intListG (xs:=xs) (I.ok.hd hc) (by rw [<-e1];exact pl.isList) λh' tk t' kp=>⟨.int _,H,I.kept kp,⟨t',rfl⟩,?_⟩
 rw [e2,MU _ e3];exact q
def G7:List D->Option (List Int)
 | []=>some []
 | .int b :: ds=>(G7 ds).map (b :: ·)
 | _ :: _=>none
theorem JQ:∀ {ds:List D} {ns:List Int},G7 ds=some ns->ds=ns.map D.int
 | [],_,h=>by cases h;rfl
 | .int b :: ds,ns,h=>by
  unfold G7 at h
  cases hq:G7 ds with
  | none=>rw [hq] at h;cases h
  | some cs=>rw [hq] at h;cases h;rw [JQ hq];rfl
 | .non :: _,_,h=>by cases h
 | .bl _ :: _,_,h=>by cases h
 | .str _ :: _,_,h=>by cases h
 | .tup _ :: _,_,h=>by cases h
 | .fro _ :: _,_,h=>by cases h
 | .ref _ :: _,_,h=>by cases h
 | .exc _ :: _,_,h=>by cases h
def Vl (m:ME):ME:=λe S=>(m e S).bind λd S1=>match J4 d S1 with
 | some ds=>match G7 ds with
  | some ns=>.ok (.int (dU ns)) S1
  | none=>.bad
 | none=>.bad
variable {e:Expr} {m:ME} {ml:ML} {p pos:Pos}
theorem j7 (hc:X.calm=true) (hg:Gl X "sum") (hm:X.mg "sum" = none) (h:GE X E e m) (he:AS [e] X.env=(false,Bm e X.env) :: AS [] X.env:=by rfl):GE X E (.Call (.Name "sum" p) [e] [] pos) (Vl m):=
 (KL (Yh hc) hg hm nA (Ez h HH he) (by decide) (by decide) he rfl).imp λσ H Q ⟨ρ,l,S,hl,hs,hm⟩=>by
 refine ⟨ρ,l,S,hl,hs,hm.seq λd S1 hm ρ1 H1 x l1 s1 r1=>?_⟩
 cases hq:J4 d S1 with
 | none=>rw [hq] at hm;exact hm.elim
 | some ds=>
  rw [hq] at hm;dsimp only at hm
  cases hi:G7 ds with
  | none=>rw [hi] at hm;exact hm.elim
  | some ns=>
   rw [hi] at hm;obtain ⟨p,xs,rfl,rr,sq⟩:=IY s1 r1 hq;rw [JQ hi] at rr;rw [rr.ints] at sq;exact ⟨p,ns,rfl,sq,hm ρ1 H1 _ l1 s1 (.int _)⟩
def tyD (d:D) (S:Sto):Option String:=match d with
 | .non=>some "NoneType"
 | .bl _=>some "bool"
 | .int _=>some "int"
 | .str _=>some "str"
 | .tup _=>some "tuple"
 | .ref n=>match S[n]? with
  | some (.lst _)=>some "list"
  | some (.dK _)=>some "dict"
  | some (.dT _)=>some "dict"
  | _=>none
 | .fro _=>none
 | .exc _=>none
theorem iX {K:AA} {ρ:List AK} {S:Sto} {H:Hp} {d:D} {x:V} {T:String} (s:B4 K ρ S H) (r:Bv K ρ H d x) (h:tyD d S=some T):Mp K H x (.type T):=by
 cases r with
 | non=>cases h;exact .non
 | bl b=>cases h;exact .bl b
 | int i=>cases h;exact .int i
 | str i=>cases h;exact .str i
 | tup h1 _=>cases h;exact .tup h1
 | fro _ _=>cases h
 | exc _ _=>cases h
 | @ref n a hn=>
  obtain ⟨o,ho,ro⟩:=s.there hn;unfold tyD at h;simp only [ho] at h
  cases o with
  | lst es=>cases h;obtain ⟨vs,e,rr⟩:=ro;exact .lst e
  | dK es=>cases h;obtain ⟨vs,e,rr⟩:=ro;exact .dK e
  | dT es=>cases h;obtain ⟨vs,e,rr⟩:=ro;exact .dT e
  | ins _ _=>cases h
def gr (c T:String):Option Bool:=if T==c then some true else if T=="bool"&&c=="int" then some true else if ["NoneType", "bool", "int", "str", "tuple", "list", "dict"].contains T&&["bool", "int", "str", "tuple", "list", "dict"].contains c then some false else none
end
def FW {α:Type} (r r':Res α):Res α:=match r with
 | .bad=>r'
 | r=>r
theorem X5 {α:Type} (r r':Res α):FW r r'=r∨FW r r'=r':=by cases r <;> simp [FW]
def op2 (f g:D->D->Sto->Res D):D->D->Sto->Res D:=λx y S=>FW (f x y S) (g x y S)
theorem Wp (f g:D->D->Sto->Res D) (ma mb:ME) (l:Lo) (S:Sto):m2 (op2 f g) ma mb l S=m2 f ma mb l S∨m2 (op2 f g) ma mb l S=m2 g ma mb l S:=by
 unfold m2
 cases ma l S with
 | ok x S1=>
  dsimp only [Res.bind]
  cases mb l S1 with
  | ok y S2=>
   dsimp only [Res.bind];unfold op2
   rcases X5 (f x y S2) (g x y S2) with e | e <;> rw [e] <;> simp
  | err c S2=>exact .inl rfl
  | bad=>exact .inl rfl
 | err c S1=>exact .inl rfl
 | bad=>exact .inl rfl
section
variable {X:Cx} {E:EW} {e o i:Expr} {pos:Pos} {m m1 m2':ME}
theorem bS {m m1 m2:ME} (h1:GE X E e m1) (h2:GE X E e m2) (h:∀l S,m l S=m1 l S∨m l S=m2 l S):GE X E e m:=λpins s σ H Q I ⟨ρ,l,S,hl,hs,a⟩=>by
 rcases h l S with q | q
 ·rw [q] at a;exact h1 pins s σ H Q I ⟨ρ,l,S,hl,hs,a⟩
 ·rw [q] at a;exact h2 pins s σ H Q I ⟨ρ,l,S,hl,hs,a⟩
theorem bN {t t1 t2:MT} (h1:GT X E e t1) (h2:GT X E e t2) (h:∀l S,t l S=t1 l S∨t l S=t2 l S):GT X E e t:=λpins s σ H Q I ⟨ρ,l,S,hl,hs,a⟩=>by
 rcases h l S with q | q
 ·rw [q] at a;exact h1 pins s σ H Q I ⟨ρ,l,S,hl,hs,a⟩
 ·rw [q] at a;exact h2 pins s σ H Q I ⟨ρ,l,S,hl,hs,a⟩
theorem j6 {tg:Expr} {t t1 t2:MI} (h1:GI X E tg e t1) (h2:GI X E tg e t2) (h:∀l S,t l S=t1 l S∨t l S=t2 l S):GI X E tg e t:=λpins s σ H R I ⟨ρ,l,S,hl,hs,a⟩=>by
 rcases h l S with q | q
 ·rw [q] at a;exact h1 pins s σ H R I ⟨ρ,l,S,hl,hs,a⟩
 ·rw [q] at a;exact h2 pins s σ H R I ⟨ρ,l,S,hl,hs,a⟩
theorem gl {m m1 m2:ME} (h:∀l S,m l S=m1 l S∨m l S=m2 l S) (l:Lo) (S:Sto):mB m l S=mB m1 l S∨mB m l S=mB m2 l S:=by
 unfold mB
 rcases h l S with q | q <;> rw [q] <;> simp
abbrev inA (neg:Bool):=op2 (inD neg) (LC neg)
variable {mi mo:ME}
theorem mO (hu:X.A.units+64 < Eb) (hi:GE X E i mi) (ho:GE X E o mo) (h1:CJ .In o=false:=by with_unfolding_all rfl):GE X E (.Compare i [.In] [o] pos) (m2 (inA false) mi mo):=
 bS (Lq (gi hu) hi ho h1) (kA (by lia) hi ho h1) λ_ _=>Wp _ _ _ _ _ _
theorem gt (hu:X.A.units+64 < Eb) (hi:GE X E i mi) (ho:GE X E o mo) (h1:CJ .In o=false:=by with_unfolding_all rfl):GT X E (.Compare i [.In] [o] pos) (mB (m2 (inA false) mi mo)):=
 bN (Ch (gi hu) hi ho h1) (jv (by lia) hi ho h1) (gl λ_ _=>Wp _ _ _ _ _ _)
theorem JR (hu:X.A.units+64 < Eb) (hi:GE X E i mi) (ho:GE X E o mo) (h1:CJ .NotIn o=false:=by with_unfolding_all rfl):GT X E (.Compare i [.NotIn] [o] pos) (mB (m2 (inA true) mi mo)):=
 bN (Ch (aT hu) hi ho h1) (YN (by lia) hi ho h1) (gl λ_ _=>Wp _ _ _ _ _ _)
abbrev ixA:=op2 ixD LS
theorem CF (hu:X.A.units+64 < Eb) (ho:GE X E o mo) (hi:GE X E i mi) (hs:Sg i:=by intro _ _;rfl):GE X E (.Subscript o i pos) (m2 ixA mo mi):=
 bS (mM lj ho hi hs) (fV (by lia) ho hi hs) λ_ _=>Wp _ _ _ _ _ _
def FE (d:D):Hf:=match d with
 | .tup ds=>Dq ds
 | d=>Ng d
def E1 (m:ME):MI:=λe S=>(m e S).bind λd S1=>match FE d S1 with
 | some _=>.ok (FE d) S1
 | none=>.bad
theorem El {tg:Expr} (h:GE X E e m):GI X E tg e (E1 m):=j6 (j4 h) (jz h) λl S=>by
 unfold E1 mJ gs
 cases m l S with
 | ok d S1=>
  dsimp only [Res.bind]
  cases d <;> first | exact .inl rfl | exact .inr rfl
 | err c S1=>exact .inl rfl
 | bad=>exact .inl rfl
def Go (m:ME):ME:=λe S=>(m e S).bind λd S1=>match Fy d S1 with
 | some ds=>.ok (.int ds.length) S1
 | none=>.bad
variable {p:Pos} {ml:ML} {es:List Expr}
theorem Hy (hg:Gl X "len") (hm:X.mg "len" = none) (h:GE X E e m) (he:AS [e] X.env=(false,Bm e X.env) :: AS [] X.env:=by rfl):GE X E (.Call (.Name "len" p) [e] [] pos) (Go m):=
 (Oe SW ip hg hm PySem.boot_len (UA h) (by decide) (by decide) he).imp λσ H Q ⟨ρ,l,S,hl,hs,a⟩=>⟨ρ,l,S,hl,hs,by
  have q:mQ mE (JN m) l S=Go m l S:=by
   unfold mQ JN Go
   cases m l S with
   | ok d S1=>
    dsimp only [Res.bind]
    cases Fy d S1 <;> rfl
   | err c S1=>rfl
   | bad=>rfl
  rw [q];exact a⟩
theorem fP {a b:Expr} (hc:X.calm=true) (hg:Gl X "min") (hm:X.mg "min" = none) (h:GA X E [a,b] ml) (he:AS [a,b] X.env=(false,Bm a X.env) :: AS [b] X.env:=by rfl) (hpl:(DX pos (AS [b] X.env)).any (·.1)=false:=by rfl):GE X E (.Call (.Name "min" p) [a,b] [] pos) (mQ Q8 ml):=
 Wy (Yj hc) fy hg hm Op h (by decide) (by decide) he hpl
theorem fQ {a b:Expr} (hc:X.calm=true) (hg:Gl X "max") (hm:X.mg "max" = none) (h:GA X E [a,b] ml) (he:AS [a,b] X.env=(false,Bm a X.env) :: AS [b] X.env:=by rfl) (hpl:(DX pos (AS [b] X.env)).any (·.1)=false:=by rfl):GE X E (.Call (.Name "max" p) [a,b] [] pos) (mQ Q9 ml):=
 Wy (Yl hc) gB hg hm nE h (by decide) (by decide) he hpl
theorem fS (hg:Gl X "list") (hm:X.mg "list" = none) (h:GE X E e m) (he:AS [e] X.env=(false,Bm e X.env) :: AS [] X.env:=by rfl):GE X E (.Call (.Name "list" p) [e] [] pos) (DB (mN T3 (JN m))):=
 C7 (fL SV dX hg hm IP (UA h) (by decide) (by decide) he)
theorem Vx (hc:X.calm=true) (hg:Gl X "all") (hm:X.mg "all" = none) (h:GE X E e m) (he:AS [e] X.env=(false,Bm e X.env) :: AS [] X.env:=by rfl):GE X E (.Call (.Name "all" p) [e] [] pos) (mQ Yq (JN m)):=
 Oe (Yn hc) Tc hg hm nJ (UA h) (by decide) (by decide) he
theorem kB (hc:X.calm=true) (hg:Gl X "any") (hm:X.mg "any" = none) (h:GE X E e m) (he:AS [e] X.env=(false,Bm e X.env) :: AS [] X.env:=by rfl):GE X E (.Call (.Name "any" p) [e] [] pos) (mQ fw (JN m)):=
 Oe (Ym hc) Tc hg hm nI (UA h) (by decide) (by decide) he
end
abbrev MJ:=Str->Lo->Sto->Res Str
def jo:MJ:=λacc _ S=>if acc.length<=sizeLine then .ok acc S else .bad
def Wr (m:ME) (r:MJ):MJ:=λacc e S=>(m e S).bind λd S1=>match d with
 | .str y=>if (acc++y).length<=sizeLine then r (acc++y) e S1 else .bad
 | _=>.bad
def gJ (K:AA) (E:EW) (m:MJ) (acc:Str):TE:=λσ H Q=>∃ρ e S,FB K ρ H e σ/\B4 K ρ S H/\Bz K (λc=>E c σ) ρ H (m acc e S) λy S'=>∀ρ' H',Le K ρ H ρ' H'->B4 K ρ' S' H'->Q (.str y) H'
def GJ (X:Cx) (E:EW) (es:List Expr) (m:MJ):Prop:=∀(acc:Str) (pins:List (AK×Obj)) (s:AG) (σ:St) (H:Hp) (Q:VK),Inv X pins σ H s->gJ X.K E m acc σ H Q->Al (AZ X.prog X.w) X.A (joinParts acc (evalEach es X.env)) (EP X pins σ Q) X.xe s
def gk (m:MJ):ME:=λe S=>(m UX e S).bind λy S1=>.ok (.str y) S1
def lu (m:ME):ME:=λe S=>(m e S).bind λd S1=>match d with
 | .int i=>if i.natAbs.log2 < 1920 then .ok (.str (toString i)) S1 else .bad
 | _=>.bad
section
variable {X:Cx} {E:EW} {e a b:Expr} {es:List Expr} {pos:Pos} {m:ME} {mj:MJ}
theorem jy:GJ X E [] jo:=λacc pins s σ H Q I ⟨ρ,l,S,hl,hs,hm⟩=>by
 unfold jo at hm;split at hm
 ·rename_i hz
  exact joinParts_nil ⟨.str acc,H,I.tok _,⟨_,rfl⟩,hm ρ H .refl hs⟩ hz
 ·exact hm.elim
theorem SK (h:GE X E e m) (hr:GJ X E es mj):GJ X E (e :: es) (Wr m mj):=λacc pins s σ H Q I ⟨ρ,l,S,hl,hs,hm⟩=>by
 show Al _ _ (joinParts acc (Bm e X.env :: evalEach es X.env)) _ _ s;refine joinParts_cons (thn (h pins s σ H (λx H1=>∃y,x=.str y/\(acc++y).length<=sizeLine/\gJ X.K E mj (acc++y) σ H1 Q) I ⟨ρ,l,S,hl,hs,Bz.seq hm λd S1 hm ρ1 H1 x l1 s1 r1=>?_⟩) λu s1 ⟨x,H1,I1,rx,y,ex,hz,q⟩=>?_)
 ·cases d <;> first | exact hm.elim | skip
  dsimp only at hm;split at hm
  ·rename_i y hz
   cases r1;exact ⟨y,rfl,hz,ρ1,l,S1,hl.mono l1,s1,hm.go l1 λ_ _ k ρ2 H2 l2 s2=>k ρ2 H2 (l1.trans l2) s2⟩
  ·exact hm.elim
 ·subst ex
  obtain ⟨t,rfl⟩:=rx;exact ⟨hz,hr _ pins s1 σ H1 Q I1 q⟩
theorem fU (h:GJ X E (a :: b :: es) mj):GE X E (.JoinedStr (a :: b :: es) pos) (gk mj):=λpins s σ H Q I ⟨ρ,l,S,hl,hs,hm⟩=>by
 refine JoinedStr_many (h UX pins s σ H Q I ⟨ρ,l,S,hl,hs,Bz.seq hm λy S1 hm ρ1 H1 l1 s1=>hm ρ1 H1 _ l1 s1 (.str y)⟩)
theorem j9 (h:GE X E e m):GE X E (.FormattedValue e (-1) none pos) (lu m):=λpins s σ H Q I ⟨ρ,l,S,hl,hs,hm⟩=>by
 refine FormattedValue_plain (thn (h pins s σ H (λx H1=>∃i:Int,x=.int i/\i.natAbs.log2 < 1920/\Q (.str (toString i)) H1) I ⟨ρ,l,S,hl,hs,Bz.seq hm λd S1 hm ρ1 H1 x l1 s1 r1=>?_⟩) λu s1 ⟨x,H1,I1,rx,i,ex,hz,q⟩=>?_)
 ·cases d <;> first | exact hm.elim | skip
  dsimp only at hm;split at hm
  ·rename_i hz
   cases r1;exact ⟨_,rfl,hz,hm ρ1 H1 _ l1 s1 (.str _)⟩
  ·exact hm.elim
 ·subst ex
  obtain ⟨t,rfl⟩:=rx;exact wpAny_formatField_int hz ⟨.str (toString i),H1,I1.tok _,⟨_,rfl⟩,q⟩
end
def Mb (mo ma:ME):ME:=λe S=>(mo e S).bind λd S1=>match atL d S1 with
 | some (n,_)=>(ma e S1).bind λy S2=>match atL d S2,atL y S2 with
  | some (_,xs),some (k,ys)=>if k≠n/\xs.length+ys.length<=sizeLine then .ok .non (S2.set n (.lst (xs++ys))) else .bad
  | _,_=>.bad
 | none=>.bad
section
variable {X:Cx} {E:EW} {o e:Expr} {apos cpos:Pos} {mo ma:ME}
theorem YT (ho:GE X E o mo) (ha:GE X E e ma) (hbase:EC o "extend" X.env (Bm o X.env)=Bm o X.env:=by rfl)
  (hfew:((DX cpos (AS [e] X.env)).all (λx=>!x.1)&&(cS cpos (Sk [] X.env)).all (λx=>x.1.isSome)
    &&decide ([e].length+([]:List LX).length+(if ([]:List LX).isEmpty then 0 else 1) < 30))=true:=by rfl)
  (hline:(apos.endLine==cpos.line)=true:=by rfl) (hs:AS [e] X.env=(false,Bm e X.env) :: AS [] X.env:=by rfl) (hplain:(DX cpos (AS [] X.env)).any (·.1)=false:=by rfl) :
  GE X E (.Call (.Attribute o "extend" apos) [e] [] cpos) (Mb mo ma):=(gh Iz PySem.F.slot_list_extend PySem.F.type_list_extend X7 ho (Ez ha HH hs) hbase hfew hline hs hplain).imp λσ H Q ⟨ρ,l,S,hl,hs,hm⟩=>by
 refine ⟨ρ,l,S,hl,hs,hm.seq λd S1 hm ρ1 H1 v l1 s1 r1=>?_⟩
 cases hq:atL d S1 with
 | none=>rw [hq] at hm;exact hm.elim
 | some z=>
  obtain ⟨n,xs0⟩:=z;rw [hq] at hm;dsimp only at hm;obtain ⟨rfl,h0,a,vs0,rfl,hn,e0,_⟩:=SY s1 r1 hq;refine ⟨.inl ⟨rfl,vs0,.inl (.inl e0)⟩,ρ1,l,S1,hl.mono l1,s1,(hm.later l1).seq λy S2 hm ρ2 H2 u l2 s2 r2=>?_⟩;split at hm
  ·rename_i n' xs k ys h2 h3
   split at hm
   ·rename_i hz
    obtain ⟨e',h4,a',vs,ea,hn2,e2,rr⟩:=SY s2 (r1.mono l2) h2;cases e';cases ea;obtain ⟨ey,h5,p,ws,rfl,hk,e3,rw'⟩:=SY s2 r2 h3;obtain ⟨s3,l3⟩:=We s2 hn2 e2 (rr.append rw');exact ⟨a,p,vs,ws,rfl,rfl,e2,e3,by rw [<-rr.length,<-rw'.length];exact hz.2,hm ρ2 _ _ (l1.trans (l2.trans l3)) s3 .non⟩
   ·exact hm.elim
  ·exact hm.elim
end
def isB (t A:String):Option Bool:=if ["NoneType", "bool", "int", "str", "tuple", "list", "dict"].contains A then gr t A else none
def mIs (tab:String->Option Bool) (tabC:AK->Option Bool) (m:ME):ME:=λe S=>(m e S).bind λd S1=>match d with
 | .exc C=>match tabC C with
  | some b=>.ok (.bl b) S1
  | none=>.bad
 | d=>match tyD d S1 with
  | some T=>match tab T with
   | some b=>.ok (.bl b) S1
   | none=>.bad
  | none=>.bad
def cy (sc:IK) (x:Str):Bool:=decide (sc.names.lookup x=some .local)||decide (sc.names.lookup x=some .cell)||decide (sc.names.lookup x=some .free)
def bo (X:Cx) (scope:IK) (own N':List Str):Bool:=
 decide (scope.kind=.function)&&scope.names.all (λy=>!decide (y.2=.cell))&&scope.names.all (λy=>!decide (y.2=.local)||decide (scope.names.lookup y.1=some .local)) &&
 scope.names.all (λy=>!decide (y.2=.free)||decide (X.env.kindOf y.1=some .cell)||decide (X.env.kindOf y.1=some .free))&&decide (N'.length=own.length+X.N.length) &&
 ((N'.drop own.length).zip X.N).all (λp=>!cy (Iw scope X.env) p.1||(decide (p.1=p.2)&&cy X.env.scope p.1&&(decide ((Iw scope X.env).names.lookup p.1=some .cell)||decide ((Iw scope X.env).names.lookup p.1=some .free))&&!decide (X.env.kindOf p.1=some .local))) &&
 (Iw scope X.env).names.all (λy=>(!decide (y.2=.cell)&&!decide (y.2=.free))||scope.names.any (λz=>decide (z=(y.1,IQ))))
theorem TD {sc:IK} {x:Str}:cy sc x=true↔Vis sc x:=by
 unfold cy Vis;simp [or_assoc]
theorem EV {X:Cx} {scope:IK} {own N':List Str} (h:bo X scope own N'=true):Lx X scope own N':=by
 unfold bo at h;simp only [D9] at h;obtain ⟨⟨⟨⟨⟨⟨h1,h2⟩,h3⟩,h4⟩,h5⟩,h6⟩,h7⟩:=h;rw [OQ] at h2 h3 h4 h6 h7;refine ⟨of_decide_eq_true h1,λy hy=>?_,λy hy e=>?_,λy hy e=>?_,of_decide_eq_true h5,λi x e v=>?_,λx hx=>?_⟩
 ·simpa using h2 y hy
 ·have:=h3 y hy
  simpa [e] using this
 ·have:=h4 y hy
  simpa [e] using this
 ·have hlen:=of_decide_eq_true h5
  have hi:own.length+i < N'.length:=(AF.mp e).1
  have hx:i < X.N.length:=by lia
  have hm:(x,X.N[i])∈(N'.drop own.length).zip X.N:=by
   rw [List.mem_iff_getElem?];refine ⟨i,?_⟩;rw [List.getElem?_zip_eq_some];exact ⟨by rw [Ft];exact e,by simp [hx]⟩
  have:=h6 _ hm;rw [TD.mpr v] at this;simp only [JX,iD,D9,cZ,decide_eq_true_eq,ZP,decide_eq_false_iff_not] at this;obtain ⟨⟨⟨z1,z2⟩,z3⟩,z4⟩:=this;exact ⟨by rw [z1];simp [hx],TD.mp z2,z3,z4⟩
 ·have key:∀k,(Iw scope X.env).names.lookup x=some k->(k=.cell∨k=.free)->(x,IQ)∈scope.names:=λk e hk=>by
   have:=h7 _ (D6 e)
   rcases hk with rfl | rfl
   ·simpa using this
   ·simpa using this
  rcases hx with e | e
  ·exact key _ e (.inl rfl)
  ·exact key _ e (.inr rfl)
structure Dfn (K:AA) (mg:Str->Option AD) (x qual:Str) (st:Cg) (ps:List Str) where
 f:AK
 fd:Dh
 F:Fun K x qual st f fd
 b:Binds K fd ps []
 m:mg x=some (.ref f)
theorem Dfn.kp {K:AA} {mg:Str->Option AD} {x qual:Str} {st:Cg} {ps:List Str} (d:Dfn K mg x qual st ps):Fu K (.ref d.f)=true:=d.F.kp
structure Mtd (K:AA) (x qual:Str) (st:Cg) (ps:List Str) where
 f:AK
 fd:Dh
 F:Fun K x qual st f fd
 b:Binds K fd ps []
structure Own (K:AA) (mg:Str->Option AD) (x:Str) (C f:AK):Prop where
 cl:Cls K C
 mk':Mk K C f
 m:mg x=some (.ref C)
structure Xcl (K:AA) (mg:Str->Option AD) (x:Str) (C:AK):Prop where
 xc:XCl K C
 m:mg x=some (.ref C)
abbrev wN:Nat:=1000000
structure XIs (K:AA) (C:AK):Prop where
 cl:(LG K C).isSome=true
 ga:CZ K (.ref C) "__getattribute__" = some (some (.builtin "BaseException.__getattribute__"))
 gn:CZ K (.ref C) "__getattr__" = some none
 ca:CZ K (.ref C) "__class__" = some (some (.builtin "object.__class__"))
 sp:WC K (.builtin "object.__class__") "__get__" = some (some (.builtin "getset_descriptor.__get__"))
 tk:Yx K (.builtin "object.__class__")=some true
 ob:LF K C (.type "object")=some true
 be:LF K C (.type "BaseException")=some true
theorem UU.inst {h:Bq} {a C:AK} {o:Obj} (g:h.get? a=some o) (x:UU o C):ZG h a o C none:=by
 obtain ⟨x1,x2,vs,x3⟩:=x;refine ⟨g,x1,?_,?_⟩
 ·unfold PySem.W.notCls;rw [x3]
 ·rw [x2];trivial
section
variable {prog:Aq} {w:BF} {A:BA} {E:AD->AG->Prop} {s:AG} {K:AA} {a C:AK} {o:Obj}
theorem Yb {M:Uw} {nameV:AD} {Q:Unit->AG->Prop} (c:XIs K C) (X:K.In s.heap) (g:s.heap.get? a=some o) (x:UU o C) (h:Q () s):Al M A (kg "BaseException.__getattribute__" ⟨[.ref a,nameV],[]⟩) Q E s:=by
 have I:=x.inst g;obtain ⟨hh,gg,d,t,os⟩:=s;have L0:=I.type (M:=M);have LI:PySem.W.Looks M hh (isInstance (.ref a) (.type "BaseException")) true:=L0.andThen (PySem.W.looks_mroIn X c.be)
 have k1:builtinKind "BaseException.__getattribute__" = some .slot:=by decide +kernel
 have k2:splitId "BaseException.__getattribute__" = some ("BaseException", "__getattribute__"):=by decide +kernel
 have k3:=PySem.F.args_bexc_ga (.ref a) nameV;simp only [kg,k1,k2];refine AB (LI.at ?_)
 repeat (any_goals (first | assumption | wp_step))
theorem YZ {tk:Tok} {Q:Fin->AG->Prop} (c:XIs K C) (X:K.In s.heap) (g:s.heap.get? a=some o) (x:UU o C) (h:Q (.done (.ret (.ref C))) s) :
  Al (AZ prog w) A (Builtin.«object.__getattribute__» ⟨[.ref a,.str "__class__" tk],[]⟩) Q E s:=by
 have I:=x.inst g;obtain ⟨hh,gg,d,t,os⟩:=s;have L0:=I.type (M:=AZ prog w)
 have hf:Yz K C none "__class__" = some (.bind (.builtin "getset_descriptor.__get__") (.builtin "object.__class__")):=by
  obtain ⟨cd,hcd⟩:=Qr.mp c.cl;unfold Yz;rw [hcd,c.ca];simp only [Ai];rw [c.sp];simp only [Ai];rw [c.tk];rfl
 have L1:=PySem.W.looks_find (M:=AZ prog w) X I hf;unfold Builtin.«object.__getattribute__»;refine AB (AM ?_);dsimp only;refine AB (AM (AB (L0.at (AB (L1.at ?_)))));dsimp only;unfold cM;dsimp only;refine AB (E2 (Oi (PySem.W.class_get X I c.ob ?_)));exact AM h
theorem Ya {Q:Option AD->AG->Prop} (c:XIs K C) (X:K.In s.heap) (g:s.heap.get? a=some o) (x:UU o C) (h:Q (some (.ref C)) { s with toks:=s.toks+1 }):Al (AZ prog w) A (getAttr? (.ref a) "__class__") Q E s:=by
 have I:=x.inst g;obtain ⟨hh,gg,d,t,os⟩:=s;have L0:=I.type (M:=AZ prog w);have L1:=KC (M:=AZ prog w) X c.ga;have L2:=KC (M:=AZ prog w) X c.gn;unfold getAttr? getAttrBy? getAttrBy;refine AB (wpAny_mkText (AB (IH (E2 (AB (L0.at (AB (L1.at ?_))))))))
 have hx:(onTheHeap (A0 C)&&gM "BaseException.__getattribute__"==gM "object.__getattribute__")=false:=by show (true&&_)=false;decide +kernel
 dsimp only;rw [qY (by rw [hx];exact AR)];unfold getAttrByItsOwn hookBefore;refine AB ?_;rw [qX (show onTheHeap (A0 C)=true from rfl)];refine L2.at (AB (IH (E2 ?_)));unfold callGetattribute;rw [qY (by simp)];unfold boundAndCalled;refine AB (cN (Oo.ga.bind (.ref a)) ?_);refine Oi (cR Oo.ga.plain PySem.F.entry_bexc_ga (Yb c X g x (YZ c X g x ?_)));exact AM (AM h)
theorem bA (c:XIs K C):PySem.W.KitX K (.ref a) (.ref C) (λh=>∃o,h.get? a=some o/\UU o C) where
 ty:=λM h X ⟨o,g,x⟩=>(x.inst g).type
 it:=λM h X _=>by
  have z:=c.cl;unfold LG at z;split at z
  ·rename_i hk
   intro A' Q' E' s' k q;unfold isType loadHead;exact AB (wpAny_loadPart (k _ _ (X _ _ hk)) (AM q))
  ·cases z
 ne:=λh tp dd its n sl X htp=>by
  refine Bool.eq_false_iff.mpr λq=>?_
  have e:C=tp:=A0.inj (beq_iff_eq.mp q);subst e;have z:=c.cl;unfold LG at z;split at z
  ·rename_i hk
   have y:=(X _ _ hk).symm.trans htp;cases y
  ·cases z
 ca:=λX ⟨o,g,x⟩ k=>Ya c X g x k
end
def rIs (K:AA) (c:V) (cv:AD):List V->Hp->VK->Prop:=λxs H Q=>(∃x t b,xs=[x,c]/\Mp K H x t/\CY K t cv=some b/\Q (.bl b) H) ∨
 ∃a o u C b,xs=[.ref a,c]/\H a=some (.frz o u)/\UU o C/\XIs K C/\CY K (.ref C) cv=some b/\Q (.bl b) H
section
variable {X:Cx} {E:EW} {e ce:Expr} {p pos:Pos} {m:ME} {c:V} {cv:AD} {tab:String->Option Bool} {tabC:AK->Option Bool}
theorem fo (hv:∀u,RelV c u->u=cv):HV X (.builtin "isinstance") (rIs X.K c cv):=by
 intro pins s σ H xs us Q I r h
 rcases h with ⟨x,t,b,rfl,ty,e,q⟩ | ⟨a,o,u,C,b,rfl,ha,xo,xc,e,q⟩
 ·obtain ⟨v,w,rfl,r1,r2⟩:=vals2 r
  rw [hv w r2]
  exact YG I r1 ty e λtk=>⟨.bl b,H,I.tok tk,rfl,q⟩
 ·obtain ⟨v,w,rfl,r1,r2⟩:=vals2 r
  rw [hv w r2];cases (show v=A0 a from r1);obtain ⟨g,_⟩:=(show Ct X.prog X.w H s.heap a (.frz o u) from I.hok a _ ha)
  exact B8 (bA xc) I.kIn ⟨o,g,xo⟩ e (λz=>nomatch z) λtk=>⟨.bl b,H,I.tok tk,rfl,q⟩
theorem Ww (hv:∀u,RelV c u->u=cv) (ht:∀T b,tab T=some b->CY X.K (.type T) cv=some b) (hC:∀C b,tabC C=some b->XIs X.K C/\CY X.K (.ref C) cv=some b)
  (hg:Gl X "isinstance") (hm:X.mg "isinstance" = none) (h:GE X E e m) (hce:PE X ce (tC c))
  (he:AS [e,ce] X.env=(false,Bm e X.env) :: AS [ce] X.env:=by rfl) (he2:AS [ce] X.env=(false,Bm ce X.env) :: AS [] X.env:=by rfl) (hpl:(DX pos (AS [ce] X.env)).any (·.1)=false:=by rfl) :
  GE X E (.Call (.Name "isinstance" p) [e,ce] [] pos) (mIs tab tabC m):=
 (KL (fo hv) hg hm nF (Ez h (Ez hce HH he2) he) (by decide) (by decide) he hpl).imp λσ H Q ⟨ρ,l,S,hl,hs,hm⟩=>by
 refine ⟨ρ,l,S,hl,hs,hm.seq λd S1 hm ρ1 H1 x l1 s1 r1=>?_⟩
 have plainD:∀(z:Bz X.K (λc=>E c σ) ρ H (match tyD d S1 with | some T=>(match tab T with | some b=>Res.ok (D.bl b) S1 | none=>.bad) | none=>.bad) λd S'=>∀ρ' H' x,Le X.K ρ H ρ' H'->B4 X.K ρ' S' H'->Bv X.K ρ' H' d x->Q x H'),rIs X.K c cv [x,c] H1 Q:=λhm=>by
  cases hq:tyD d S1 with
  | none=>rw [hq] at hm;exact hm.elim
  | some T=>
   rw [hq] at hm;dsimp only at hm
   cases hb:tab T with
   | none=>rw [hb] at hm;exact hm.elim
   | some b=>
    rw [hb] at hm;exact .inl ⟨x,_,b,rfl,iX s1 r1 hq,ht T b hb,hm ρ1 H1 _ l1 s1 (.bl _)⟩
 cases d with
 | exc C=>
  dsimp only at hm
  cases hb:tabC C with
  | none=>rw [hb] at hm;exact hm.elim
  | some b=>
   rw [hb] at hm
   cases r1 with
   | exc g x=>exact .inr ⟨_,_,_,C,b,rfl,g,x,(hC C b hb).1,(hC C b hb).2,hm ρ1 H1 _ l1 s1 (.bl _)⟩
 | _=>exact plainD hm
end
end L2
namespace Srt
open PySem PyProof.Rows
structure Ord (U:Ap->Prop) (lt:Ap->Ap->Bool):Prop where
 asym:∀x y,U x->U y->lt x y=true->lt y x=false
 ntr:∀x y z,U x->U y->U z->lt y x=false->lt z y=false->lt z x=false
theorem Ord.irr {U:Ap->Prop} {lt:Ap->Ap->Bool} (o:Ord U lt) {x:Ap} (h:U x):lt x x=false:=by
 cases e:lt x x with
 | false=>rfl
 | true=>exact (o.asym x x h h e).symm.trans e |>.symm▸rfl
def ix (xs:Array Ap) (i:Nat):Ap:=xs.getD i (.none,.none)
theorem JP {xs ys:Array Ap} {i j:Nat} (h:xs[i]?=ys[j]?):ix xs i=ix ys j:=by
 unfold ix;rw [Ed,Ed,h]
theorem DG {xs:Array Ap} {i:Nat} (h:i < xs.size):xs[i]?=some (ix xs i):=by
 unfold ix;rw [Ed,getElem?_pos xs i h];rfl
theorem YE {xs:Array Ap} {src d:Nat} (hs:src < xs.size) (hd:d<=src) (k:Nat) :
  ix (hX xs src d) k=if k=src - d then ix xs src else if src - d < k/\k<=src then ix xs (k - 1) else ix xs k:=by
 have e:=getElem?_bubble hs d hd k;split
 ·rename_i h;rw [qX h] at e;exact JP e
 ·rename_i h
  rw [qY h] at e;split
  ·rename_i h2;rw [qX h2] at e;exact JP e
  ·rename_i h2;rw [qY h2] at e;exact JP e
theorem Dz {xs:Array Ap} {i j:Nat} (hj:j<=xs.size) (k:Nat) :
  ix (JZ xs i j ((j - i) / 2)) k=if i<=k/\k < j then ix xs (i+j - 1 - k) else ix xs k:=by
 have e:=getElem?_mirror_all (i:=i) hj k;split
 ·rename_i h;rw [qX h] at e;exact JP e
 ·rename_i h;rw [qY h] at e;exact JP e
section
variable {prog:Aq} {w:BF} {A:BA} {E:AD->AG->Prop} {s:AG} {a₀:Array Ap} {κ:FR} {lt:Ap->Ap->Bool}
def J1 (prog:Aq) (w:BF) (A:BA) (s:AG) (a₀:Array Ap) (κ:FR) (lt:Ap->Ap->Bool):Prop:=
 ∀x y,x∈a₀->y∈a₀->∀(Q:Bool->AG->Prop) (E:AD->AG->Prop),Q (lt x y) s->Al (AZ prog w) A (keyLt' κ x.1 y.1) Q E s
structure Good (a₀:Array Ap) (κ:FR) (st:BK):Prop where
 perm:(AV st).Perm a₀
 kind:kindOf st=κ
 failed:IJ st=none
theorem Good.size {st:BK} (g:Good a₀ κ st):(AV st).size=a₀.size:=g.perm.size_eq
theorem Good.mem {st:BK} (g:Good a₀ κ st) {i:Nat} (h:i < a₀.size):ix (AV st) i∈a₀:=by
 have h':i < (AV st).size:=by rw [g.size];exact h
 have e:=DG h';have:=Co e;exact BR.mp ((Es.mp g.perm).mem_iff.mp (BR.mpr this))
theorem Good.setArr {st:BK} (g:Good a₀ κ st) {xs:Array Ap} (hp:xs.Perm (AV st)):Good a₀ κ (setArr st xs):=⟨hp.trans g.perm,g.kind,g.failed⟩
theorem Ou {st:BK} {x y:Ap} {Q:Option Bool->BK->Prop} (C:J1 prog w A s a₀ κ lt) (g:Good a₀ κ st) (hx:x∈a₀) (hy:y∈a₀) (h:Q (some (lt x y)) st):wpS (AZ prog w) A E s (lt' x y) Q st:=by
 rw [lt'_eq];refine AN (HB ?_);rw [g.kind];refine AN (wpS_lift (IH ?_));refine C x y hx hy _ _ ⟨rfl,?_⟩;exact AO h
theorem M3 {st:BK} {i j:Nat} {Q:Option Bool->BK->Prop} (C:J1 prog w A s a₀ κ lt) (g:Good a₀ κ st) (hi:i < a₀.size) (hj:j < a₀.size) (h:Q (some (lt (ix (AV st) i) (ix (AV st) j))) st) :
  wpS (AZ prog w) A E s (kS i j) Q st:=by
 rw [ltAt'_eq];refine AN (HB ?_);show wpS _ _ _ _ (do let x <-elem' (AV st) i;let y <-elem' (AV st) j;lt' x y) Q st;rw [cQ,cQ,DG (by rw [g.size];exact hi),DG (by rw [g.size];exact hj)];exact AN (AO (AN (AO (Ou C g (g.mem hi) (g.mem hj) h))))
def Up (lt:Ap->Ap->Bool) (xs:Array Ap) (lo hi:Nat):Prop:=∀i j,lo<=i->i<=j->j < hi->lt (ix xs j) (ix xs i)=false
def Dn (lt:Ap->Ap->Bool) (xs:Array Ap) (lo hi:Nat):Prop:=∀i j,lo<=i->i<=j->j < hi->lt (ix xs i) (ix xs j)=false
def Out (xs ys:Array Ap) (lo hi:Nat):Prop:=∀i,(i < lo∨hi<=i)->ix ys i=ix xs i
theorem Out.refl {xs:Array Ap} {lo hi:Nat}:Out xs xs lo hi:=λ_ _=>rfl
theorem Out.trans {xs ys zs:Array Ap} {lo hi:Nat} (a:Out xs ys lo hi) (b:Out ys zs lo hi):Out xs zs lo hi:=λi h=>(b i h).trans (a i h)
theorem Up.out {xs ys:Array Ap} {lo hi l h:Nat} (u:Up lt xs l h) (o:Out xs ys lo hi) (d:h<=lo∨hi<=l):Up lt ys l h:=λi j h1 h2 h3=>by
 rw [o i (by lia),o j (by lia)];exact u i j h1 h2 h3
theorem Up.grow {st:BK} (O:Ord (·∈a₀) lt) (g:Good a₀ κ st) {lo hi:Nat} (hs:hi < a₀.size) (u:Up lt (AV st) lo hi) (h0:lo < hi) (h:lt (ix (AV st) hi) (ix (AV st) (hi - 1))=false):Up lt (AV st) lo (hi+1):=λi j h1 h2 h3=>by
 by_cases hj:j < hi
 ·exact u i j h1 h2 hj
 ·have:j=hi:=by lia
  subst this
  by_cases hi':i=j
  ·subst hi';exact O.irr (g.mem hs)
  ·exact O.ntr _ _ _ (g.mem (by lia)) (g.mem (show j - 1 < _ by omega)) (g.mem hs) (u i (j - 1) h1 (by lia) (by lia)) h
theorem wpS_binarySort {st:BK} {lo n ok:Nat} {Q:Bool->BK->Prop} (C:J1 prog w A s a₀ κ lt) (O:Ord (·∈a₀) lt) (hn:lo+n<=a₀.size) (hok:ok<=n) (g:Good a₀ κ st) (u:Up lt (AV st) lo (lo+ok))
  (h:∀st',Good a₀ κ st'->Up lt (AV st') lo (lo+n)->Out (AV st) (AV st') lo (lo+n)->Aa st'=Aa st->Q true st'):wpS (AZ prog w) A E s (binarySort' lo n ok) Q st:=by
 rw [binarySort'_eq]
 refine AN (DD (B2 (I:=λk c st'=>c=(none,())/\Good a₀ κ st'/\Up lt (AV st') lo (lo+min k n)/\Out (AV st) (AV st') lo (lo+n)/\Aa st'=Aa st)
  (Q:=λc st'=>c=(none,())/\Good a₀ κ st'/\Up lt (AV st') lo (lo+n)/\Out (AV st) (AV st') lo (lo+n)/\Aa st'=Aa st) ?step ?fin ?init) ?post)
 case post=>
  rintro c st' ⟨rfl,g',u',o',p'⟩;exact AO (h st' g' u' o' p')
 case init=>
  refine ⟨rfl,g,λi j h1 h2 h3=>?_,.refl,rfl⟩
  by_cases h0:ok=0
  ·have:i=j:=by lia
   subst this;exact O.irr (g.mem (by omega))
  ·exact u i j h1 h2 (by lia)
 case fin=>
  rintro c st' ⟨hc,g',u',o',p'⟩;refine ⟨hc,g',?_,o',p'⟩;rwa [show min (max (max ok 1) n) n=n by lia] at u'
 case step=>
  rintro k c st1 hak hkn ⟨rfl,g1,u1,o1,p1⟩;rw [show min k n=k by lia] at u1
  have hk:lo+k < a₀.size:=by lia
  refine AN (DD (B2 (I:=λx c st2=>st2=st1/\∃l r,c=(none,l,r)/\l<=r/\r<=k/\r - l<=k - x /\
    (∀i,i < l->lt (ix (AV st1) (lo+k)) (ix (AV st1) (lo+i))=false)/\(∀i,r<=i->i < k->lt (ix (AV st1) (lo+k)) (ix (AV st1) (lo+i))=true))
   (Q:=λc st2=>st2=st1/\∃l r,c=(none,l,r)/\l<=k /\
    (∀i,i < l->lt (ix (AV st1) (lo+k)) (ix (AV st1) (lo+i))=false)/\(∀i,l<=i->i < k->lt (ix (AV st1) (lo+k)) (ix (AV st1) (lo+i))=true)) ?istep ?ifin ?iinit) ?ipost)
  case iinit=>exact ⟨rfl,0,k,rfl,by lia,by lia,by lia,λi hi=>by lia,λi h1 h2=>by lia⟩
  case ifin=>
   rintro c st2 ⟨rfl,l,r,rfl,hlr,hrk,hm,hlo,hhi⟩
   have:l=r:=by lia
   subst this;exact ⟨rfl,l,l,rfl,hrk,hlo,hhi⟩
  case istep=>
   rintro x c st2 _ hxk ⟨rfl,l,r,rfl,hlr,hrk,hm,hlo,hhi⟩;dsimp only
   by_cases hge:l ≥ r
   ·rw [qX hge]
    have:l=r:=by lia
    subst this;exact AO ⟨rfl,l,l,rfl,hrk,hlo,hhi⟩
   ·rw [qY hge]
    refine AN (M3 C g1 hk (by lia) ?_)
    cases hless:lt (ix (AV st2) (lo+k)) (ix (AV st2) (lo+(l+r) / 2)) with
    | true=>
     refine AO ⟨rfl,l,(l+r) / 2,rfl,by lia,by lia,by omega,hlo,λi h1 h2=>?_⟩
     cases e:lt (ix (AV st2) (lo+k)) (ix (AV st2) (lo+i)) with
     | true=>rfl
     | false=>
      have:=O.ntr _ _ _ (g1.mem (show lo+(l+r) / 2 < _ by lia)) (g1.mem (show lo+i < _ by lia)) (g1.mem hk) (u1 (lo+(l+r) / 2) (lo+i) (by lia) (by lia) (by lia)) e;rw [hless] at this;cases this
    | false=>
     refine AO ⟨rfl,(l+r) / 2+1,r,rfl,by lia,by omega,by omega,λi h1=>?_,hhi⟩;exact O.ntr _ _ _ (g1.mem (show lo+i < _ by lia)) (g1.mem (show lo+(l+r) / 2 < _ by lia)) (g1.mem hk) (u1 (lo+i) (lo+(l+r) / 2) (by lia) (by lia) (by lia)) hless
  case ipost=>
   rintro c st2 ⟨rfl,l,r,rfl,hlk,hlo,hhi⟩;show wpS _ _ _ _ (do moveDown' (lo+k) (lo+l);pure (G4 (none,()))) _ _;rw [moveDown'_eq]
   have hks:lo+k < (AV st2).size:=by rw [g1.size];exact hk
   have e:∀i,ix (hX (AV st2) (lo+k) (lo+k - (lo+l))) i=if i=lo+l then ix (AV st2) (lo+k) else if lo+l < i/\i<=lo+k then ix (AV st2) (i - 1) else ix (AV st2) i:=λi=>by
    rw [YE hks (by lia),show lo+k - (lo+k - (lo+l))=lo+l by lia]
   refine AN (DR (AO ⟨rfl,g1.setArr (bubble_perm _ _ _),?_,o1.trans λi hi=>?_,p1⟩))
   ·rw [show min (k+1) n=k+1 by lia]
    intro i j h1 h2 h3;show lt (ix (hX (AV st2) (lo+k) (lo+k - (lo+l))) j) (ix (hX (AV st2) (lo+k) (lo+k - (lo+l))) i)=false;rw [e,e]
    repeat' split
    all_goals first
     | (exfalso;lia)
     | exact O.irr (g1.mem hk)
     | (have q:=hlo (i - lo) (by lia);rw [show lo+(i - lo)=i by lia] at q;exact q)
     | (have q:=hhi (j - 1 - lo) (by omega) (by omega);rw [show lo+(j - 1 - lo)=j - 1 by lia] at q;exact O.asym _ _ (g1.mem hk) (g1.mem (by lia)) q)
     | exact u1 _ _ (by omega) (by omega) (by lia)
   ·show ix (hX (AV st2) (lo+k) (lo+k - (lo+l))) i=ix (AV st2) i
    rw [e,qY (by lia),qY (by lia)]
end
section
variable {prog:Aq} {w:BF} {A:BA} {E:AD->AG->Prop} {s:AG} {a₀:Array Ap} {κ:FR} {lt:Ap->Ap->Bool}
theorem JF {σ:Type} {M:Uw} {r:String} {Q:PUnit->σ->Prop} {st:σ} (h:Q ⟨⟩ st):wpS M A E s (liftM (rule r):StateT σ Sem PUnit) Q st:=wpS_lift (gy ⟨rfl,h⟩)
theorem Dn.flip {xs:Array Ap} {lo hi:Nat} (hs:hi<=xs.size) (d:Dn lt xs lo hi):Up lt (JZ xs lo hi ((hi - lo) / 2)) lo hi:=λi j h1 h2 h3=>by
 rw [Dz hs,Dz hs,qX (by lia),qX (by lia)];exact d _ _ (by omega) (by omega) (by omega)
theorem Dn.part {xs:Array Ap} {lo hi m:Nat} (hs:hi<=xs.size) (hm:lo<=m) (hmh:m<=hi) (d:Dn lt xs lo hi) (e:Up lt xs m hi):Dn lt (JZ xs m hi ((hi - m) / 2)) lo hi:=λi j h1 h2 h3=>by
 rw [Dz hs,Dz hs]
 by_cases hi':m<=i
 ·rw [qX (by lia),qX (by lia)]
  exact e _ _ (by omega) (by omega) (by omega)
 ·rw [qY (by lia)]
  split
  ·exact d _ _ (by omega) (by lia) (by omega)
  ·exact d _ _ (by omega) (by omega) (by omega)
theorem Jj {xs:Array Ap} {i j lo hi:Nat} (hj:j<=xs.size) (h1:lo<=i) (h2:j<=hi):Out xs (JZ xs i j ((j - i) / 2)) lo hi:=λk hk=>by
 rw [Dz hj,qY (by lia)]
theorem Dn.grow {st:BK} (O:Ord (·∈a₀) lt) (g:Good a₀ κ st) {lo hi:Nat} (hs:hi < a₀.size) (u:Dn lt (AV st) lo hi) (h0:lo < hi) (h:lt (ix (AV st) (hi - 1)) (ix (AV st) hi)=false):Dn lt (AV st) lo (hi+1):=λi j h1 h2 h3=>by
 by_cases hj:j < hi
 ·exact u i j h1 h2 hj
 ·have:j=hi:=by lia
  subst this
  by_cases hi':i=j
  ·subst hi';exact O.irr (g.mem hs)
  ·exact O.ntr _ _ _ (g.mem hs) (g.mem (show j - 1 < _ by omega)) (g.mem (by lia)) h (u i (j - 1) h1 (by lia) (by lia))
theorem U9 (O:Ord (·∈a₀) lt) {st:BK} (g:Good a₀ κ st) {lo:Nat} (h:lo < a₀.size):Up lt (AV st) lo (lo+1):=λi j h1 h2 h3=>by
 have e1:i=lo:=by lia
 have e2:j=lo:=by lia
 rw [e1,e2];exact O.irr (g.mem h)
theorem cg {st:BK} {lo nrem n:Nat} {Q:Option Nat->BK->Prop} (C:J1 prog w A s a₀ κ lt) (O:Ord (·∈a₀) lt) (h1:1<=n) (h2:n<=nrem) (hn:lo+nrem<=a₀.size) (g:Good a₀ κ st) (u:Up lt (AV st) lo (lo+n))
  (h:∀n,1<=n->n<=nrem->Up lt (AV st) lo (lo+n)->Q (some n) st):wpS (AZ prog w) A E s (do
   let mut n:=n
   for _ in [n:nrem] do
    let some smaller <-kS (lo+n) (lo+n - 1) | return none
    if smaller then break
    n:=n+1
   return some n) Q st:=by
 refine AN (DD (B2 (I:=λx c st'=>st'=st/\c=(none,x)/\Up lt (AV st) lo (lo+x))
  (Q:=λc st'=>st'=st/\∃n,c=(none,n)/\1<=n/\n<=nrem/\Up lt (AV st) lo (lo+n)) ?step ?fin ⟨rfl,rfl,u⟩) ?post)
 case fin=>
  rintro c st' ⟨rfl,rfl,u⟩
  have e:max n nrem=nrem:=by lia
  rw [e] at u ⊢;exact ⟨rfl,nrem,rfl,by lia,AL _,u⟩
 case step=>
  rintro x c st' hx1 hx2 ⟨rfl,rfl,u⟩;dsimp only;refine AN (M3 C g (by lia) (by lia) ?_)
  cases hq:lt (ix (AV st') (lo+x)) (ix (AV st') (lo+x - 1)) with
  | true=>exact AO ⟨rfl,x,rfl,by lia,by lia,u⟩
  | false=>exact AO ⟨rfl,rfl,Up.grow (hi:=lo+x) O g (by lia) u (by lia) hq⟩
 case post=>
  rintro c st' ⟨rfl,n,rfl,hn1,hn2,u⟩;exact AO (h n hn1 hn2 u)
theorem wpS_countRun {st:BK} {lo nrem:Nat} {Q:Option Nat->BK->Prop} (C:J1 prog w A s a₀ κ lt) (O:Ord (·∈a₀) lt) (h1:1<=nrem) (hn:lo+nrem<=a₀.size) (g:Good a₀ κ st)
  (h:∀st' n,Good a₀ κ st'->1<=n->n<=nrem->Up lt (AV st') lo (lo+n)->Out (AV st) (AV st') lo (lo+nrem)->Aa st'=Aa st->Q (some n) st'):wpS (AZ prog w) A E s (countRun' lo nrem) Q st:=by
 rw [countRun'_eq]
 refine AN (DD (B2 (I:=λx c st'=>st'=st/\c=(none,x)/\Up lt (AV st) lo (lo+x))
  (Q:=λc st'=>st'=st/\∃n,c=(none,n)/\1<=n/\n<=nrem/\Up lt (AV st) lo (lo+n)/\(n=nrem∨lt (ix (AV st) (lo+n)) (ix (AV st) (lo+n - 1))=true)) ?step ?fin ?init) ?post)
 case init=>
  refine ⟨rfl,rfl,λi j a1 a2 a3=>?_⟩
  have:i=j:=by lia
  subst this;exact O.irr (g.mem (by lia))
 case fin=>
  rintro c st' ⟨rfl,rfl,u⟩
  have e:max 1 nrem=nrem:=by lia
  rw [e] at u ⊢;exact ⟨rfl,nrem,rfl,h1,AL _,u,.inl rfl⟩
 case step=>
  rintro x c st' hx1 hx2 ⟨rfl,rfl,u⟩;dsimp only;refine AN (M3 C g (by lia) (by lia) ?_)
  cases hq:lt (ix (AV st') (lo+x)) (ix (AV st') (lo+x - 1)) with
  | true=>exact AO ⟨rfl,x,rfl,hx1,by lia,u,.inr hq⟩
  | false=>exact AO ⟨rfl,rfl,Up.grow (hi:=lo+x) O g (by lia) u (by lia) hq⟩
 case post=>
  rintro c st' ⟨rfl,n,rfl,hn1,hn2,u,hd⟩;dsimp only
  by_cases hnn:n=nrem
  ·rw [qX (by simpa using hnn)]
   exact AO (h st' n g hn1 hn2 u .refl rfl)
  ·rw [qY (by simpa using hnn)]
   have hd':=hd.resolve_left hnn
   have desc:∀(st1:BK),Good a₀ κ st1->Dn lt (AV st1) lo (lo+(n+1))->Out (AV st') (AV st1) lo (lo+nrem)->Aa st1=Aa st' ->
     wpS (AZ prog w) A E s (do
      liftM (rule "list.sort.descending-run")
      let mut n:=n+1
      let mut neq:=0
      for _ in [n:nrem] do
       let some smaller <-kS (lo+n) (lo+n - 1) | return none
       if smaller then
        if neq > 0 then OL (lo+n - (neq+1)) (lo+n)
        neq:=0
       else
        let some larger <-kS (lo+n - 1) (lo+n) | return none
        if larger then break
        neq:=neq+1
       n:=n+1
      if neq > 0 then OL (lo+n - (neq+1)) (lo+n)
      OL lo (lo+n)
      for _ in [n:nrem] do
       let some smaller <-kS (lo+n) (lo+n - 1) | return none
       if smaller then break
       n:=n+1
      return some n) Q st1:=by
    intro st1 g1 d1 o1 p1;refine AN (JF ?_)
    refine AN (DD (B2 (I:=λx c st2=>Good a₀ κ st2/\∃q,c=(none,x,q)/\q+1<=x/\Dn lt (AV st2) lo (lo+x)/\Up lt (AV st2) (lo+x - (q+1)) (lo+x)/\Out (AV st') (AV st2) lo (lo+nrem)/\Aa st2=Aa st')
     (Q:=λc st2=>Good a₀ κ st2/\∃n q,c=(none,n,q)/\n<=nrem/\q+1<=n/\Dn lt (AV st2) lo (lo+n)/\Up lt (AV st2) (lo+n - (q+1)) (lo+n)/\Out (AV st') (AV st2) lo (lo+nrem)/\Aa st2=Aa st') ?dstep ?dfin ?dinit) ?dpost)
    case dinit=>
     refine ⟨g1,0,rfl,by lia,d1,?_,o1,p1⟩;have:=U9 O g1 (lo:=lo+n) (by lia);rwa [show lo+(n+1) - (0+1)=lo+n by lia,show lo+(n+1)=lo+n+1 by lia]
    case dfin=>
     rintro c st2 ⟨g2,q,rfl,hq,d2,u2,o2,p2⟩
     have e:max (n+1) nrem=nrem:=by lia
     rw [e] at d2 u2 hq ⊢;exact ⟨g2,nrem,q,rfl,AL _,hq,d2,u2,o2,p2⟩
    case dstep=>
     rintro x c st2 hx1 hx2 ⟨g2,q,rfl,hq,d2,u2,o2,p2⟩;dsimp only;refine AN (M3 C g2 (by lia) (by lia) ?_)
     cases hs:lt (ix (AV st2) (lo+x)) (ix (AV st2) (lo+x - 1)) with
     | true=>
      dsimp only;rw [qX rfl];have hlt:=O.asym _ _ (g2.mem (show lo+x < _ by lia)) (g2.mem (show lo+x - 1 < _ by lia)) hs
      by_cases hq0:q > 0
      ·rw [qX hq0,Kx]
       have hsz:lo+x<=(AV st2).size:=by rw [g2.size];lia
       have g3:Good a₀ κ (setArr st2 (JZ (AV st2) (lo+x - (q+1)) (lo+x) ((lo+x - (lo+x - (q+1))) / 2))):=g2.setArr (Sj _ _ _ _);have d3:=Dn.part (lt:=lt) (lo:=lo) hsz (show lo<=lo+x - (q+1) by lia) (by omega) d2 u2;refine AN (DR (AO ⟨g3,0,rfl,by lia,?_,?_,o2.trans (Jj hsz (by lia) (by lia)),p2⟩))
       ·refine Dn.grow (hi:=lo+x) O g3 (by lia) d3 (by lia) ?_
        show lt (ix (JZ (AV st2) (lo+x - (q+1)) (lo+x) ((lo+x - (lo+x - (q+1))) / 2)) (lo+x - 1)) (ix (JZ (AV st2) (lo+x - (q+1)) (lo+x) ((lo+x - (lo+x - (q+1))) / 2)) (lo+x))=false;rw [Dz hsz,Dz hsz,qX (by omega),qY (by lia)];exact O.ntr _ _ _ (g2.mem (by lia)) (g2.mem (show lo+x - 1 < _ by lia)) (g2.mem (by omega)) hlt (d2 _ _ (by lia) (by omega) (by lia))
       ·have:=U9 O g3 (lo:=lo+x) (by lia)
        rwa [show lo+(x+1) - (0+1)=lo+x by lia,show lo+(x+1)=lo+x+1 by lia]
      ·rw [qY hq0]
       refine AO ⟨g2,0,rfl,by lia,Dn.grow (hi:=lo+x) O g2 (by lia) d2 (by lia) hlt,?_,o2,p2⟩;have:=U9 O g2 (lo:=lo+x) (by lia);rwa [show lo+(x+1) - (0+1)=lo+x by lia,show lo+(x+1)=lo+x+1 by lia]
     | false=>
      dsimp only;rw [qY AR];refine AN (M3 C g2 (by lia) (by lia) ?_)
      cases hl:lt (ix (AV st2) (lo+x - 1)) (ix (AV st2) (lo+x)) with
      | true=>exact AO ⟨g2,x,q,rfl,by lia,hq,d2,u2,o2,p2⟩
      | false=>
       refine AO ⟨g2,q+1,rfl,by lia,Dn.grow (hi:=lo+x) O g2 (by lia) d2 (by lia) hl,?_,o2,p2⟩;rw [show lo+(x+1) - (q+1+1)=lo+x - (q+1) by lia];exact Up.grow (hi:=lo+x) O g2 (by lia) u2 (by omega) hs
    case dpost=>
     rintro c st2 ⟨g2,m,q,rfl,hm,hq,d2,u2,o2,p2⟩;dsimp only
     have hsz:lo+m<=(AV st2).size:=by rw [g2.size];lia
     have last:∀st3,Good a₀ κ st3->Dn lt (AV st3) lo (lo+m)->Out (AV st') (AV st3) lo (lo+nrem)->Aa st3=Aa st'->∀(R:StateT BK Sem (Option Nat)),R=(do
        let mut n:=m
        for _ in [n:nrem] do
         let some smaller <-kS (lo+n) (lo+n - 1) | return none
         if smaller then break
         n:=n+1
        return some n)->wpS (AZ prog w) A E s (do OL lo (lo+m);R) Q st3:=by
      rintro st3 g3 d3 o3 p3 R rfl
      have hsz3:lo+m<=(AV st3).size:=by rw [g3.size];lia
      rw [Kx];refine AN (DR ?_);have g4:Good a₀ κ (setArr st3 (JZ (AV st3) lo (lo+m) ((lo+m - lo) / 2))):=g3.setArr (Sj _ _ _ _)
      exact cg C O (by lia) hm hn g4 (Dn.flip hsz3 d3) λk k1 k2 k3=>h _ k g4 k1 k2 k3 (o3.trans (Jj hsz3 (by lia) (by lia))) p3
     by_cases hq0:q > 0
     ·rw [qX hq0,Kx]
      refine AN (DR ?_);exact last _ (g2.setArr (Sj _ _ _ _)) (Dn.part hsz (by lia) (by omega) d2 u2) (o2.trans (Jj hsz (by lia) (by lia))) p2 _ rfl
     ·rw [qY hq0]
      exact last _ g2 d2 o2 p2 _ rfl
   have hlt:=O.asym _ _ (g.mem (show lo+n < _ by lia)) (g.mem (show lo+n - 1 < _ by omega)) hd'
   by_cases hn0:n > 1
   ·rw [qX hn0]
    refine AN (M3 C g (by lia) (by omega) ?_)
    cases hr:lt (ix (AV st') lo) (ix (AV st') (lo+n - 1)) with
    | true=>exact AO (h st' n g hn1 hn2 u .refl rfl)
    | false=>
     dsimp only;rw [qY AR,Kx]
     have hsz:lo+n<=(AV st').size:=by rw [g.size];lia
     have g1:Good a₀ κ (setArr st' (JZ (AV st') lo (lo+n) ((lo+n - lo) / 2))):=g.setArr (Sj _ _ _ _)
     have al:∀i j,lo<=i->i < lo+n->lo<=j->j < lo+n->lt (ix (AV st') i) (ix (AV st') j)=false:=λi j i1 i2 j1 j2=>by
      have q1:=u j (lo+n - 1) (by omega) (by lia) (by omega);have q2:=u lo i (by lia) (by omega) (by omega);exact O.ntr _ _ _ (g.mem (by lia)) (g.mem (show lo < _ by lia)) (g.mem (by lia)) (O.ntr _ _ _ (g.mem (by lia)) (g.mem (show lo+n - 1 < _ by lia)) (g.mem (by lia)) q1 hr) q2
     refine AN (DR ?_);refine desc _ g1 ?_ (Jj hsz (by lia) (by lia)) rfl;refine Dn.grow (hi:=lo+n) O g1 (by lia) (λi j a1 a2 a3=>?_) (by lia) ?_
     ·show lt (ix (JZ (AV st') lo (lo+n) ((lo+n - lo) / 2)) i) (ix (JZ (AV st') lo (lo+n) ((lo+n - lo) / 2)) j)=false
      rw [Dz hsz,Dz hsz,qX (by lia),qX (by lia)];exact al _ _ (by omega) (by omega) (by omega) (by omega)
     ·show lt (ix (JZ (AV st') lo (lo+n) ((lo+n - lo) / 2)) (lo+n - 1)) (ix (JZ (AV st') lo (lo+n) ((lo+n - lo) / 2)) (lo+n))=false
      rw [Dz hsz,Dz hsz,qX (by omega),qY (by lia),show lo+(lo+n) - 1 - (lo+n - 1)=lo by omega];exact O.ntr _ _ _ (g.mem (by lia)) (g.mem (show lo+n - 1 < _ by lia)) (g.mem (by lia)) hlt hr
   ·rw [qY hn0]
    have e:n=1:=by lia
    subst e;refine desc _ g (Dn.grow (hi:=lo+1) O g (by lia) (λi j a1 a2 a3=>?_) (by lia) hlt) .refl rfl
    have e1:i=lo:=by lia
    have e2:j=lo:=by lia
    rw [e1,e2];exact O.irr (g.mem (by lia))
end
def mP:Bool->Ap->Array Ap->Nat->Nat->Nat->StateT BK Sem (Option Nat):=sortPriv% PySem.Builtin.gallop
section
variable {prog:Aq} {w:BF} {A:BA} {E:AD->AG->Prop} {s:AG} {a₀:Array Ap} {κ:FR} {lt:Ap->Ap->Bool}
abbrev BS:=Option (Option Nat)×Nat×Nat
theorem fq {st:BK} {p:Nat->Bool} {n lo hi:Nat} {F:Nat->BS->StateT BK Sem (ForInStep BS)} {T:BS->StateT BK Sem (Option Nat)} {Q:Option Nat->BK->Prop} (hlh:lo<=hi) (hhn:hi<=n)
  (hlo:∀i,i < lo->p i=true) (hhi:∀i,hi<=i->i < n->p i=false) (mono:∀i j,i<=j->j < n->p j=true->p i=true)
  (hF:∀x l h (R:ForInStep BS->BK->Prop),l<=h->h<=n->(l ≥ h->R (.done (none,l,h)) st)->(l < h->p (l+(h - l) / 2)=true->R (.yield (none,l+(h - l) / 2+1,h)) st)->(l < h->p (l+(h - l) / 2)=false->R (.yield (none,l,l+(h - l) / 2)) st) ->
   wpS (AZ prog w) A E s (F x (none,l,h)) R st)
  (hT:∀l h,h<=n->(∀i,i < h->p i=true)->(∀i,h<=i->i < n->p i=false)->wpS (AZ prog w) A E s (T (none,l,h)) Q st):wpS (AZ prog w) A E s (forIn [0:n] (none,lo,hi) F >>= T) Q st:=by
 refine AN (DD (B2 (I:=λx c st'=>st'=st/\∃l h,c=(none,l,h)/\l<=h/\h<=n/\h - l<=n - x/\(∀i,i < l->p i=true)/\(∀i,h<=i->i < n->p i=false))
  (Q:=λc st'=>st'=st/\∃l h,c=(none,l,h)/\h<=n/\(∀i,i < h->p i=true)/\(∀i,h<=i->i < n->p i=false)) ?step ?fin ⟨rfl,lo,hi,rfl,hlh,hhn,by lia,hlo,hhi⟩) ?post)
 case fin=>
  rintro c st' ⟨rfl,l,h,rfl,h1,h2,h3,h4,h5⟩
  have:l=h:=by lia
  subst this;exact ⟨rfl,l,l,rfl,h2,h4,h5⟩
 case step=>
  rintro x c st' _ hx ⟨rfl,l,h,rfl,h1,h2,h3,h4,h5⟩
  refine hF x l h _ h1 h2 (λhge=>?_) (λhlt hp=>?_) λhlt hp=>?_
  ·have:l=h:=by lia
   subst this;exact ⟨rfl,l,l,rfl,h2,h4,h5⟩
  ·exact ⟨rfl,_,_,rfl,by lia,h2,by omega,λi hi=>mono i (l+(h - l) / 2) (by lia) (by lia) hp,h5⟩
  ·refine ⟨rfl,_,_,rfl,by lia,by lia,by omega,h4,λi hi1 hi2=>?_⟩
   cases e:p i with
   | false=>rfl
   | true=>rw [mono _ i hi1 hi2 e] at hp;cases hp
 case post=>
  rintro c st' ⟨rfl,l,h,rfl,h2,h4,h5⟩;exact hT l h h2 h4 h5
theorem Wz {st:BK} {q:Nat->Bool} {n mx:Nat} {F:Nat->BS->StateT BK Sem (ForInStep BS)} {T:BS->StateT BK Sem (Option Nat)} {Q:Option Nat->BK->Prop} (hm:mx<=n) (q0:q 0=true)
  (hF:∀x a b (R:ForInStep BS->BK->Prop),a < b->(b ≥ mx->R (.done (none,a,b)) st)->(b < mx->q b=false->R (.done (none,a,b)) st)->(b < mx->q b=true->R (.yield (none,b,2 * b+1)) st)->wpS (AZ prog w) A E s (F x (none,a,b)) R st)
  (hT:∀a b,a < b->q a=true->(a=0∨a < mx)->(b < mx->q b=false)->wpS (AZ prog w) A E s (T (none,a,b)) Q st):wpS (AZ prog w) A E s (forIn [0:n] (none,0,1) F >>= T) Q st:=by
 refine AN (DD (B2 (I:=λx c st'=>st'=st/\∃a b,c=(none,a,b)/\a < b/\x+1<=b/\q a=true/\(a=0∨a < mx))
  (Q:=λc st'=>st'=st/\∃a b,c=(none,a,b)/\a < b/\q a=true/\(a=0∨a < mx)/\(b < mx->q b=false)) ?step ?fin ⟨rfl,0,1,rfl,by lia,by lia,q0,.inl rfl⟩) ?post)
 case fin=>
  rintro c st' ⟨rfl,a,b,rfl,h1,h2,h3,h4⟩;exact ⟨rfl,a,b,rfl,h1,h3,h4,λh=>by lia⟩
 case step=>
  rintro x c st' _ hx ⟨rfl,a,b,rfl,h1,h2,h3,h4⟩
  refine hF x a b _ h1 (λhge=>?_) (λhlt hp=>?_) λhlt hp=>?_
  ·exact ⟨rfl,a,b,rfl,h1,h3,h4,λh=>by lia⟩
  ·exact ⟨rfl,a,b,rfl,h1,h3,h4,λ_=>hp⟩
  ·exact ⟨rfl,b,2 * b+1,rfl,by lia,by lia,hp,.inr hlt⟩
 case post=>
  rintro c st' ⟨rfl,a,b,rfl,h1,h3,h4,h5⟩;exact hT a b h1 h3 h4 h5
theorem Ej {st:BK} {left:Bool} {key:Ap} {arr:Array Ap} {base n hint:Nat} {Q:Option Nat->BK->Prop} (C:J1 prog w A s a₀ κ lt) (g:Good a₀ κ st) (p:Nat->Bool)
  (hkey:key∈a₀) (harr:∀i,i < n->base+i < arr.size/\ix arr (base+i)∈a₀) (hp:∀i,i < n->p i=if left=true then lt (ix arr (base+i)) key else !lt key (ix arr (base+i)))
  (mono:∀i j,i<=j->j < n->p j=true->p i=true) (hh:hint < n)
  (h:∀k,k<=n->(∀i,i < k->p i=true)->(∀i,k<=i->i < n->p i=false)->Q (some k) st):wpS (AZ prog w) A E s (mP left key arr base n hint) Q st:=by
 have bey:∀i,i < n->∀R:Option Bool->BK->Prop,R (some (p i)) st->wpS (AZ prog w) A E s (do let x <-elem' arr (base+i);if left=true then lt' x key else do let y <-lt' key x;pure (y.map (!·))) R st:=by
  intro i hi R hR;obtain ⟨h1,h2⟩:=harr i hi;rw [cQ,DG h1];refine AN (AO ?_);rw [hp i hi] at hR
  cases left with
  | true=>exact Ou C g h2 hkey hR
  | false=>exact AN (Ou C g hkey h2 (AO hR))
 refine (AN ?_:wpS _ _ _ _ (mP left key arr base n hint) Q st);refine bey hint hh _ ?_
 have fin:∀(lo hi:Nat) {F:Nat->BS->StateT BK Sem (ForInStep BS)} {T:BS->StateT BK Sem (Option Nat)},lo<=hi->hi<=n->(∀i,i < lo->p i=true)->(∀i,hi<=i->i < n->p i=false) ->
   (∀x l h' (R:ForInStep BS->BK->Prop),l<=h'->h'<=n->(l ≥ h'->R (.done (none,l,h')) st)->(l < h'->p (l+(h' - l) / 2)=true->R (.yield (none,l+(h' - l) / 2+1,h')) st)->(l < h'->p (l+(h' - l) / 2)=false->R (.yield (none,l,l+(h' - l) / 2)) st) ->
    wpS (AZ prog w) A E s (F x (none,l,h')) R st)->(∀l h',T (none,l,h')=pure (some h'))->wpS (AZ prog w) A E s (forIn [0:n] (none,lo,hi) F >>= T) Q st:=λlo hi F T h1 h2 h3 h4 hF hT=>
  fq h1 h2 h3 h4 mono hF λl h' q1 q2 q3=>by rw [hT];exact AO (h h' q1 q2 q3)
 cases hq:p hint with
 | true=>
  dsimp only;rw [qX rfl]
  refine Wz (q:=λi=>decide (hint+i < n)&&p (hint+i)) (mx:=n - hint) (by lia) (by simp [hq,hh]) (λx a b R hab r1 r2 r3=>?_) λa b hab qa ha hb=>?_
  ·dsimp only
   by_cases hge:b ≥ n - hint
   ·rw [qX hge];exact AO (r1 hge)
   ·rw [qY hge]
    refine AN (bey (hint+b) (by lia) _ ?_);have hd:decide (hint+b < n)=true:=wX (by lia)
    cases e:p (hint+b) with
    | true=>exact AO (r3 (by lia) (by simp [hd,e]))
    | false=>exact AO (r2 (by lia) (by simp [hd,e]))
  ·dsimp only
   have pa:p (hint+a)=true:=by simp at qa;exact qa.2
   have han:hint+a < n:=by simp at qa;exact qa.1
   refine fin (hint+a+1) (hint+min b (n - hint)) (by omega) (by omega) (λi hi=>mono i (hint+a) (by lia) han pa) (λi h1 h2=>?_) (λx l h' R l1 l2 r1 r2 r3=>?_) λl h'=>rfl
   ·by_cases hbm:b < n - hint
    ·have:=hb hbm
     have hd:decide (hint+b < n)=true:=wX (by lia);rw [hd,iC] at this
     cases e:p i with
     | false=>rfl
     | true=>rw [mono (hint+b) i (by lia) h2 e] at this;cases this
    ·omega
   ·dsimp only
    by_cases hge:l ≥ h'
    ·rw [qX hge];exact AO (r1 hge)
    ·rw [qY hge]
     refine AN (bey (l+(h' - l) / 2) (by lia) _ ?_)
     cases e:p (l+(h' - l) / 2) with
     | true=>exact AO (r2 (by lia) e)
     | false=>exact AO (r3 (by lia) e)
 | false=>
  dsimp only;rw [qY AR]
  refine Wz (q:=λi=>decide (i<=hint)&&!p (hint - i)) (mx:=hint+1) (by lia) (by simp [hq]) (λx a b R hab r1 r2 r3=>?_) λa b hab qa ha hb=>?_
  ·dsimp only
   by_cases hge:b ≥ hint+1
   ·rw [qX hge];exact AO (r1 hge)
   ·rw [qY hge]
    refine AN (bey (hint - b) (by omega) _ ?_);have hd:decide (b<=hint)=true:=wX (by lia)
    cases e:p (hint - b) with
    | true=>exact AO (r2 (by lia) (by simp [hd,e]))
    | false=>exact AO (r3 (by lia) (by simp [hd,e]))
  ·dsimp only
   have pa:p (hint - a)=false:=by simp at qa;exact qa.2
   have han:a<=hint:=by simp at qa;exact qa.1
   refine fin (hint+1 - min b (hint+1)) (hint - a) (by omega) (by omega) (λi hi=>?_) (λi h1 h2=>?_) (λx l h' R l1 l2 r1 r2 r3=>?_) λl h'=>rfl
   ·by_cases hbm:b < hint+1
    ·have:=hb hbm
     have hd:decide (b<=hint)=true:=wX (by lia);rw [hd,iC] at this;exact mono i (hint - b) (by omega) (by lia) (by simpa using this)
    ·omega
   ·cases e:p i with
    | false=>rfl
    | true=>rw [mono (hint - a) i h1 h2 e] at pa;cases pa
   ·dsimp only
    by_cases hge:l ≥ h'
    ·rw [qX hge];exact AO (r1 hge)
    ·rw [qY hge]
     refine AN (bey (l+(h' - l) / 2) (by lia) _ ?_)
     cases e:p (l+(h' - l) / 2) with
     | true=>exact AO (r2 (by lia) e)
     | false=>exact AO (r3 (by lia) e)
end
structure MI (R:Ap->Ap->Prop) (T o ra rb:List Ap):Prop where
 perm:(o++(ra++rb)).Perm T
 srt:o.Pairwise R
 low:∀x∈o,∀y∈ra++rb,R x y
 sa:ra.Pairwise R
 sb:rb.Pairwise R
structure Hg (R:Ap->Ap->Prop) (T r:List Ap):Prop where
 perm:r.Perm T
 srt:r.Pairwise R
section
variable {R:Ap->Ap->Prop} {T o ra rb xs:List Ap}
theorem MI.takeA (m:MI R T o (xs++ra) rb) (h:∀x∈xs,∀y∈rb,R x y):MI R T (o++xs) ra rb:=by
 have sa:=Bb.mp m.sa;refine ⟨by simpa [BE] using m.perm,Bb.mpr ⟨m.srt,sa.1,λx hx y hy=>m.low x hx y (by simp [hy])⟩,λx hx y hy=>?_,sa.2.1,m.sb⟩
 rcases Aw.mp hx with hx | hx
 ·exact m.low x hx y (by rcases Aw.mp hy with h | h <;> simp [h])
 ·rcases Aw.mp hy with hy | hy
  ·exact sa.2.2 x hx y hy
  ·exact h x hx y hy
theorem MI.takeB (m:MI R T o ra (xs++rb)) (h:∀x∈xs,∀y∈ra,R x y):MI R T (o++xs) ra rb:=by
 have sb:=Bb.mp m.sb;refine ⟨?_,Bb.mpr ⟨m.srt,sb.1,λx hx y hy=>m.low x hx y (by simp [hy])⟩,λx hx y hy=>?_,m.sa,sb.2.1⟩
 ·refine List.Perm.trans ?_ m.perm
  rw [BE];refine Jb o ?_;rw [<-BE,<-BE];exact QS rb Ux
 ·rcases Aw.mp hx with hx | hx
  ·exact m.low x hx y (by rcases Aw.mp hy with h | h <;> simp [h])
  ·rcases Aw.mp hy with hy | hy
   ·exact h x hx y hy
   ·exact sb.2.2 x hx y hy
theorem MI.endA (m:MI R T o ra []):Hg R T (o++ra):=by
 refine ⟨by simpa using m.perm,Bb.mpr ⟨m.srt,m.sa,λx hx y hy=>m.low x hx y (by simp [hy])⟩⟩
theorem MI.endB (m:MI R T o [] rb):Hg R T (o++rb):=by
 refine ⟨by simpa using m.perm,Bb.mpr ⟨m.srt,m.sb,λx hx y hy=>m.low x hx y (by simp [hy])⟩⟩
theorem MI.last (m:MI R T o ra rb) (h:∀y∈rb,∀x∈ra,R y x):Hg R T (o++(rb++ra)):=by
 refine ⟨(Jb o Ux).trans m.perm,Bb.mpr ⟨m.srt,Bb.mpr ⟨m.sb,m.sa,h⟩,λx hx y hy=>m.low x hx y (by rcases Aw.mp hy with h | h <;> simp [h])⟩⟩
end
theorem Of {a:Array Ap} {i:Nat} (h:i < a.size):a.toList.drop i=ix a i :: a.toList.drop (i+1):=by
 rw [Ir (by simpa using h)]
 congr 1
 have:=DG h;rw [getElem?_pos a i h] at this;simpa using this
theorem IB {a:Array Ap} {i k:Nat} (h:i+k<=a.size):a.toList.drop i=(a.extract i (i+k)).toList++a.toList.drop (i+k):=by
 have e:(a.extract i (i+k)).toList=(a.toList.drop i).take k:=by simp [Na]
 rw [e,<-Qu,Ec]
theorem OW {a:Array Ap} {i k:Nat} (h:i+k<=a.size) {x:Ap} (hx:x∈(a.extract i (i+k)).toList):∃j,j < k/\x=ix a (i+j):=by
 rw [BR,OR] at hx;obtain ⟨j,hj,rfl⟩:=hx;refine ⟨j,by lia,?_⟩;have:=DG (xs:=a) (i:=i+j) (by lia);rw [getElem?_pos a _ (by lia)] at this;simpa using this
theorem Jo (a:Array Ap) (i:Nat):(a.extract i a.size).toList=a.toList.drop i:=by
 simp [Na];exact DQ (by simp)
theorem Fi {a:Array Ap} {i:Nat} {x:Ap} (hx:x∈a.toList.drop i):∃j,i<=j/\j < a.size/\x=ix a j:=by
 obtain ⟨k,hk,rfl⟩:=HR.mp hx;simp at hk;refine ⟨i+k,by lia,by omega,?_⟩;have:=DG (xs:=a) (i:=i+k) (by omega);rw [getElem?_pos a _ (by omega)] at this;simpa using this
section
variable {prog:Aq} {w:BF} {A:BA} {E:AD->AG->Prop} {s:AG} {a₀:Array Ap} {κ:FR} {lt:Ap->Ap->Bool}
theorem Be {st:BK} {a:Array Ap} {i:Nat} {Q:Ap->BK->Prop} (h:i < a.size) (hq:Q (ix a i) st):wpS (AZ prog w) A E s (elem' a i) Q st:=by
 rw [cQ,DG h];exact AO hq
def mLo:Array Ap->Array Ap->StateT BK Sem (Array Ap):=sortPriv% PySem.Builtin.mergeLo
def mHi:Array Ap->Array Ap->StateT BK Sem (Array Ap):=sortPriv% PySem.Builtin.mergeHi
structure J6 (a₀:Array Ap) (κ:FR) (st st':BK):Prop where
 good:Good a₀ κ st'
 arr:AV st'=AV st
 pend:Aa st'=Aa st
theorem J6.gal {st st':BK} (h:J6 a₀ κ st st') (n:Nat):J6 a₀ κ st (Gw (kindOf st') (AV st') (Aa st') n (IJ st')):=⟨⟨h.good.perm,h.good.kind,h.good.failed⟩,h.arr,h.pend⟩
abbrev Rl (lt:Ap->Ap->Bool) (x y:Ap):Prop:=lt y x=false
theorem TR (O:Ord (·∈a₀) lt) {a:Array Ap} (ma:∀i,i < a.size->ix a i∈a₀) (sa:a.toList.Pairwise (Rl lt)):∀i j,i<=j->j < a.size->Rl lt (ix a i) (ix a j):=λi j hij hj=>by
 by_cases e:i=j
 ·subst e;exact O.irr (ma i hj)
 ·have hd:=Of (a:=a) (i:=i) (by lia)
  have:=sa.sublist (List.drop_sublist i a.toList);rw [hd] at this;refine (Mt.mp this).1 _ ?_;rw [show a.toList.drop (i+1)=(a.extract (i+1) (i+1+(j - (i+1)))).toList++a.toList.drop (i+1+(j - (i+1))) from IB (by lia),show i+1+(j - (i+1))=j by lia,Of hj];simp
theorem SC {a:Array Ap} (ma:∀x∈a.toList,x∈a₀):∀i,i < a.size->ix a i∈a₀:=λi hi=>ma _ (BR.mpr (Co (DG hi)))
theorem OS {st:BK} {n:Nat} {Q:Unit->BK->Prop} (h:Q () (Gw (kindOf st) (AV st) (Aa st) n (IJ st))):wpS (AZ prog w) A E s ((sortPriv% PySem.Builtin.setMinGallop) n) Q st:=DR h
abbrev L7:=Option (Array Ap)×Array Ap×Nat×Nat×Nat×Nat×Nat
theorem cc {st:BK} {a b:Array Ap} {Q:Array Ap->BK->Prop} (C:J1 prog w A s a₀ κ lt) (O:Ord (·∈a₀) lt) (g:Good a₀ κ st)
  (ma:∀x∈a.toList,x∈a₀) (mb:∀x∈b.toList,x∈a₀) (sa:a.toList.Pairwise (Rl lt)) (sb:b.toList.Pairwise (Rl lt)) (na:0 < a.size) (nb:0 < b.size)
  (h0:∀x∈a.toList,Rl lt (ix b 0) x) (h1:∀y∈b.toList,Rl lt y (ix a (a.size - 1)))
  (h:∀r st',J6 a₀ κ st st'->Hg (Rl lt) (a.toList++b.toList) r.toList->Q r st'):wpS (AZ prog w) A E s (mLo a b) Q st:=by
 have ia0:=SC ma;have ib0:=SC mb;have ua:=TR O ia0 sa;have ub:=TR O ib0 sb
 have tr:∀x y z:Ap,x∈a₀->y∈a₀->z∈a₀->Rl lt x y->Rl lt y z->Rl lt x z:=λx y z hx hy hz h1 h2=>O.ntr x y z hx hy hz h1 h2
 let M (out:Array Ap) (ia ib:Nat):Prop:=MI (Rl lt) (a.toList++b.toList) out.toList (a.toList.drop ia) (b.toList.drop ib)
 have tA:∀out ia ib,M out ia ib->ia < a.size->(∀j,ib<=j->j < b.size->Rl lt (ix a ia) (ix b j))->M (out.push (ix a ia)) (ia+1) ib:=λout ia ib m hia hr=>by
  have m':MI (Rl lt) (a.toList++b.toList) out.toList ([ix a ia]++a.toList.drop (ia+1)) (b.toList.drop ib):=by rw [G3,<-Of hia];exact m
  have:=m'.takeA λx hx y hy=>by
   obtain ⟨j,j1,j2,rfl⟩:=Fi hy;rw [AY.mp hx];exact hr j j1 j2
  simpa [M] using this
 have tB:∀out ia ib,M out ia ib->ib < b.size->(∀j,ia<=j->j < a.size->Rl lt (ix b ib) (ix a j))->M (out.push (ix b ib)) ia (ib+1):=λout ia ib m hib hr=>by
  have m':MI (Rl lt) (a.toList++b.toList) out.toList (a.toList.drop ia) ([ix b ib]++b.toList.drop (ib+1)):=by rw [G3,<-Of hib];exact m
  have:=m'.takeB λx hx y hy=>by
   obtain ⟨j,j1,j2,rfl⟩:=Fi hy;rw [AY.mp hx];exact hr j j1 j2
  simpa [M] using this
 have sA:∀out ia ib k,M out ia ib->ia+k<=a.size->(∀i j,i < k->ib<=j->j < b.size->Rl lt (ix a (ia+i)) (ix b j))->M (out++a.extract ia (ia+k)) (ia+k) ib:=λout ia ib k m hk hr=>by
  have m':MI (Rl lt) (a.toList++b.toList) out.toList ((a.extract ia (ia+k)).toList++a.toList.drop (ia+k)) (b.toList.drop ib):=by rw [<-IB hk];exact m
  have:=m'.takeA λx hx y hy=>by
   obtain ⟨j,j1,j2,rfl⟩:=Fi hy;obtain ⟨i,i1,rfl⟩:=OW hk hx;exact hr i j i1 j1 j2
  show MI _ _ (out++a.extract ia (ia+k)).toList _ _;rw [BI];exact this
 have sB:∀out ia ib k,M out ia ib->ib+k<=b.size->(∀i j,i < k->ia<=j->j < a.size->Rl lt (ix b (ib+i)) (ix a j))->M (out++b.extract ib (ib+k)) ia (ib+k):=λout ia ib k m hk hr=>by
  have m':MI (Rl lt) (a.toList++b.toList) out.toList (a.toList.drop ia) ((b.extract ib (ib+k)).toList++b.toList.drop (ib+k)):=by rw [<-IB hk];exact m
  have:=m'.takeB λx hx y hy=>by
   obtain ⟨j,j1,j2,rfl⟩:=Fi hy;obtain ⟨i,i1,rfl⟩:=OW hk hx;exact hr i j i1 j1 j2
  show MI _ _ (out++b.extract ib (ib+k)).toList _ _;rw [BI];exact this
 have eB:∀out ia ib,M out ia ib->ib=b.size->Hg (Rl lt) (a.toList++b.toList) (out++a.extract ia a.size++b.extract ib b.size).toList:=λout ia ib m e=>by
  subst e
  have m':MI (Rl lt) (a.toList++b.toList) out.toList (a.toList.drop ia) []:=by
   have:b.toList.drop b.size=[]:=by simp
   rw [<-this];exact m
  rw [BI,BI,Jo,Jo,show b.toList.drop b.size=[] by simp,BJ];exact m'.endA
 have eA:∀out ia ib,M out ia ib->ia=a.size->Hg (Rl lt) (a.toList++b.toList) (out++a.extract ia a.size++b.extract ib b.size).toList:=λout ia ib m e=>by
  subst e
  have m':MI (Rl lt) (a.toList++b.toList) out.toList [] (b.toList.drop ib):=by
   have:a.toList.drop a.size=[]:=by simp
   rw [<-this];exact m
  rw [BI,BI,Jo,Jo,show a.toList.drop a.size=[] by simp,BJ];exact m'.endB
 have eL:∀out ia ib,M out ia ib->ia+1=a.size->Hg (Rl lt) (a.toList++b.toList) (out++b.extract ib b.size++a.extract ia a.size).toList:=λout ia ib m e=>by
  have:=m.last λy hy x hx=>by
   obtain ⟨j,j1,j2,rfl⟩:=Fi hx;obtain ⟨i,i1,i2,rfl⟩:=Fi hy
   have:j=a.size - 1:=by lia
   subst this;exact h1 _ (BR.mpr (Co (DG i2)))
  rw [BI,BI,Jo,Jo,BE];exact this
 have m0:M #[] 0 0:=⟨by simp,by simp,by simp,by simpa using sa,by simpa using sb⟩
 have m1:M #[ix b 0] 0 1:=by
  have:=tB #[] 0 0 m0 nb λj _ hj=>h0 _ (BR.mpr (Co (DG hj)))
  simpa using this
 refine (AN (JF ?_):wpS _ _ _ _ (mLo a b) Q st);refine AN (Be nb ?_)
 by_cases c1:1=b.size
 ·refine (show wpS (AZ prog w) A E s (if (1==b.size)=true then _ else _) Q st from ?_)
  rw [qX (by simpa using c1)];exact AO (h _ st ⟨g,rfl,rfl⟩ (eB _ _ _ m1 c1))
 refine (show wpS (AZ prog w) A E s (if (1==b.size)=true then _ else _) Q st from ?_);rw [qY (by simpa using c1)]
 by_cases c2:0+1=a.size
 ·rw [qX (by simpa using c2)]
  exact AO (h _ st ⟨g,rfl,rfl⟩ (eL _ _ _ m1 c2))
 rw [qY (by simpa using c2)];refine AN (HB ?_)
 refine AN (DD (B2 (I:=λx c st'=>J6 a₀ κ st st'/\∃out ia ib mg,c=(none,out,ia,ib,mg)/\M out ia ib/\ia+1 < a.size/\ib < b.size/\1+x<=ia+ib)
  (Q:=λc st'=>J6 a₀ κ st st'/\∃r z,c=(some r,z)/\Hg (Rl lt) (a.toList++b.toList) r.toList) ?step ?fin ?init) ?post)
 case init=>exact ⟨⟨g,rfl,rfl⟩,_,_,_,_,rfl,m1,by lia,by lia,by lia⟩
 case fin=>
  rintro c st' ⟨_,out,ia,ib,mg,_,_,k1,k2,k3⟩
  lia
 case post=>
  rintro c st' ⟨s1,r,z,rfl,f⟩;exact AO (h r st' s1 f)
 case step=>
  rintro x c st1 _ _ ⟨s1,out,ia,ib,mg,rfl,m,k1,k2,k3⟩
  refine AN (DD (B2 (I:=λy c st'=>st'=st1/\∃out' ia' ib' ac bc,c=(none,out',ia',ib',ac,bc)/\M out' ia' ib'/\ia'+1 < a.size/\ib' < b.size/\ia+ib+y<=ia'+ib')
   (Q:=λc st'=>st'=st1/\((∃r z,c=(some r,z)/\Hg (Rl lt) (a.toList++b.toList) r.toList)∨∃out' ia' ib' ac bc,c=(none,out',ia',ib',ac,bc)/\M out' ia' ib'/\ia'+1 < a.size/\ib' < b.size/\ia+ib+1<=ia'+ib')) ?step1 ?fin1 ?init1) ?post1)
  case init1=>exact ⟨rfl,out,ia,ib,0,0,rfl,m,k1,k2,by lia⟩
  case fin1=>
   rintro c st' ⟨rfl,out',ia',ib',ac,bc,rfl,m',q1,q2,q3⟩;exact ⟨rfl,.inr ⟨out',ia',ib',ac,bc,rfl,m',q1,q2,by lia⟩⟩
  case step1=>
   rintro y c st' _ _ ⟨rfl,out',ia',ib',ac,bc,rfl,m',q1,q2,q3⟩;refine AN (Be (i:=ib') q2 ?_);refine AN (Be (i:=ia') (show ia' < a.size by lia) ?_);refine AN (Ou C s1.good (ib0 _ q2) (ia0 _ (by lia)) ?_)
   cases e:lt (ix b ib') (ix a ia') with
   | true=>
    refine AN (Be q2 ?_);have r0:Rl lt (ix b ib') (ix a ia'):=O.asym _ _ (ib0 _ q2) (ia0 _ (by lia)) e
    have m2:=tB out' ia' ib' m' q2 λj j1 j2=>tr _ _ _ (ib0 _ q2) (ia0 _ (by lia)) (ia0 _ j2) r0 (ua ia' j j1 j2)
    refine (show wpS (AZ prog w) A E s (if (ib'+1==b.size)=true then _ else _) _ st' from ?_)
    by_cases d:ib'+1=b.size
    ·rw [qX (by simpa using d)]
     exact AO ⟨rfl,.inl ⟨_,_,rfl,eB _ _ _ m2 d⟩⟩
    ·rw [qY (by simpa using d)]
     split
     ·exact AO ⟨rfl,.inr ⟨_,ia',ib'+1,_,_,rfl,m2,by omega,by lia,by lia⟩⟩
     ·exact AO ⟨rfl,_,ia',ib'+1,_,_,rfl,m2,by omega,by lia,by lia⟩
   | false=>
    refine AN (Be (show ia' < a.size by lia) ?_)
    have m2:=tA out' ia' ib' m' (by lia) λj j1 j2=>tr _ _ _ (ia0 _ (by lia)) (ib0 _ q2) (ib0 _ j2) e (ub ib' j j1 j2)
    refine (show wpS (AZ prog w) A E s (if (ia'+1+1==a.size)=true then _ else _) _ st' from ?_)
    by_cases d:ia'+1+1=a.size
    ·rw [qX (by simpa using d)]
     exact AO ⟨rfl,.inl ⟨_,_,rfl,eL _ _ _ m2 d⟩⟩
    ·rw [qY (by simpa using d)]
     split
     ·exact AO ⟨rfl,.inr ⟨_,ia'+1,ib',_,_,rfl,m2,by lia,by omega,by lia⟩⟩
     ·exact AO ⟨rfl,_,ia'+1,ib',_,_,rfl,m2,by lia,by omega,by lia⟩
  case post1=>
   rintro c st' ⟨rfl,⟨r,z,rfl,f⟩ | ⟨out',ia',ib',ac,bc,rfl,m',q1,q2,q3⟩⟩
   ·exact AO ⟨s1,_,_,rfl,f⟩
   refine AN (JF ?_)
   refine AN (DD (B2 (I:=λy c st2=>J6 a₀ κ st st2/\∃out2 ia2 ib2 mg2 ac bc,c=(none,out2,ia2,ib2,mg2,ac,bc)/\M out2 ia2 ib2/\ia2+1 < a.size/\ib2 < b.size/\ia+ib+1<=ia2+ib2)
    (Q:=λc st2=>J6 a₀ κ st st2/\((∃r z,c=(some r,z)/\Hg (Rl lt) (a.toList++b.toList) r.toList)∨∃out2 ia2 ib2 mg2 ac bc,c=(none,out2,ia2,ib2,mg2,ac,bc)/\M out2 ia2 ib2/\ia2+1 < a.size/\ib2 < b.size/\ia+ib+1<=ia2+ib2)) ?step2 ?fin2 ?init2) ?post2)
   case init2=>exact ⟨s1,out',ia',ib',mg+1,ac,bc,rfl,m',q1,q2,q3⟩
   case fin2=>
    rintro c st2 ⟨s2,out2,ia2,ib2,mg2,ac2,bc2,rfl,m2,p1,p2,p3⟩;exact ⟨s2,.inr ⟨out2,ia2,ib2,mg2,ac2,bc2,rfl,m2,p1,p2,p3⟩⟩
   case post2=>
    rintro c st2 ⟨s2,⟨r,z,rfl,f⟩ | ⟨out2,ia2,ib2,mg2,ac2,bc2,rfl,m2,p1,p2,p3⟩⟩
    ·exact AO ⟨s2,_,_,rfl,f⟩
    ·exact AN (OS (AO ⟨s2.gal _,out2,ia2,ib2,mg2+1,rfl,m2,p1,p2,by lia⟩))
   case step2=>
    rintro y c st2 _ _ ⟨s2,out2,ia2,ib2,mg2,ac2,bc2,rfl,m2,p1,p2,p3⟩
    let P:ForInStep L7->BK->Prop:=λr st'=>match r with
     | .done c'=>J6 a₀ κ st st'/\((∃r z,c'=(some r,z)/\Hg (Rl lt) (a.toList++b.toList) r.toList)∨∃out2 ia2 ib2 mg2 ac bc,c'=(none,out2,ia2,ib2,mg2,ac,bc)/\M out2 ia2 ib2/\ia2+1 < a.size/\ib2 < b.size/\ia+ib+1<=ia2+ib2)
     | .yield c'=>J6 a₀ κ st st'/\∃out2 ia2 ib2 mg2 ac bc,c'=(none,out2,ia2,ib2,mg2,ac,bc)/\M out2 ia2 ib2/\ia2+1 < a.size/\ib2 < b.size/\ia+ib+1<=ia2+ib2
    refine DD (Q:=P) ?_ λr st' h=>by cases r <;> exact h
    refine (show wpS (AZ prog w) A E s (if mg2 > 1 then _ else _) P st2 from ?_);split
    all_goals
     refine AN (OS ?_);refine AN (Be (i:=ib2) p2 ?_);refine AN (Ej (base:=ia2) (n:=a.size - ia2) (hint:=0) (arr:=a) (key:=ix b ib2) (left:=false) C (s2.gal _).good (λi=>!lt (ix b ib2) (ix a (ia2+i))) (ib0 _ p2) (λi hi=>⟨by lia,ia0 _ (by lia)⟩) (λi hi=>rfl) (λi j hij hj e=>?_) (by lia) λk hk k1 k2=>?_)
     ·have e':lt (ix b ib2) (ix a (ia2+j))=false:=by simpa using e
      have:=tr _ _ _ (ia0 _ (by lia)) (ia0 _ (by lia)) (ib0 _ p2) (ua (ia2+i) (ia2+j) (by lia) (by lia)) e';simpa using this
     ·have far:∀j,ia2+k<=j->j < a.size->Rl lt (ix b ib2) (ix a j):=λj j1 j2=>by
       have:=k2 (j - ia2) (by lia) (by lia);rw [show ia2+(j - ia2)=j by lia] at this;exact O.asym _ _ (ib0 _ p2) (ia0 _ j2) (by simpa using this)
      have m5:=sA out2 ia2 ib2 k m2 (by lia) λi j hi j1 j2=>tr _ _ _ (ia0 _ (by lia)) (ib0 _ p2) (ib0 _ j2) (by simpa using k1 i hi) (ub ib2 j j1 j2)
      refine (show wpS (AZ prog w) A E s (if k > 0 then _ else _) P _ from ?_)
      by_cases hk0:k > 0
      ·rw [qX hk0]
       refine (show wpS (AZ prog w) A E s (if (ia2+k+1==a.size)=true then _ else _) P _ from ?_)
       by_cases d1:ia2+k+1=a.size
       ·rw [qX (by simpa using d1)]
        exact AO ⟨s2.gal _,.inl ⟨_,_,rfl,eL _ _ _ m5 d1⟩⟩
       rw [qY (by simpa using d1)]
       by_cases d2:ia2+k=a.size
       ·rw [qX (by simpa using d2)]
        exact AO ⟨s2.gal _,.inl ⟨_,_,rfl,eA _ _ _ m5 d2⟩⟩
       rw [qY (by simpa using d2)]
       have c1:ia2+k+1 < a.size:=by lia
       have c3:ia+ib+1<=ia2+k+ib2:=by lia
       have m4:=tB _ _ _ m5 p2 far;refine AN (Be (i:=ib2) p2 ?_);refine (show wpS (AZ prog w) A E s (if (ib2+1==b.size)=true then _ else _) P _ from ?_)
       by_cases d:ib2+1=b.size
       ·rw [qX (by simpa using d)]
        exact AO ⟨s2.gal _,.inl ⟨_,_,rfl,eB _ _ _ m4 d⟩⟩
       rw [qY (by simpa using d)];refine AN (Be (i:=ia2+k) (by lia) ?_);refine AN (Ej (base:=ib2+1) (n:=b.size - (ib2+1)) (hint:=0) (arr:=b) (key:=ix a (ia2+k)) (left:=true) C (s2.gal _).good (λi=>lt (ix b (ib2+1+i)) (ix a (ia2+k))) (ia0 _ (by lia)) (λi hi=>⟨by lia,ib0 _ (by lia)⟩) (λi hi=>rfl) (λi j hij hj e=>?_) (by lia) λk3 hk3 k4 k5=>?_)
       ·cases e2:lt (ix b (ib2+1+i)) (ix a (ia2+k)) with
        | true=>rfl
        | false=>
         have:=tr _ _ _ (ia0 _ (by lia)) (ib0 _ (by lia)) (ib0 _ (by lia)) e2 (ub (ib2+1+i) (ib2+1+j) (by lia) (by lia));exact nomatch (show true=false from (show lt (ix b (ib2+1+j)) (ix a (ia2+k))=true from e).symm.trans this)
       ·have far2:∀j,ib2+1+k3<=j->j < b.size->Rl lt (ix a (ia2+k)) (ix b j):=λj j1 j2=>by
         have:=k5 (j - (ib2+1)) (by lia) (by omega);rwa [show ib2+1+(j - (ib2+1))=j by lia] at this
        have m6:=sB _ (ia2+k) (ib2+1) k3 m4 (by lia) λi j hi j1 j2=>tr _ _ _ (ib0 _ (by lia)) (ia0 _ (by lia)) (ia0 _ j2) (O.asym _ _ (ib0 _ (by lia)) (ia0 _ (by lia)) (k4 i hi)) (ua (ia2+k) j j1 j2)
        refine (show wpS (AZ prog w) A E s (if k3 > 0 then _ else _) P _ from ?_)
        by_cases hk3:k3 > 0
        ·rw [qX hk3]
         refine (show wpS (AZ prog w) A E s (if (ib2+1+k3==b.size)=true then _ else _) P _ from ?_)
         by_cases d2:ib2+1+k3=b.size
         ·rw [qX (by simpa using d2)]
          exact AO ⟨s2.gal _,.inl ⟨_,_,rfl,eB _ _ _ m6 d2⟩⟩
         rw [qY (by simpa using d2)];have m7:=tA _ _ _ m6 (by lia) far2;refine AN (Be (i:=ia2+k) (by lia) ?_);refine (show wpS (AZ prog w) A E s (if (ia2+k+1+1==a.size)=true then _ else _) P _ from ?_)
         by_cases d3:ia2+k+1+1=a.size
         ·rw [qX (by simpa using d3)]
          exact AO ⟨s2.gal _,.inl ⟨_,_,rfl,eL _ _ _ m7 d3⟩⟩
         rw [qY (by simpa using d3)];split
         ·exact AO ⟨s2.gal _,.inr ⟨_,ia2+k+1,ib2+1+k3,_,_,_,rfl,m7,by lia,by lia,by lia⟩⟩
         ·exact AO ⟨s2.gal _,_,ia2+k+1,ib2+1+k3,_,_,_,rfl,m7,by lia,by lia,by lia⟩
        ·rw [qY hk3]
         have:k3=0:=by lia
         subst this;have m7:=tA _ _ _ m4 (by lia) far2;refine AN (Be (i:=ia2+k) (by lia) ?_);refine (show wpS (AZ prog w) A E s (if (ia2+k+1+1==a.size)=true then _ else _) P _ from ?_)
         by_cases d3:ia2+k+1+1=a.size
         ·rw [qX (by simpa using d3)]
          exact AO ⟨s2.gal _,.inl ⟨_,_,rfl,eL _ _ _ m7 d3⟩⟩
         rw [qY (by simpa using d3)];split
         ·exact AO ⟨s2.gal _,.inr ⟨_,ia2+k+1,ib2+1,_,_,_,rfl,m7,by lia,by lia,by lia⟩⟩
         ·exact AO ⟨s2.gal _,_,ia2+k+1,ib2+1,_,_,_,rfl,m7,by lia,by lia,by lia⟩
      ·rw [qY hk0]
       have:k=0:=by lia
       subst this
       have c1:ia2+1 < a.size:=by omega
       have c3:ia+ib+1<=ia2+ib2:=by omega
       have m4:=tB _ _ _ m2 p2 far;refine AN (Be (i:=ib2) p2 ?_);refine (show wpS (AZ prog w) A E s (if (ib2+1==b.size)=true then _ else _) P _ from ?_)
       by_cases d:ib2+1=b.size
       ·rw [qX (by simpa using d)]
        exact AO ⟨s2.gal _,.inl ⟨_,_,rfl,eB _ _ _ m4 d⟩⟩
       rw [qY (by simpa using d)];refine AN (Be (i:=ia2) (by lia) ?_);refine AN (Ej (base:=ib2+1) (n:=b.size - (ib2+1)) (hint:=0) (arr:=b) (key:=ix a ia2) (left:=true) C (s2.gal _).good (λi=>lt (ix b (ib2+1+i)) (ix a ia2)) (ia0 _ (by lia)) (λi hi=>⟨by lia,ib0 _ (by lia)⟩) (λi hi=>rfl) (λi j hij hj e=>?_) (by lia) λk3 hk3 k4 k5=>?_)
       ·cases e2:lt (ix b (ib2+1+i)) (ix a ia2) with
        | true=>rfl
        | false=>
         have:=tr _ _ _ (ia0 _ (by lia)) (ib0 _ (by lia)) (ib0 _ (by lia)) e2 (ub (ib2+1+i) (ib2+1+j) (by lia) (by lia));exact nomatch (show true=false from (show lt (ix b (ib2+1+j)) (ix a ia2)=true from e).symm.trans this)
       ·have far2:∀j,ib2+1+k3<=j->j < b.size->Rl lt (ix a ia2) (ix b j):=λj j1 j2=>by
         have:=k5 (j - (ib2+1)) (by lia) (by omega);rwa [show ib2+1+(j - (ib2+1))=j by lia] at this
        have m6:=sB _ ia2 (ib2+1) k3 m4 (by lia) λi j hi j1 j2=>tr _ _ _ (ib0 _ (by lia)) (ia0 _ (by lia)) (ia0 _ j2) (O.asym _ _ (ib0 _ (by lia)) (ia0 _ (by lia)) (k4 i hi)) (ua ia2 j j1 j2)
        refine (show wpS (AZ prog w) A E s (if k3 > 0 then _ else _) P _ from ?_)
        by_cases hk3:k3 > 0
        ·rw [qX hk3]
         refine (show wpS (AZ prog w) A E s (if (ib2+1+k3==b.size)=true then _ else _) P _ from ?_)
         by_cases d2:ib2+1+k3=b.size
         ·rw [qX (by simpa using d2)]
          exact AO ⟨s2.gal _,.inl ⟨_,_,rfl,eB _ _ _ m6 d2⟩⟩
         rw [qY (by simpa using d2)];have m7:=tA _ _ _ m6 (by lia) far2;refine AN (Be (i:=ia2) (by lia) ?_);refine (show wpS (AZ prog w) A E s (if (ia2+1+1==a.size)=true then _ else _) P _ from ?_)
         by_cases d3:ia2+1+1=a.size
         ·rw [qX (by simpa using d3)]
          exact AO ⟨s2.gal _,.inl ⟨_,_,rfl,eL _ _ _ m7 d3⟩⟩
         rw [qY (by simpa using d3)];split
         ·exact AO ⟨s2.gal _,.inr ⟨_,ia2+1,ib2+1+k3,_,_,_,rfl,m7,by lia,by lia,by lia⟩⟩
         ·exact AO ⟨s2.gal _,_,ia2+1,ib2+1+k3,_,_,_,rfl,m7,by lia,by lia,by lia⟩
        ·rw [qY hk3]
         have:k3=0:=by lia
         subst this;have m7:=tA _ _ _ m4 (by lia) far2;refine AN (Be (i:=ia2) (by lia) ?_);refine (show wpS (AZ prog w) A E s (if (ia2+1+1==a.size)=true then _ else _) P _ from ?_)
         by_cases d3:ia2+1+1=a.size
         ·rw [qX (by simpa using d3)]
          exact AO ⟨s2.gal _,.inl ⟨_,_,rfl,eL _ _ _ m7 d3⟩⟩
         rw [qY (by simpa using d3)];split
         ·exact AO ⟨s2.gal _,.inr ⟨_,ia2+1,ib2+1,_,_,_,rfl,m7,by lia,by lia,by lia⟩⟩
         ·exact AO ⟨s2.gal _,_,ia2+1,ib2+1,_,_,_,rfl,m7,by lia,by lia,by lia⟩
end
theorem MI.last2 {R:Ap->Ap->Prop} {T o ra rb:List Ap} (m:MI R T o ra rb) (h:∀x∈ra,∀y∈rb,R x y):Hg R T (o++(ra++rb)):=by
 refine ⟨m.perm,Bb.mpr ⟨m.srt,Bb.mpr ⟨m.sa,m.sb,h⟩,λx hx y hy=>m.low x hx y hy⟩⟩
theorem Hg.rev {lt:Ap->Ap->Bool} {T r:List Ap} (f:Hg (λx y=>Rl lt y x) T r):Hg (Rl lt) T r.reverse:=⟨r.reverse_perm.trans f.perm,Kn.mpr f.srt⟩
theorem WU {a:Array Ap} {i:Nat} (h:i < a.size):(a.toList.take (i+1)).reverse=ix a i :: (a.toList.take i).reverse:=by
 have:=DG h;rw [getElem?_pos a i h] at this;rw [JB,show a.toList[i]?=some (ix a i) by simpa using DG h];simp
theorem TV {a:Array Ap} {i n:Nat} (h:i<=n) (hn:n<=a.size):(a.toList.take n).reverse=(a.extract i n).toList.reverse++(a.toList.take i).reverse:=by
 have e:(a.extract i n).toList=(a.toList.take n).drop i:=by simp [Na,List.drop_take]
 rw [e,<-List.reverse_append]
 congr 1
 have:=Ec i (a.toList.take n);rw [List.take_take,show min i n=i by lia] at this;exact this.symm
theorem Fh {a:Array Ap} {n:Nat} {x:Ap} (hx:x∈(a.toList.take n).reverse):∃j,j < n/\j < a.size/\x=ix a j:=by
 rw [cH] at hx;obtain ⟨k,hk,rfl⟩:=HR.mp hx;simp at hk;refine ⟨k,by lia,by lia,?_⟩;have:=DG (xs:=a) (i:=k) (by lia);rw [getElem?_pos a _ (by lia)] at this;simpa using this
theorem Tx {a:Array Ap} {i n:Nat} {x:Ap} (hx:x∈(a.extract i n).toList.reverse):∃j,i<=j/\j < n/\j < a.size/\x=ix a j:=by
 rw [cH,BR,OR] at hx;obtain ⟨j,hj,rfl⟩:=hx;refine ⟨i+j,by lia,by omega,by omega,?_⟩;have:=DG (xs:=a) (i:=i+j) (by omega);rw [getElem?_pos a _ (by omega)] at this;simpa using this
theorem Hn (a:Array Ap) (n:Nat):(a.extract 0 n).toList=a.toList.take n:=by simp [Na]
section
variable {prog:Aq} {w:BF} {A:BA} {E:AD->AG->Prop} {s:AG} {a₀:Array Ap} {κ:FR} {lt:Ap->Ap->Bool}
theorem cf {st:BK} {a b:Array Ap} {Q:Array Ap->BK->Prop} (C:J1 prog w A s a₀ κ lt) (O:Ord (·∈a₀) lt) (g:Good a₀ κ st)
  (ma:∀x∈a.toList,x∈a₀) (mb:∀x∈b.toList,x∈a₀) (sa:a.toList.Pairwise (Rl lt)) (sb:b.toList.Pairwise (Rl lt)) (pa:0 < a.size) (pb:0 < b.size)
  (h0:∀x∈a.toList,Rl lt (ix b 0) x) (h1:∀y∈b.toList,Rl lt y (ix a (a.size - 1)))
  (h:∀r st',J6 a₀ κ st st'->Hg (Rl lt) (a.toList++b.toList) r.toList->Q r st'):wpS (AZ prog w) A E s (mHi a b) Q st:=by
 have ia0:=SC ma;have ib0:=SC mb;have ua:=TR O ia0 sa;have ub:=TR O ib0 sb
 have tr:∀x y z:Ap,x∈a₀->y∈a₀->z∈a₀->Rl lt x y->Rl lt y z->Rl lt x z:=λx y z hx hy hz h1 h2=>O.ntr x y z hx hy hz h1 h2
 let M (out:Array Ap) (na nb:Nat):Prop:=MI (λx y=>Rl lt y x) (a.toList++b.toList) out.toList (a.toList.take na).reverse (b.toList.take nb).reverse
 have tA0:∀out na nb,M out (na+1) nb->na < a.size->nb<=b.size->(∀j,j < nb->Rl lt (ix b j) (ix a na))->M (out.push (ix a na)) na nb:=λout na nb m hna hnb hr=>by
  have m':MI (λx y=>Rl lt y x) (a.toList++b.toList) out.toList ([ix a na]++(a.toList.take na).reverse) (b.toList.take nb).reverse:=by rw [G3,<-WU hna];exact m
  have:=m'.takeA λx hx y hy=>by
   obtain ⟨j,j1,j2,rfl⟩:=Fh hy;rw [AY.mp hx];exact hr j j1
  simpa [M] using this
 have tB0:∀out na nb,M out na (nb+1)->nb < b.size->na<=a.size->(∀j,j < na->Rl lt (ix a j) (ix b nb))->M (out.push (ix b nb)) na nb:=λout na nb m hnb hna hr=>by
  have m':MI (λx y=>Rl lt y x) (a.toList++b.toList) out.toList (a.toList.take na).reverse ([ix b nb]++(b.toList.take nb).reverse):=by rw [G3,<-WU hnb];exact m
  have:=m'.takeB λx hx y hy=>by
   obtain ⟨j,j1,j2,rfl⟩:=Fh hy;rw [AY.mp hx];exact hr j j1
  simpa [M] using this
 have tA:∀out na nb,M out na nb->0 < na->na<=a.size->nb<=b.size->(∀j,j < nb->Rl lt (ix b j) (ix a (na - 1)))->M (out.push (ix a (na - 1))) (na - 1) nb:=λout na nb m h0 hna hnb hr=>
  tA0 out (na - 1) nb (by rw [show na - 1+1=na by lia];exact m) (by omega) hnb hr
 have tB:∀out na nb,M out na nb->0 < nb->nb<=b.size->na<=a.size->(∀j,j < na->Rl lt (ix a j) (ix b (nb - 1)))->M (out.push (ix b (nb - 1))) na (nb - 1):=λout na nb m h0 hnb hna hr=>
  tB0 out na (nb - 1) (by rw [show nb - 1+1=nb by lia];exact m) (by omega) hna hr
 have sA:∀out na nb k,M out na nb->k<=na->na<=a.size->nb<=b.size->(∀i j,k<=i->i < na->j < nb->Rl lt (ix b j) (ix a i))->M (out++(a.extract k na).reverse) k nb:=λout na nb k m hk hna hnb hr=>by
  have m':MI (λx y=>Rl lt y x) (a.toList++b.toList) out.toList ((a.extract k na).toList.reverse++(a.toList.take k).reverse) (b.toList.take nb).reverse:=by rw [<-TV hk hna];exact m
  have:=m'.takeA λx hx y hy=>by
   obtain ⟨j,j1,j2,rfl⟩:=Fh hy;obtain ⟨i,i1,i2,i3,rfl⟩:=Tx hx;exact hr i j i1 i2 j1
  show MI _ _ (out++(a.extract k na).reverse).toList _ _;rw [BI,Er];exact this
 have sB:∀out na nb k,M out na nb->k<=nb->nb<=b.size->na<=a.size->(∀i j,k<=i->i < nb->j < na->Rl lt (ix a j) (ix b i))->M (out++(b.extract k nb).reverse) na k:=λout na nb k m hk hnb hna hr=>by
  have m':MI (λx y=>Rl lt y x) (a.toList++b.toList) out.toList (a.toList.take na).reverse ((b.extract k nb).toList.reverse++(b.toList.take k).reverse):=by rw [<-TV hk hnb];exact m
  have:=m'.takeB λx hx y hy=>by
   obtain ⟨j,j1,j2,rfl⟩:=Fh hy;obtain ⟨i,i1,i2,i3,rfl⟩:=Tx hx;exact hr i j i1 i2 j1
  show MI _ _ (out++(b.extract k nb).reverse).toList _ _;rw [BI,Er];exact this
 have eA:∀out na nb,M out na nb->na=0->Hg (Rl lt) (a.toList++b.toList) (a.extract 0 na++b.extract 0 nb++out.reverse).toList:=λout na nb m e=>by
  subst e
  have m':MI (λx y=>Rl lt y x) (a.toList++b.toList) out.toList [] (b.toList.take nb).reverse:=by simpa [M] using m
  have:=m'.endB.rev;rw [BI,BI,Hn,Hn,Er];simpa using this
 have eB:∀out na nb,M out na nb->nb=0->Hg (Rl lt) (a.toList++b.toList) (a.extract 0 na++b.extract 0 nb++out.reverse).toList:=λout na nb m e=>by
  subst e
  have m':MI (λx y=>Rl lt y x) (a.toList++b.toList) out.toList (a.toList.take na).reverse []:=by simpa [M] using m
  have:=m'.endA.rev;rw [BI,BI,Hn,Hn,Er];simpa using this
 have eF:∀out na nb,M out na nb->nb=1->Hg (Rl lt) (a.toList++b.toList) (b.extract 0 nb++a.extract 0 na++out.reverse).toList:=λout na nb m e=>by
  have:=m.last2 λx hx y hy=>by
   obtain ⟨j,j1,j2,rfl⟩:=Fh hx;obtain ⟨i,i1,i2,rfl⟩:=Fh hy
   have:i=0:=by lia
   subst this;exact h0 _ (BR.mpr (Co (DG j2)))
  have:=this.rev;rw [BI,BI,Hn,Hn,Er];simpa using this
 have m0:M #[] a.size b.size:=by
  refine ⟨?_,by simp,by simp,?_,?_⟩
  ·rw [DQ (by simp),DQ (by simp)]
   simpa using List.Perm.append a.toList.reverse_perm b.toList.reverse_perm
  ·rw [DQ (by simp)];exact Kn.mpr sa
  ·rw [DQ (by simp)];exact Kn.mpr sb
 have m1:M #[ix a (a.size - 1)] (a.size - 1) b.size:=by
  have:=tA #[] a.size b.size m0 pa (AL _) (AL _) λj hj=>h1 _ (BR.mpr (Co (DG hj)))
  simpa using this
 refine (AN (JF ?_):wpS _ _ _ _ (mHi a b) Q st);refine AN (Be (i:=a.size - 1) (by omega) ?_)
 by_cases c1:a.size - 1=0
 ·refine (show wpS (AZ prog w) A E s (if (a.size - 1==0)=true then _ else _) Q st from ?_)
  rw [qX (by simpa using c1)];exact AO (h _ st ⟨g,rfl,rfl⟩ (eA _ _ _ m1 c1))
 refine (show wpS (AZ prog w) A E s (if (a.size - 1==0)=true then _ else _) Q st from ?_);rw [qY (by simpa using c1)]
 by_cases c2:b.size=1
 ·rw [qX (by simpa using c2)]
  exact AO (h _ st ⟨g,rfl,rfl⟩ (eF _ _ _ m1 c2))
 rw [qY (by simpa using c2)];refine AN (HB ?_)
 refine AN (DD (B2 (I:=λx c st'=>J6 a₀ κ st st'/\∃out na nb mg,c=(none,na,nb,out,mg)/\M out na nb/\0 < na/\1 < nb/\na<=a.size/\nb<=b.size/\na+nb+1+x<=a.size+b.size)
  (Q:=λc st'=>J6 a₀ κ st st'/\∃r z,c=(some r,z)/\Hg (Rl lt) (a.toList++b.toList) r.toList) ?step ?fin ?init) ?post)
 case init=>exact ⟨⟨g,rfl,rfl⟩,_,a.size - 1,b.size,_,rfl,m1,by lia,by lia,by omega,by lia,by lia⟩
 case fin=>
  rintro c st' ⟨_,out,na,nb,mg,_,_,k1,k2,k3,k4,k5⟩
  lia
 case post=>
  rintro c st' ⟨s1,r,z,rfl,f⟩;exact AO (h r st' s1 f)
 case step=>
  rintro x c st1 _ _ ⟨s1,out,na,nb,mg,rfl,m,k1,k2,k3,k4,k5⟩
  refine AN (DD (B2 (I:=λy c st'=>st'=st1/\∃out' na' nb' ac bc,c=(none,na',nb',out',ac,bc)/\M out' na' nb'/\0 < na'/\1 < nb'/\na'<=a.size/\nb'<=b.size/\na'+nb'+y<=na+nb)
   (Q:=λc st'=>st'=st1/\((∃r z,c=(some r,z)/\Hg (Rl lt) (a.toList++b.toList) r.toList)∨∃out' na' nb' ac bc,c=(none,na',nb',out',ac,bc)/\M out' na' nb'/\0 < na'/\1 < nb'/\na'<=a.size/\nb'<=b.size/\na'+nb'+1<=na+nb)) ?step1 ?fin1 ?init1) ?post1)
  case init1=>exact ⟨rfl,out,na,nb,0,0,rfl,m,k1,k2,k3,k4,by lia⟩
  case fin1=>
   rintro c st' ⟨rfl,out',na',nb',ac,bc,rfl,m',q1,q2,q3,q4,q5⟩;exact ⟨rfl,.inr ⟨out',na',nb',ac,bc,rfl,m',q1,q2,q3,q4,by lia⟩⟩
  case step1=>
   rintro y c st' _ _ ⟨rfl,out',na',nb',ac,bc,rfl,m',q1,q2,q3,q4,q5⟩;refine AN (Be (i:=nb' - 1) (by lia) ?_);refine AN (Be (i:=na' - 1) (by lia) ?_);refine AN (Ou C s1.good (ib0 _ (by lia)) (ia0 _ (by lia)) ?_)
   cases e:lt (ix b (nb' - 1)) (ix a (na' - 1)) with
   | true=>
    refine AN (Be (i:=na' - 1) (by lia) ?_);have r0:Rl lt (ix b (nb' - 1)) (ix a (na' - 1)):=O.asym _ _ (ib0 _ (by lia)) (ia0 _ (by lia)) e
    have m2:=tA out' na' nb' m' q1 q3 q4 λj j1=>tr _ _ _ (ib0 _ (by lia)) (ib0 _ (by lia)) (ia0 _ (by lia)) (ub j (nb' - 1) (by lia) (by lia)) r0
    refine (show wpS (AZ prog w) A E s (if (na' - 1==0)=true then _ else _) _ st' from ?_)
    by_cases d:na' - 1=0
    ·rw [qX (by simpa using d)]
     exact AO ⟨rfl,.inl ⟨_,_,rfl,eA _ _ _ m2 d⟩⟩
    ·rw [qY (by simpa using d)]
     split
     ·exact AO ⟨rfl,.inr ⟨_,na' - 1,nb',_,_,rfl,m2,by lia,by omega,by lia,by omega,by lia⟩⟩
     ·exact AO ⟨rfl,_,na' - 1,nb',_,_,rfl,m2,by lia,by omega,by lia,by omega,by lia⟩
   | false=>
    refine AN (Be (i:=nb' - 1) (by lia) ?_)
    have m2:=tB out' na' nb' m' (by lia) q4 q3 λj j1=>tr _ _ _ (ia0 _ (by lia)) (ia0 _ (by lia)) (ib0 _ (by lia)) (ua j (na' - 1) (by lia) (by lia)) e
    refine (show wpS (AZ prog w) A E s (if (nb' - 1==1)=true then _ else _) _ st' from ?_)
    by_cases d:nb' - 1=1
    ·rw [qX (by simpa using d)]
     exact AO ⟨rfl,.inl ⟨_,_,rfl,eF _ _ _ m2 d⟩⟩
    ·rw [qY (by simpa using d)]
     split
     ·exact AO ⟨rfl,.inr ⟨_,na',nb' - 1,_,_,rfl,m2,by omega,by lia,by omega,by lia,by lia⟩⟩
     ·exact AO ⟨rfl,_,na',nb' - 1,_,_,rfl,m2,by omega,by lia,by omega,by lia,by lia⟩
  case post1=>
   rintro c st' ⟨rfl,⟨r,z,rfl,f⟩ | ⟨out',na',nb',ac,bc,rfl,m',q1,q2,q3,q4,q5⟩⟩
   ·exact AO ⟨s1,_,_,rfl,f⟩
   refine AN (JF ?_)
   refine AN (DD (B2 (I:=λy c st2=>J6 a₀ κ st st2/\∃out2 na2 nb2 mg2 ac bc,c=(none,na2,nb2,out2,mg2,ac,bc)/\M out2 na2 nb2/\0 < na2/\1 < nb2/\na2<=a.size/\nb2<=b.size/\na2+nb2+1<=na+nb)
    (Q:=λc st2=>J6 a₀ κ st st2/\((∃r z,c=(some r,z)/\Hg (Rl lt) (a.toList++b.toList) r.toList)∨∃out2 na2 nb2 mg2 ac bc,c=(none,na2,nb2,out2,mg2,ac,bc)/\M out2 na2 nb2/\0 < na2/\1 < nb2/\na2<=a.size/\nb2<=b.size/\na2+nb2+1<=na+nb)) ?step2 ?fin2 ?init2) ?post2)
   case init2=>exact ⟨s1,out',na',nb',mg+1,ac,bc,rfl,m',q1,q2,q3,q4,q5⟩
   case fin2=>
    rintro c st2 ⟨s2,out2,na2,nb2,mg2,ac2,bc2,rfl,m2,p1⟩;exact ⟨s2,.inr ⟨out2,na2,nb2,mg2,ac2,bc2,rfl,m2,p1⟩⟩
   case post2=>
    rintro c st2 ⟨s2,⟨r,z,rfl,f⟩ | ⟨out2,na2,nb2,mg2,ac2,bc2,rfl,m2,p1,p2,p3,p4,p5⟩⟩
    ·exact AO ⟨s2,_,_,rfl,f⟩
    ·exact AN (OS (AO ⟨s2.gal _,out2,na2,nb2,mg2+1,rfl,m2,p1,p2,p3,p4,by lia⟩))
   case step2=>
    rintro y c st2 _ _ ⟨s2,out2,na2,nb2,mg2,ac2,bc2,rfl,m2,p1,p2,p3,p4,p5⟩
    let P:ForInStep (Option (Array Ap)×Nat×Nat×Array Ap×Nat×Nat×Nat)->BK->Prop:=λr st'=>match r with
     | .done c'=>J6 a₀ κ st st'/\((∃r z,c'=(some r,z)/\Hg (Rl lt) (a.toList++b.toList) r.toList)∨∃out2 na2 nb2 mg2 ac bc,c'=(none,na2,nb2,out2,mg2,ac,bc)/\M out2 na2 nb2/\0 < na2/\1 < nb2/\na2<=a.size/\nb2<=b.size/\na2+nb2+1<=na+nb)
     | .yield c'=>J6 a₀ κ st st'/\∃out2 na2 nb2 mg2 ac bc,c'=(none,na2,nb2,out2,mg2,ac,bc)/\M out2 na2 nb2/\0 < na2/\1 < nb2/\na2<=a.size/\nb2<=b.size/\na2+nb2+1<=na+nb
    refine DD (Q:=P) ?_ λr st' h=>by cases r <;> exact h
    refine (show wpS (AZ prog w) A E s (if mg2 > 1 then _ else _) P st2 from ?_);split
    all_goals
     refine AN (OS ?_);refine AN (Be (i:=nb2 - 1) (by lia) ?_);refine AN (Ej (base:=0) (n:=na2) (hint:=na2 - 1) (arr:=a) (key:=ix b (nb2 - 1)) (left:=false) C (s2.gal _).good (λi=>!lt (ix b (nb2 - 1)) (ix a (0+i))) (ib0 _ (by lia)) (λi hi=>⟨by lia,ia0 _ (by lia)⟩) (λi hi=>rfl) (λi j hij hj e=>?_) (by lia) λk hk k1 k2=>?_)
     ·have e':lt (ix b (nb2 - 1)) (ix a (0+j))=false:=by simpa using e
      have:=tr _ _ _ (ia0 _ (by lia)) (ia0 _ (by lia)) (ib0 _ (by lia)) (ua (0+i) (0+j) (by lia) (by lia)) e';simpa using this
     ·have near:∀j,j < k->Rl lt (ix a j) (ix b (nb2 - 1)):=λj j1=>by
       have:=k1 j j1;rw [Gc] at this;simpa using this
      have m5:=sA out2 na2 nb2 k m2 hk p3 p4 λi j i1 i2 j1=>by
       have:=k2 i i1 i2;rw [Gc] at this;exact tr _ _ _ (ib0 _ (by lia)) (ib0 _ (by lia)) (ia0 _ (by lia)) (ub j (nb2 - 1) (by lia) (by lia)) (O.asym _ _ (ib0 _ (by lia)) (ia0 _ (by lia)) (by simpa using this))
      refine (show wpS (AZ prog w) A E s (if na2 - k > 0 then _ else _) P _ from ?_)
      by_cases hk0:na2 - k > 0
      ·rw [qX hk0]
       refine (show wpS (AZ prog w) A E s (if (k==0)=true then _ else _) P _ from ?_)
       by_cases d1:k=0
       ·rw [qX (by simpa using d1)]
        exact AO ⟨s2.gal _,.inl ⟨_,_,rfl,eA _ _ _ m5 d1⟩⟩
       rw [qY (by simpa using d1)];have m4:=tB _ _ _ m5 (by lia) p4 (by lia) near;refine AN (Be (i:=nb2 - 1) (by lia) ?_);refine (show wpS (AZ prog w) A E s (if (nb2 - 1==1)=true then _ else _) P _ from ?_)
       by_cases d:nb2 - 1=1
       ·rw [qX (by simpa using d)]
        exact AO ⟨s2.gal _,.inl ⟨_,_,rfl,eF _ _ _ m4 d⟩⟩
       rw [qY (by simpa using d)];refine AN (Be (i:=k - 1) (by omega) ?_);refine AN (Ej (base:=0) (n:=nb2 - 1) (hint:=nb2 - 1 - 1) (arr:=b) (key:=ix a (k - 1)) (left:=true) C (s2.gal _).good (λi=>lt (ix b (0+i)) (ix a (k - 1))) (ia0 _ (by omega)) (λi hi=>⟨by lia,ib0 _ (by lia)⟩) (λi hi=>rfl) (λi j hij hj e=>?_) (by lia) λk3 hk3 k4 k5=>?_)
       ·cases e2:lt (ix b (0+i)) (ix a (k - 1)) with
        | true=>rfl
        | false=>
         have:=tr _ _ _ (ia0 _ (by lia)) (ib0 _ (by lia)) (ib0 _ (by lia)) e2 (ub (0+i) (0+j) (by lia) (by lia));exact nomatch (show true=false from (show lt (ix b (0+j)) (ix a (k - 1))=true from e).symm.trans this)
       ·have near2:∀j,j < k3->Rl lt (ix b j) (ix a (k - 1)):=λj j1=>by
         have:=k4 j j1;rw [Gc] at this;exact O.asym _ _ (ib0 _ (by lia)) (ia0 _ (by omega)) this
        have m6:=sB _ k (nb2 - 1) k3 m4 hk3 (by lia) (by lia) λi j i1 i2 j1=>by
         have:=k5 i i1 i2;rw [Gc] at this;exact tr _ _ _ (ia0 _ (by lia)) (ia0 _ (by lia)) (ib0 _ (by lia)) (ua j (k - 1) (by lia) (by lia)) this
        refine (show wpS (AZ prog w) A E s (if nb2 - 1 - k3 > 0 then _ else _) P _ from ?_)
        by_cases hk4:nb2 - 1 - k3 > 0
        ·rw [qX hk4]
         refine (show wpS (AZ prog w) A E s (if (k3==1)=true then _ else _) P _ from ?_)
         by_cases d2:k3=1
         ·rw [qX (by simpa using d2)]
          exact AO ⟨s2.gal _,.inl ⟨_,_,rfl,eF _ _ _ m6 d2⟩⟩
         rw [qY (by simpa using d2)]
         by_cases d4:k3=0
         ·rw [qX (by simpa using d4)]
          exact AO ⟨s2.gal _,.inl ⟨_,_,rfl,eB _ _ _ m6 d4⟩⟩
         rw [qY (by simpa using d4)];have m7:=tA _ _ _ m6 (by lia) (by lia) (by lia) near2;refine AN (Be (i:=k - 1) (by lia) ?_);refine (show wpS (AZ prog w) A E s (if (k - 1==0)=true then _ else _) P _ from ?_)
         by_cases d3:k - 1=0
         ·rw [qX (by simpa using d3)]
          exact AO ⟨s2.gal _,.inl ⟨_,_,rfl,eA _ _ _ m7 d3⟩⟩
         rw [qY (by simpa using d3)];split
         ·exact AO ⟨s2.gal _,.inr ⟨_,k - 1,k3,_,_,_,rfl,m7,by lia,by lia,by lia,by lia,by lia⟩⟩
         ·exact AO ⟨s2.gal _,_,k - 1,k3,_,_,_,rfl,m7,by lia,by lia,by lia,by lia,by lia⟩
        ·rw [qY hk4]
         have:k3=nb2 - 1:=by lia
         subst this;have m7:=tA _ _ _ m4 (by lia) (by lia) (by lia) near2;refine AN (Be (i:=k - 1) (by lia) ?_);refine (show wpS (AZ prog w) A E s (if (k - 1==0)=true then _ else _) P _ from ?_)
         by_cases d3:k - 1=0
         ·rw [qX (by simpa using d3)]
          exact AO ⟨s2.gal _,.inl ⟨_,_,rfl,eA _ _ _ m7 d3⟩⟩
         rw [qY (by simpa using d3)];split
         ·exact AO ⟨s2.gal _,.inr ⟨_,k - 1,nb2 - 1,_,_,_,rfl,m7,by lia,by lia,by lia,by lia,by lia⟩⟩
         ·exact AO ⟨s2.gal _,_,k - 1,nb2 - 1,_,_,_,rfl,m7,by lia,by lia,by lia,by lia,by lia⟩
      ·rw [qY hk0]
       have:k=na2:=by lia
       subst this;have m4:=tB _ _ _ m2 (by lia) p4 (by omega) near;refine AN (Be (i:=nb2 - 1) (by lia) ?_);refine (show wpS (AZ prog w) A E s (if (nb2 - 1==1)=true then _ else _) P _ from ?_)
       by_cases d:nb2 - 1=1
       ·rw [qX (by simpa using d)]
        exact AO ⟨s2.gal _,.inl ⟨_,_,rfl,eF _ _ _ m4 d⟩⟩
       rw [qY (by simpa using d)];refine AN (Be (i:=k - 1) (by lia) ?_);refine AN (Ej (base:=0) (n:=nb2 - 1) (hint:=nb2 - 1 - 1) (arr:=b) (key:=ix a (k - 1)) (left:=true) C (s2.gal _).good (λi=>lt (ix b (0+i)) (ix a (k - 1))) (ia0 _ (by lia)) (λi hi=>⟨by lia,ib0 _ (by lia)⟩) (λi hi=>rfl) (λi j hij hj e=>?_) (by lia) λk3 hk3 k4 k5=>?_)
       ·cases e2:lt (ix b (0+i)) (ix a (k - 1)) with
        | true=>rfl
        | false=>
         have:=tr _ _ _ (ia0 _ (by lia)) (ib0 _ (by lia)) (ib0 _ (by lia)) e2 (ub (0+i) (0+j) (by lia) (by lia));exact nomatch (show true=false from (show lt (ix b (0+j)) (ix a (k - 1))=true from e).symm.trans this)
       ·have near2:∀j,j < k3->Rl lt (ix b j) (ix a (k - 1)):=λj j1=>by
         have:=k4 j j1;rw [Gc] at this;exact O.asym _ _ (ib0 _ (by lia)) (ia0 _ (by lia)) this
        have m6:=sB _ k (nb2 - 1) k3 m4 hk3 (by lia) (by omega) λi j i1 i2 j1=>by
         have:=k5 i i1 i2;rw [Gc] at this;exact tr _ _ _ (ia0 _ (by lia)) (ia0 _ (by lia)) (ib0 _ (by lia)) (ua j (k - 1) (by lia) (by lia)) this
        refine (show wpS (AZ prog w) A E s (if nb2 - 1 - k3 > 0 then _ else _) P _ from ?_)
        by_cases hk4:nb2 - 1 - k3 > 0
        ·rw [qX hk4]
         refine (show wpS (AZ prog w) A E s (if (k3==1)=true then _ else _) P _ from ?_)
         by_cases d2:k3=1
         ·rw [qX (by simpa using d2)]
          exact AO ⟨s2.gal _,.inl ⟨_,_,rfl,eF _ _ _ m6 d2⟩⟩
         rw [qY (by simpa using d2)]
         by_cases d4:k3=0
         ·rw [qX (by simpa using d4)]
          exact AO ⟨s2.gal _,.inl ⟨_,_,rfl,eB _ _ _ m6 d4⟩⟩
         rw [qY (by simpa using d4)];have m7:=tA _ _ _ m6 (by omega) (by omega) (by lia) near2;refine AN (Be (i:=k - 1) (by lia) ?_);refine (show wpS (AZ prog w) A E s (if (k - 1==0)=true then _ else _) P _ from ?_)
         by_cases d3:k - 1=0
         ·rw [qX (by simpa using d3)]
          exact AO ⟨s2.gal _,.inl ⟨_,_,rfl,eA _ _ _ m7 d3⟩⟩
         rw [qY (by simpa using d3)];split
         ·exact AO ⟨s2.gal _,.inr ⟨_,k - 1,k3,_,_,_,rfl,m7,by lia,by lia,by lia,by lia,by lia⟩⟩
         ·exact AO ⟨s2.gal _,_,k - 1,k3,_,_,_,rfl,m7,by lia,by lia,by lia,by lia,by lia⟩
        ·rw [qY hk4]
         have:k3=nb2 - 1:=by lia
         subst this;have m7:=tA _ _ _ m4 (by omega) (by omega) (by lia) near2;refine AN (Be (i:=k - 1) (by lia) ?_);refine (show wpS (AZ prog w) A E s (if (k - 1==0)=true then _ else _) P _ from ?_)
         by_cases d3:k - 1=0
         ·rw [qX (by simpa using d3)]
          exact AO ⟨s2.gal _,.inl ⟨_,_,rfl,eA _ _ _ m7 d3⟩⟩
         rw [qY (by simpa using d3)];split
         ·exact AO ⟨s2.gal _,.inr ⟨_,k - 1,nb2 - 1,_,_,_,rfl,m7,by lia,by lia,by lia,by lia,by lia⟩⟩
         ·exact AO ⟨s2.gal _,_,k - 1,nb2 - 1,_,_,_,rfl,m7,by lia,by lia,by lia,by lia,by lia⟩
end
def wr (arr:Array Ap) (sa:Nat) (l:List (Ap×Nat)):Array Ap:=l.foldl (λa (x:Ap×Nat)=>match x with | (p,j)=>a.setIfInBounds (sa+j) p) arr
theorem Rq (sa:Nat):∀(l:List Ap) (k:Nat) (arr:Array Ap),sa+k+l.length<=arr.size->(wr arr sa (l.zipIdx k)).toList=arr.toList.take (sa+k)++l++arr.toList.drop (sa+k+l.length)
 | [],k,arr,h=>by simp [wr]
 | x :: l,k,arr,h=>by
  rw [A6] at h;have e:wr arr sa ((x :: l).zipIdx k)=wr (arr.setIfInBounds (sa+k) x) sa (l.zipIdx (k+1)):=rfl;rw [e,Rq sa l (k+1) _ (by simp;lia)]
  have hk:sa+k < arr.toList.length:=by simp;lia
  rw [QV,A6,show sa+(k+1)=sa+k+1 by lia];rw [JB,List.take_set_of_le (AL _),Az hk,List.drop_set_of_lt (by lia)];simp [show sa+k+1+l.length=sa+k+(l.length+1) by lia]
theorem ix_list (a:Array Ap) (i:Nat):ix a i=(a.toList[i]?).getD (.none,.none):=by
 unfold ix;rw [Ed];simp
theorem bF {arr m:Array Ap} {sa:Nat} (h:sa+m.size<=arr.size) (i:Nat):ix (wr arr sa m.toList.zipIdx) i=if i < sa then ix arr i else if i < sa+m.size then ix m (i - sa) else ix arr i:=by
 have e:=Rq sa m.toList 0 arr (by simpa using h);rw [ix_list,show m.toList.zipIdx=m.toList.zipIdx 0 from rfl,e,N7]
 have hl:(arr.toList.take sa).length=sa:=by simp;lia
 split
 ·rename_i h1
  rw [BE,Ac (by lia),Sn h1,ix_list]
 ·rename_i h1
  split
  ·rename_i h2
   rw [BE,A9 (by lia),hl,Ac (by simp;lia),ix_list]
  ·rename_i h2
   rw [A9 (by simp;lia),Ft,ix_list]
   congr 2
   simp
   lia
theorem eG {arr m:Array Ap} {sa:Nat} (h:sa+m.size<=arr.size) (hp:m.toList.Perm (arr.extract sa (sa+m.size)).toList):(wr arr sa m.toList.zipIdx).Perm arr:=by
 rw [Es];have e:=Rq sa m.toList 0 arr (by simpa using h);rw [show m.toList.zipIdx=m.toList.zipIdx 0 from rfl,e,N7]
 have e2:arr.toList=arr.toList.take sa++(arr.extract sa (sa+m.size)).toList++arr.toList.drop (sa+m.toList.length):=by
  rw [BE,Bu,<-IB h,Ec]
 conv=>rhs;rw [e2]
 exact QS _ (Jb _ hp)
theorem Vm {a:Array Ap} {lo hi i:Nat} (h:hi<=a.size) (hi':i < hi - lo):ix (a.extract lo hi) i=ix a (lo+i):=by
 apply JP
 rw [Array.getElem?_extract];simp
 lia
section
variable {prog:Aq} {w:BF} {A:BA} {E:AD->AG->Prop} {s:AG} {a₀:Array Ap} {κ:FR} {lt:Ap->Ap->Bool}
theorem Zh {a:Array Ap} {lo hi:Nat} (h:hi<=a.size) (u:Up lt a lo hi):(a.extract lo hi).toList.Pairwise (Rl lt):=by
 rw [Rh];intro i j hi' hj hij;simp at hi' hj
 have e:∀k (hk:k < (a.extract lo hi).toList.length),(a.extract lo hi).toList[k]=ix a (lo+k):=λk hk=>by
  have hk':k < (a.extract lo hi).size:=by rw [Bu] at hk;exact hk
  have:=DG hk';rw [getElem?_pos (a.extract lo hi) k hk'] at this
  have hs:(a.extract lo hi).size=hi - lo:=by simp;lia
  rw [<-Vm h (by lia)];simpa using this
 rw [e,e];exact u _ _ (by lia) (by lia) (by omega)
theorem cb {st st1:BK} {Q:PUnit->BK->Prop} (h:Q ⟨⟩ st1):wpS (AZ prog w) A E s (set st1:StateT BK Sem PUnit) Q st:=AO h
theorem TB {st:BK} {i sa na pw sb nb pw2:Nat} {Q:Bool->BK->Prop} (C:J1 prog w A s a₀ κ lt) (O:Ord (·∈a₀) lt) (g:Good a₀ κ st)
  (e1:(Aa st)[i]?=some (sa,na,pw)) (e2:(Aa st)[i+1]?=some (sb,nb,pw2)) (hab:sb=sa+na) (hna:1<=na) (hnb:1<=nb) (hs:sb+nb<=a₀.size)
  (ua:Up lt (AV st) sa (sa+na)) (ub:Up lt (AV st) sb (sb+nb))
  (h:∀st',Good a₀ κ st'->Aa st'=((Aa st).setIfInBounds i (sa,na+nb,pw)).eraseIdxIfInBounds (i+1)->Up lt (AV st') sa (sa+(na+nb))->Out (AV st) (AV st') sa (sa+(na+nb))->Q true st') :
  wpS (AZ prog w) A E s (mergeAt' i) Q st:=by
 subst hab;have hsz:=g.size
 have mem:∀j,j < a₀.size->ix (AV st) j∈a₀:=λj hj=>g.mem hj
 have tr:∀x y z:Ap,x∈a₀->y∈a₀->z∈a₀->Rl lt x y->Rl lt y z->Rl lt x z:=λx y z hx hy hz h1 h2=>O.ntr x y z hx hy hz h1 h2
 refine (AN (HB ?_):wpS _ _ _ _ (mergeAt' i) Q st);rw [show (sortPriv% PySem.Builtin.SortState.pending) st=Aa st from rfl,e1,e2];refine AN (cb ?_);generalize hst1:((sortPriv% PySem.Builtin.SortState.mk) (kindOf st) (AV st) (((Aa st).setIfInBounds i (sa,na+nb,pw)).eraseIdxIfInBounds (i+1)) (gallopOf st) (IJ st))=st1
 have g1:Good a₀ κ st1:=by subst hst1;exact ⟨g.perm,g.kind,g.failed⟩
 have a1:AV st1=AV st:=by subst hst1;rfl
 have p1:Aa st1=((Aa st).setIfInBounds i (sa,na+nb,pw)).eraseIdxIfInBounds (i+1):=by subst hst1;rfl
 refine AN (Be (a:=AV st) (i:=sa+na) (by lia) ?_);refine AN (Ej (base:=sa) (n:=na) (hint:=0) (arr:=AV st) (key:=ix (AV st) (sa+na)) (left:=false) C g1 (λj=>!lt (ix (AV st) (sa+na)) (ix (AV st) (sa+j))) (mem _ (by lia)) (λj hj=>⟨by lia,mem _ (by lia)⟩) (λj hj=>rfl) (λx y hxy hy e=>?_) (by lia) λk hk k1 k2=>?_)
 ·have e':lt (ix (AV st) (sa+na)) (ix (AV st) (sa+y))=false:=by simpa using e
  have:=tr _ _ _ (mem _ (by lia)) (mem _ (by lia)) (mem _ (by lia)) (ua (sa+x) (sa+y) (by lia) (by lia) (by lia)) e';simpa using this
 have low:∀j,sa<=j->j < sa+k->Rl lt (ix (AV st) j) (ix (AV st) (sa+na)):=λj j1 j2=>by
  have:=k1 (j - sa) (by lia);rw [show sa+(j - sa)=j by lia] at this;simpa using this
 have lowb:∀i j,sa<=i->i < sa+k->sa+na<=j->j < sa+na+nb->Rl lt (ix (AV st) i) (ix (AV st) j):=λi j i1 i2 j1 j2=>tr _ _ _ (mem _ (by lia)) (mem _ (by lia)) (mem _ (by lia)) (low i i1 i2) (ub _ _ (by lia) (by omega) (by omega))
 have whole:(∀j,sa<=j->j < sa+na->Rl lt (ix (AV st) j) (ix (AV st) (sa+na)))->Up lt (AV st) sa (sa+(na+nb)):=λhh x y h1 h2 h3=>by
  by_cases c1:y < sa+na
  ·exact ua x y h1 h2 c1
  by_cases c2:x < sa+na
  ·exact tr _ _ _ (mem _ (by lia)) (mem _ (by lia)) (mem _ (by lia)) (hh x h1 c2) (ub _ _ (by lia) (by lia) (by lia))
  ·exact ub x y (by lia) h2 (by lia)
 refine (show wpS (AZ prog w) A E s (if (na - k==0)=true then _ else _) Q st1 from ?_)
 by_cases c1:na - k=0
 ·rw [qX (by simpa using c1)]
  refine AO (h st1 g1 p1 ?_ (by rw [a1];exact .refl));rw [a1]
  exact whole λj j1 j2=>low j j1 (by lia)
 rw [qY (by simpa using c1)];refine AN (Be (a:=AV st) (i:=sa+k+(na - k) - 1) (by omega) ?_);rw [show sa+k+(na - k) - 1=sa+na - 1 by lia];refine AN (Ej (base:=sa+na) (n:=nb) (hint:=nb - 1) (arr:=AV st) (key:=ix (AV st) (sa+na - 1)) (left:=true) C g1 (λj=>lt (ix (AV st) (sa+na+j)) (ix (AV st) (sa+na - 1))) (mem _ (by lia)) (λj hj=>⟨by lia,mem _ (by lia)⟩) (λj hj=>rfl) (λx y hxy hy e=>?_) (by omega) λk3 hk3 k4 k5=>?_)
 ·cases e2:lt (ix (AV st) (sa+na+x)) (ix (AV st) (sa+na - 1)) with
  | true=>rfl
  | false=>
   have:=tr _ _ _ (mem _ (by lia)) (mem _ (by lia)) (mem _ (by lia)) e2 (ub (sa+na+x) (sa+na+y) (by lia) (by lia) (by lia));exact nomatch (show true=false from (show lt (ix (AV st) (sa+na+y)) (ix (AV st) (sa+na - 1))=true from e).symm.trans this)
 have high:∀j,sa+na+k3<=j->j < sa+na+nb->Rl lt (ix (AV st) (sa+na - 1)) (ix (AV st) j):=λj j1 j2=>by
  have:=k5 (j - (sa+na)) (by lia) (by lia);rwa [show sa+na+(j - (sa+na))=j by lia] at this
 refine (show wpS (AZ prog w) A E s (if (k3==0)=true then _ else _) Q st1 from ?_)
 by_cases c2:k3=0
 ·rw [qX (by simpa using c2)]
  refine AO (h st1 g1 p1 ?_ (by rw [a1];exact .refl));rw [a1]
  exact whole λj j1 j2=>tr _ _ _ (mem _ (by lia)) (mem _ (by lia)) (mem _ (by lia)) (ua j (sa+na - 1) (by omega) (by lia) (by lia)) (high _ (by lia) (by lia))
 rw [qY (by simpa using c2)]
 let x:=(AV st).extract (sa+k) (sa+na)
 let y:=(AV st).extract (sa+na) (sa+na+k3)
 have xs:x.size=na - k:=by simp [x];lia
 have ys:y.size=k3:=by simp [y];lia
 have ixx:∀j,j < na - k->ix x j=ix (AV st) (sa+k+j):=λj hj=>Vm (by lia) (by lia)
 have ixy:∀j,j < k3->ix y j=ix (AV st) (sa+na+j):=λj hj=>Vm (by lia) (by lia)
 have memx:∀z∈x.toList,∃j,j < na - k/\z=ix (AV st) (sa+k+j):=λz hz=>by
  have hz:z∈((AV st).extract (sa+k) (sa+k+(na - k))).toList:=by rw [show sa+k+(na - k)=sa+na by lia];exact hz
  exact OW (by lia) hz
 have memy:∀z∈y.toList,∃j,j < k3/\z=ix (AV st) (sa+na+j):=λz hz=>OW (by lia) hz
 have fin:∀(r:Array Ap) (st':BK),J6 a₀ κ st1 st'->Hg (Rl lt) (x.toList++y.toList) r.toList->∀st2:BK,AV st2=wr (AV st') (sa+k) r.toList.zipIdx->kindOf st2=kindOf st'->IJ st2=IJ st'->Aa st2=Aa st'->Q true st2:=by
  intro r st' sm f st2 q1 q2 q3 q4
  have hr:r.size=na - k+k3:=by
   have:=f.perm.length_eq;simp only [Ao,Bu] at this
   lia
  have ha:AV st'=AV st:=sm.arr.trans a1;rw [ha] at q1
  have hb:sa+k+r.size<=(AV st).size:=by lia
  have mm:∀t,t < r.size->∃t',ix r t=ix (AV st) t'/\sa+k<=t'/\t' < sa+na+k3:=λt ht=>by
   have:ix r t∈r.toList:=BR.mpr (Co (DG ht))
   rcases Aw.mp (f.perm.mem_iff.mp this) with h | h
   ·obtain ⟨j,j1,e⟩:=memx _ h
    exact ⟨_,e,by lia,by lia⟩
   ·obtain ⟨j,j1,e⟩:=memy _ h
    exact ⟨_,e,by lia,by lia⟩
  have rs:=TR O (a:=r) (λt ht=>by
   obtain ⟨t',e,_,_⟩:=mm t ht;rw [e]
   exact mem _ (by lia)) f.srt
  refine h st2 ⟨?_,?_,?_⟩ (q4.trans (sm.pend.trans p1)) ?_ ?_
  ·rw [q1]
   refine (eG hb (f.perm.trans ?_)).trans g.perm
   have:(AV st).toList.drop (sa+k)=x.toList++(AV st).toList.drop (sa+na):=by
    have:=IB (a:=AV st) (i:=sa+k) (k:=na - k) (by lia);rw [show sa+k+(na - k)=sa+na by lia] at this;exact this
   have h2:(AV st).toList.drop (sa+na)=y.toList++(AV st).toList.drop (sa+na+k3):=IB (by lia);have h3:(AV st).toList.drop (sa+k)=((AV st).extract (sa+k) (sa+k+r.size)).toList++(AV st).toList.drop (sa+k+r.size):=IB hb;rw [this,h2,<-BE,show sa+k+r.size=sa+na+k3 by lia] at h3;rw [show sa+k+r.size=sa+na+k3 by lia];exact WI (List.append_cancel_right h3)
  ·rw [q2];exact sm.good.kind
  ·rw [q3];exact sm.good.failed
  ·rw [q1]
   intro i j h1 h2 h3;show Rl lt _ _;rw [bF hb,bF hb]
   by_cases i1:i < sa+k
   ·rw [qX i1]
    by_cases j1:j < sa+k
    ·rw [qX j1];exact ua i j h1 h2 (by lia)
    rw [qY j1]
    by_cases j2:j < sa+k+r.size
    ·rw [qX j2]
     obtain ⟨t,e,t1,t2⟩:=mm (j - (sa+k)) (by omega);rw [e]
     by_cases t3:t < sa+na
     ·exact ua i t h1 (by lia) t3
     ·exact lowb i t h1 i1 (by lia) (by lia)
    ·rw [qY j2];exact lowb i j h1 i1 (by lia) (by lia)
   rw [qY i1,qY (show ¬j < sa+k by lia)]
   by_cases i2:i < sa+k+r.size
   ·rw [qX i2]
    by_cases j2:j < sa+k+r.size
    ·rw [qX j2];exact rs _ _ (by lia) (by omega)
    ·rw [qY j2]
     obtain ⟨t,e,t1,t2⟩:=mm (i - (sa+k)) (by omega);rw [e]
     by_cases t3:t < sa+na
     ·exact tr _ _ _ (mem _ (by lia)) (mem _ (by lia)) (mem _ (by lia)) (ua t (sa+na - 1) (by lia) (by lia) (by lia)) (high j (by lia) (by lia))
     ·exact ub t j (by lia) (by lia) (by lia)
   ·rw [qY i2,qY (show ¬j < sa+k+r.size by lia)]
    exact ub i j (by lia) h2 (by lia)
  ·rw [q1]
   intro i hi;rw [bF hb]
   by_cases i1:i < sa+k
   ·rw [qX i1]
   ·rw [qY i1,qY (by lia)]
 have args:∀ {P:Prop},((∀z∈x.toList,z∈a₀)->(∀z∈y.toList,z∈a₀)->x.toList.Pairwise (Rl lt)->y.toList.Pairwise (Rl lt)->0 < x.size->0 < y.size->(∀z∈x.toList,Rl lt (ix y 0) z)->(∀z∈y.toList,Rl lt z (ix x (x.size - 1)))->P)->P:=by
  intro P hP
  refine hP (λz hz=>?_) (λz hz=>?_) (Zh (by lia) λi j h1 h2 h3=>ua i j (by lia) h2 h3) (Zh (by lia) λi j h1 h2 h3=>ub i j h1 h2 (by lia)) (by lia) (by lia) (λz hz=>?_) λz hz=>?_
  ·obtain ⟨j,j1,rfl⟩:=memx z hz
   exact mem _ (by lia)
  ·obtain ⟨j,j1,rfl⟩:=memy z hz
   exact mem _ (by lia)
  ·obtain ⟨j,j1,rfl⟩:=memx z hz
   rw [ixy 0 (by lia)];have:=k2 (k+j) (by lia) (by lia);rw [show sa+(k+j)=sa+k+j by lia] at this;exact O.asym _ _ (mem _ (by lia)) (mem _ (by lia)) (by simpa using this)
  ·obtain ⟨j,j1,rfl⟩:=memy z hz
   rw [xs,ixx _ (by lia),show sa+k+(na - k - 1)=sa+na - 1 by lia];exact O.asym _ _ (mem _ (by lia)) (mem _ (by lia)) (k4 j j1)
 refine (show wpS (AZ prog w) A E s (if na - k<=k3 then mLo x y >>= _ else mHi x y >>= _) Q st1 from ?_);split
 ·refine AN (args λb1 b2 b3 b4 b5 b6 b7 b8=>cc C O g1 b1 b2 b3 b4 b5 b6 b7 b8 λr st' sm f=>?_)
  refine AN (DR (AN (HB (AO ?_))));have q:=fin r st' sm f (setArr st' (wr (AV st') (sa+k) r.toList.zipIdx)) rfl rfl rfl rfl;rw [<-show (IJ st').isNone=true by rw [sm.good.failed];rfl] at q;exact q
 ·refine AN (args λb1 b2 b3 b4 b5 b6 b7 b8=>cf C O g1 b1 b2 b3 b4 b5 b6 b7 b8 λr st' sm f=>?_)
  refine AN (DR (AN (HB (AO ?_))));have q:=fin r st' sm f (setArr st' (wr (AV st') (sa+k) r.toList.zipIdx)) rfl rfl rfl rfl;rw [<-show (IJ st').isNone=true by rw [sm.good.failed];rfl] at q;exact q
end
theorem fF {c:Prop} [Decidable c] {z:Nat} (h:1 < z):(if c then z - 2 - 1 else z - 2)+1 < z:=by split <;> omega
def Stk (lt:Ap->Ap->Bool) (arr:Array Ap):List (Nat×Nat×Nat)->Nat->Nat->Prop
 | [],lo,hi=>lo=hi
 | (s,n,_) :: r,lo,hi=>s=lo/\1<=n/\Up lt arr s (s+n)/\Stk lt arr r (s+n) hi
section
variable {lt:Ap->Ap->Bool} {arr arr':Array Ap}
theorem Stk.le:∀ {l:List (Nat×Nat×Nat)} {lo hi:Nat},Stk lt arr l lo hi->lo+l.length<=hi
 | [],lo,hi,h=>by cases h;simp
 | (s,n,_) :: r,lo,hi,⟨h1,h2,_,h4⟩=>by
  have:=Stk.le h4;rw [A6]
  lia
theorem Stk.app:∀ {l r:List (Nat×Nat×Nat)} {lo hi:Nat},Stk lt arr (l++r) lo hi↔∃mid,Stk lt arr l lo mid/\Stk lt arr r mid hi
 | [],r,lo,hi=>⟨λh=>⟨lo,rfl,h⟩,λ⟨_,e,h⟩=>by cases e;exact h⟩
 | (s,n,_) :: l,r,lo,hi=>by
  constructor
  ·rintro ⟨h1,h2,h3,h4⟩
   obtain ⟨mid,a,b⟩:=Stk.app.mp h4;exact ⟨mid,⟨h1,h2,h3,a⟩,b⟩
  ·rintro ⟨mid,⟨h1,h2,h3,h4⟩,b⟩
   exact ⟨h1,h2,h3,Stk.app.mpr ⟨mid,h4,b⟩⟩
theorem Stk.pw {f:Nat×Nat×Nat->Nat×Nat×Nat} (hf:∀x,(f x).1=x.1/\(f x).2.1=x.2.1):∀ {l:List (Nat×Nat×Nat)} {lo hi:Nat} (i:Nat),Stk lt arr l lo hi->Stk lt arr (l.modify i f) lo hi
 | [],lo,hi,i,h=>by cases i <;> exact h
 | (s,n,p) :: r,lo,hi,0,h=>by
  obtain ⟨e1,e2⟩:=hf (s,n,p);show Stk lt arr (f (s,n,p) :: r) lo hi;generalize f (s,n,p)=q at e1 e2;obtain ⟨s',n',p'⟩:=q;dsimp only at e1 e2;subst e1 e2;exact h
 | (s,n,p) :: r,lo,hi,i+1,⟨h1,h2,h3,h4⟩=>⟨h1,h2,h3,Stk.pw hf i h4⟩
theorem Stk.out:∀ {l:List (Nat×Nat×Nat)} {lo hi x y:Nat},Stk lt arr l lo hi->Out arr arr' x y->(hi<=x∨y<=lo)->Stk lt arr' l lo hi
 | [],lo,hi,x,y,h,o,d=>h
 | (s,n,_) :: r,lo,hi,x,y,⟨h1,h2,h3,h4⟩,o,d=>by
  have:=h4.le;exact ⟨h1,h2,h3.out o (by lia),Stk.out h4 o (by lia)⟩
end
section
variable {prog:Aq} {w:BF} {A:BA} {E:AD->AG->Prop} {s:AG} {a₀:Array Ap} {κ:FR} {lt:Ap->Ap->Bool}
theorem Out.wide {xs ys:Array Ap} {l h l' h':Nat} (o:Out xs ys l h) (h1:l'<=l) (h2:h<=h'):Out xs ys l' h':=λi hi=>o i (by lia)
theorem Jd {st:BK} {i hi:Nat} {Q:Bool->BK->Prop} (C:J1 prog w A s a₀ κ lt) (O:Ord (·∈a₀) lt) (g:Good a₀ κ st) (k:Stk lt (AV st) (Aa st).toList 0 hi) (hs:hi<=a₀.size) (hi1:i+1 < (Aa st).size)
  (h:∀st',Good a₀ κ st'->Stk lt (AV st') (Aa st').toList 0 hi->(Aa st').size+1=(Aa st).size->Out (AV st) (AV st') 0 hi->Q true st'):wpS (AZ prog w) A E s (mergeAt' i) Q st:=by
 obtain ⟨sa,na,pw,e1⟩:∃sa na pw,(Aa st)[i]?=some (sa,na,pw):=⟨_,_,_,getElem?_pos (Aa st) i (by lia)⟩
 obtain ⟨sb,nb,pw2,e2⟩:∃sa na pw,(Aa st)[i+1]?=some (sa,na,pw):=⟨_,_,_,getElem?_pos (Aa st) (i+1) hi1⟩
 obtain ⟨l,r,el,hl⟩:∃l r,(Aa st).toList=l++(sa,na,pw) :: (sb,nb,pw2) :: r/\l.length=i:=by
  have a1:(Aa st).toList[i]?=some (sa,na,pw):=by simpa using e1
  have a2:(Aa st).toList[i+1]?=some (sb,nb,pw2):=by simpa using e2
  obtain ⟨b1,c1⟩:=AF.mp a1;obtain ⟨b2,c2⟩:=AF.mp a2;refine ⟨(Aa st).toList.take i,(Aa st).toList.drop (i+2),?_,by rw [CH];lia⟩
  conv=>lhs;rw [<-Ec i (Aa st).toList,Ir b1,Ir b2,c1,c2]
 rw [el] at k;obtain ⟨mid,k1,⟨q1,q2,q3,⟨q4,q5,q6,q7⟩⟩⟩:=Stk.app.mp k;have hle:=q7.le;have hle1:=k1.le
 refine TB C O g e1 e2 q4 q2 q5 (by lia) q3 q6 λst' g' p' u' o'=>?_
 have pl:(Aa st').toList=l++(sa,na+nb,pw) :: r:=by
  rw [p',Array.toList_eraseIdxIfInBounds,QV,el];rw [List.set_append_right _ _ (by lia),hl,kn,List.set_cons_zero,List.eraseIdx_append_of_length_le (by lia),show i+1 - l.length=1 by lia];rfl
 refine h st' g' ?_ ?_ (o'.wide (by lia) (by lia))
 ·rw [pl]
  refine Stk.app.mpr ⟨mid,k1.out o' (.inl (by lia)),q1,by lia,u',?_⟩
  have e:sb+nb=sa+(na+nb):=by lia
  rw [e] at q7;exact q7.out o' (.inr (by lia))
 ·have z1:=congrArg Fv pl
  have z2:=congrArg Fv el;simp at z1 z2
  lia
theorem wpS_sortRuns {st:BK} {Q:Unit->BK->Prop} (C:J1 prog w A s a₀ κ lt) (O:Ord (·∈a₀) lt) (g:Good a₀ κ st) (hp:Aa st = #[])
  (h:∀st',Good a₀ κ st'->Up lt (AV st') 0 a₀.size->Q () st'):wpS (AZ prog w) A E s sortRuns' Q st:=by
 rw [sortRuns'_eq];refine AN (HB ?_);dsimp only;rw [g.size];generalize minRun' a₀.size a₀.size 0=mr
 refine AN (DD (B2 (I:=λx c st'=>∃lo,c=(none,lo)/\Good a₀ κ st'/\Stk lt (AV st') (Aa st').toList 0 lo/\lo<=a₀.size/\min x a₀.size<=lo)
  (Q:=λc st'=>c=(none,a₀.size)/\Good a₀ κ st'/\Stk lt (AV st') (Aa st').toList 0 a₀.size) ?step ?fin ?init) ?post)
 case init=>exact ⟨0,rfl,g,by rw [hp];rfl,by lia,by lia⟩
 case fin=>
  rintro c st' ⟨lo,rfl,g',k',h1,h2⟩
  have:lo=a₀.size:=by lia
  subst this;exact ⟨rfl,g',k'⟩
 case step=>
  rintro x c st1 _ hx ⟨lo,rfl,g1,k1,h1,h2⟩;dsimp only
  by_cases hge:lo ≥ a₀.size
  ·rw [qX hge]
   have:lo=a₀.size:=by lia
   subst this;exact AO ⟨rfl,g1,k1⟩
  rw [qY hge];refine AN (wpS_countRun C O (by lia) (by lia) g1 λst2 n g2 n1 n2 u2 o2 p2=>?_);dsimp only
  have k2:Stk lt (AV st2) (Aa st2).toList 0 lo:=by
   rw [p2];exact k1.out o2 (.inl (AL _))
  by_cases hm:n < mr
  ·rw [qX hm]
   refine AN (JF ?_);refine AN (wpS_binarySort C O (by lia) (by omega) g2 u2 λst3 g3 u3 o3 p3=>?_)
   have k3:Stk lt (AV st3) (Aa st3).toList 0 lo:=by
    rw [p3];exact k2.out o3 (.inl (AL _))
   rw [qY (by simp)];refine AN (HB ?_)
   cases hb:(Aa st3).back? with
   | none=>
    dsimp only;refine AN (DR (AO ⟨lo+min (a₀.size - lo) mr,rfl,⟨g3.perm,g3.kind,g3.failed⟩,?_,by lia,by lia⟩));show Stk lt (AV st3) ((Aa st3).push (lo,min (a₀.size - lo) mr,0)).toList 0 (lo+min (a₀.size - lo) mr);rw [Iv];exact Stk.app.mpr ⟨lo,k3,rfl,by omega,u3,rfl⟩
   | some t=>
    obtain ⟨s1,n1,z⟩:=t;dsimp only;generalize power' a₀.size (2 * s1+n1) (2 * s1+n1+n1+min (a₀.size - lo) mr) a₀.size=pw
    refine AN (DD (B2 (I:=λ_ c st4=>c=(none,())/\Good a₀ κ st4/\Stk lt (AV st4) (Aa st4).toList 0 lo/\Up lt (AV st4) lo (lo+min (a₀.size - lo) mr))
     (Q:=λc st4=>c=(none,())/\Good a₀ κ st4/\Stk lt (AV st4) (Aa st4).toList 0 lo/\Up lt (AV st4) lo (lo+min (a₀.size - lo) mr)) ?_ (λc st4 h=>h) ⟨rfl,g3,k3,u3⟩) ?_)
    ·rintro x' c' st4 _ _ ⟨rfl,g4,k4,u4⟩
     refine AN (HB ?_)
     by_cases hz:(Aa st4).size > 1
     ·rw [qX hz]
      obtain ⟨s2,n2,older,e2⟩:∃s2 n2 older,(Aa st4)[(Aa st4).size - 2]?=some (s2,n2,older):=⟨_,_,_,getElem?_pos (Aa st4) ((Aa st4).size - 2) (by lia)⟩
      rw [e2];dsimp only
      by_cases ho:older<=pw
      ·rw [qX ho]
       exact AO ⟨rfl,g4,k4,u4⟩
      ·rw [qY ho]
       refine AN (Jd C O g4 k4 (by omega) (by lia) λst5 g5 k5 _ o5=>?_);exact AO ⟨rfl,g5,k5,u4.out o5 (.inr (by lia))⟩
     ·rw [qY hz]
      exact AO ⟨rfl,g4,k4,u4⟩
    ·rintro c' st4 ⟨rfl,g4,k4,u4⟩
     dsimp only;refine AN (DR (AN (DR (AO ⟨lo+min (a₀.size - lo) mr,rfl,⟨g4.perm,g4.kind,g4.failed⟩,?_,by lia,by lia⟩))));show Stk lt (AV st4) ((((Aa st4).modify ((Aa st4).size - 1) λx=>(x.fst,x.2.fst,pw))).push (lo,min (a₀.size - lo) mr,0)).toList 0 (lo+min (a₀.size - lo) mr);rw [Iv,WL];exact Stk.app.mpr ⟨lo,Stk.pw (f:=λx=>(x.fst,x.2.fst,pw)) (λx=>⟨rfl,rfl⟩) _ k4,rfl,by omega,u4,rfl⟩
  ·rw [qY hm]
   refine AN (HB ?_)
   cases hb:(Aa st2).back? with
   | none=>
    dsimp only;refine AN (DR (AO ⟨lo+n,rfl,⟨g2.perm,g2.kind,g2.failed⟩,?_,by lia,by lia⟩));show Stk lt (AV st2) ((Aa st2).push (lo,n,0)).toList 0 (lo+n);rw [Iv];exact Stk.app.mpr ⟨lo,k2,rfl,by omega,u2,rfl⟩
   | some t=>
    obtain ⟨s1,n1,z⟩:=t;dsimp only;generalize power' a₀.size (2 * s1+n1) (2 * s1+n1+n1+n) a₀.size=pw
    refine AN (DD (B2 (I:=λ_ c st4=>c=(none,())/\Good a₀ κ st4/\Stk lt (AV st4) (Aa st4).toList 0 lo/\Up lt (AV st4) lo (lo+n))
     (Q:=λc st4=>c=(none,())/\Good a₀ κ st4/\Stk lt (AV st4) (Aa st4).toList 0 lo/\Up lt (AV st4) lo (lo+n)) ?_ (λc st4 h=>h) ⟨rfl,g2,k2,u2⟩) ?_)
    ·rintro x' c' st4 _ _ ⟨rfl,g4,k4,u4⟩
     refine AN (HB ?_)
     by_cases hz:(Aa st4).size > 1
     ·rw [qX hz]
      obtain ⟨s2,n2,older,e2⟩:∃s2 n2 older,(Aa st4)[(Aa st4).size - 2]?=some (s2,n2,older):=⟨_,_,_,getElem?_pos (Aa st4) ((Aa st4).size - 2) (by lia)⟩
      rw [e2];dsimp only
      by_cases ho:older<=pw
      ·rw [qX ho]
       exact AO ⟨rfl,g4,k4,u4⟩
      ·rw [qY ho]
       refine AN (Jd C O g4 k4 (by omega) (by lia) λst5 g5 k5 _ o5=>?_);exact AO ⟨rfl,g5,k5,u4.out o5 (.inr (by lia))⟩
     ·rw [qY hz]
      exact AO ⟨rfl,g4,k4,u4⟩
    ·rintro c' st4 ⟨rfl,g4,k4,u4⟩
     dsimp only;refine AN (DR (AN (DR (AO ⟨lo+n,rfl,⟨g4.perm,g4.kind,g4.failed⟩,?_,by lia,by lia⟩))));show Stk lt (AV st4) ((((Aa st4).modify ((Aa st4).size - 1) λx=>(x.fst,x.2.fst,pw))).push (lo,n,0)).toList 0 (lo+n);rw [Iv,WL];exact Stk.app.mpr ⟨lo,Stk.pw (f:=λx=>(x.fst,x.2.fst,pw)) (λx=>⟨rfl,rfl⟩) _ k4,rfl,by omega,u4,rfl⟩
 case post=>
  rintro c st1 ⟨rfl,g1,k1⟩;dsimp only
  refine AN (DD (B2 (I:=λx c st4=>c=(none,())/\Good a₀ κ st4/\Stk lt (AV st4) (Aa st4).toList 0 a₀.size/\((Aa st4).size<=1∨(Aa st4).size+x<=a₀.size))
   (Q:=λc st4=>c=(none,())/\Good a₀ κ st4/\Stk lt (AV st4) (Aa st4).toList 0 a₀.size/\(Aa st4).size<=1) ?_ ?_ ?_) ?_)
  ·rintro x c st4 _ _ ⟨rfl,g4,k4,d⟩
   refine AN (HB ?_)
   by_cases hz:(Aa st4).size<=1
   ·rw [qX hz]
    exact AO ⟨rfl,g4,k4,hz⟩
   ·rw [qY hz]
    refine AN (Jd C O g4 k4 (AL _) (fF (by lia)) λst5 g5 k5 z5 o5=>?_);exact AO ⟨rfl,g5,k5,.inr (by lia)⟩
  ·rintro c st4 ⟨rfl,g4,k4,d⟩
   exact ⟨rfl,g4,k4,by lia⟩
  ·refine ⟨rfl,g1,k1,.inr ?_⟩
   have:=k1.le;simp at this;omega
  ·rintro c st4 ⟨rfl,g4,k4,d⟩
   refine AO (h st4 g4 ?_);generalize hl:(Aa st4).toList=l at k4
   have hd:l.length<=1:=by rw [<-hl];simpa using d
   match l,k4,hd with
   | [],k4,_=>exact λi j h1 h2 h3=>by have:(0:Nat)=a₀.size:=k4;lia
   | [(s,n,_)],⟨e1,_,u,e2⟩,_=>
    have e2:s+n=a₀.size:=e2;rw [e2,e1] at u;exact u
end
def ltL:List Int->List Int->Bool
 | [],[]=>false
 | [],_ :: _=>true
 | _ :: _,[]=>false
 | x :: xs,y :: ys=>if x=y then ltL xs ys else decide (x < y)
theorem Pi:∀x y,ltL x y=true->ltL y x=false
 | [],[],h=>by cases h
 | [],_ :: _,_=>rfl
 | _ :: _,[],h=>by cases h
 | x :: xs,y :: ys,h=>by
  unfold ltL at h ⊢
  by_cases e:x=y
  ·rw [qX e] at h;rw [qX e.symm];exact Pi xs ys h
  ·rw [qY e] at h;rw [qY (Bw e)];simp at h ⊢;lia
theorem SA:∀x y z,ltL y x=false->ltL z y=false->ltL z x=false
 | [],y,[],_,_=>rfl
 | [],[],_ :: _,_,_=>rfl
 | [],_ :: _,_ :: _,_,_=>rfl
 | x :: xs,[],z,h,_=>by cases h
 | _,y :: ys,[],_,h=>by cases h
 | x :: xs,y :: ys,z :: zs,h1,h2=>by
  unfold ltL at h1 h2 ⊢
  by_cases e1:y=x
  ·rw [qX e1] at h1
   subst e1
   by_cases e2:z=y
   ·rw [qX e2] at h2 ⊢
    exact SA xs ys zs h1 h2
   ·rw [qY e2] at h2 ⊢;exact h2
  ·rw [qY e1] at h1
   by_cases e2:z=y
   ·subst e2;rw [qY e1];exact h1
   ·rw [qY e2] at h2
    by_cases e3:z=x
    ·subst e3;simp at h1 h2;lia
    ·rw [qY e3];simp at h1 h2 ⊢;lia
theorem Wq:∀x y,ltL x y=false->ltL y x=false->x=y
 | [],[],_,_=>rfl
 | [],_ :: _,h,_=>by cases h
 | _ :: _,[],_,h=>by cases h
 | x :: xs,y :: ys,h1,h2=>by
  unfold ltL at h1 h2
  by_cases e:x=y
  ·rw [qX e] at h1;rw [qX e.symm] at h2;rw [e,Wq xs ys h1 h2]
  ·rw [qY e] at h1;rw [qY (Bw e)] at h2;simp at h1 h2;lia
def ltK (f:AD->List Int) (x y:Ap):Bool:=ltL (f x.1) (f y.1)
theorem eU (f:AD->List Int) (U:Ap->Prop):Ord U (ltK f):=⟨λx y _ _ h=>Pi _ _ h,λx y z _ _ _ h1 h2=>SA _ _ _ h1 h2⟩
section
variable {prog:Aq} {w:BF} {A:BA} {E:AD->AG->Prop} {s:AG}
theorem Vd {a b:Int} {t u:Tok} (o:Bool) {Q:Bool->AG->Prop} (h:Q (decide (a < b)) s):Al (AZ prog w) A (oneLt' o (.int a t) (.int b u)) Q E s:=by
 cases o with
 | true=>exact oneLt_int h
 | false=>
  rw [oneLt'_eq];simp only [B1,if_false];exact AB (wpAny_lt_int (CT h))
def V7 (s:AG) (v:AD) (ns:List Int):Prop:=∃a its,v=.ref a/\s.heap.IsTuple a its/\IntsAre its.toList ns
def mV (o:Bool):(AD×AD)×Nat->Option Bool×Unit->Sem (ForInStep (Option Bool×Unit)):=λe _=>match e with
 | ((p,q),i)=>eqBool p q >>= λc=>if (!c)=true then oneLt' (o&&i==0) p q >>= λb=>pure (.done (some b,())) else pure (.yield (none,()))
theorem bD (o:Bool) (x y:AD):keyLt' (kQ o) x y=(Du x >>= λr=>Du y >>= λq=>forIn (r.toList.zip q.toList).zipIdx ((none,()):Option Bool×Unit) (mV o) >>= λz=>match z.1 with
  | some b=>pure b
  | none=>pure (decide (r.size < q.size))):=by kernel_rfl
theorem bq (o:Bool) {n0:Nat}:∀ {is js:List AD} {ns ms:List Int} (k:Nat) {Q:Bool->AG->Prop},IntsAre is ns->IntsAre js ms->Q (ltL ns ms) s ->
  Al (AZ prog w) A (forIn ((is.zip js).zipIdx k) ((none,()):Option Bool×Unit) (mV o) >>= λz=>match z.1 with
   | some b=>pure b
   | none=>pure (decide (n0+is.length < n0+js.length))) Q E s:=by
 intro is
 induction is with
 | nil=>
  intro js ns ms k Q h1 h2 hq;cases h1;rw [List.zip_nil_left,cU,gN];refine AB (AM (AM ?_))
  cases h2 with
  | nil=>simpa [ltL] using hq
  | cons m t h=>simpa [ltL] using hq
 | cons v is ih=>
  intro js ns ms k Q h1 h2 hq
  cases h1 with
  | cons n t h1=>
   cases h2 with
   | nil=>
    rw [List.zip_nil_right,cU,gN];refine AB (AM (AM ?_));rw [wY (by rw [A6,Hi];lia)];exact hq
   | cons m u h2=>
    rw [List.zip_cons_cons,List.zipIdx_cons,cV];rw [bind_assoc];unfold ltL at hq;refine AB ?_;refine AB (ke ?_)
    by_cases e:n=m
    ·rw [qX e] at hq
     rw [qY (by simp [e])];refine AM ?_;have:=ih (k+1) h1 h2 hq;simpa [Nat.add_lt_add_iff_left] using this
    ·rw [qY e] at hq
     rw [qX (by simp [e])];refine AB (Vd _ (AM ?_));exact AB (AM (AM hq))
end
section
variable {prog:Aq} {w:BF} {A:BA} {E:AD->AG->Prop} {s:AG}
theorem M8 {v:AD} {ns:List Int} (h:V7 s v ns):∃its:Array AD,IntsAre its.toList ns/\s.TypeIs v "tuple"/\∀(E:AD->AG->Prop) (Q:Array AD->AG->Prop),Q its s->Al (AZ prog w) A (Du v) Q E s:=by
 obtain ⟨a,its,rfl,⟨o,ho,hc,n,hd⟩,hi⟩:=h;exact ⟨its,hi,⟨o,ho,hc⟩,λE Q q=>listItems_at ho hd q⟩
theorem fj {x y:AD} {ns ms:List Int} (o:Bool) (hx:V7 s x ns) (hy:V7 s y ms) {Q:Bool->AG->Prop} (h:Q (ltL ns ms) s):Al (AZ prog w) A (keyLt' (kQ o) x y) Q E s:=by
 obtain ⟨r,hr,_,wr⟩:=M8 (prog:=prog) (w:=w) (A:=A) hx;obtain ⟨q,hq,_,wq⟩:=M8 (prog:=prog) (w:=w) (A:=A) hy;rw [bD];refine AB (wr E _ (AB (wq E _ ?_)));have:=bq (prog:=prog) (w:=w) (A:=A) (E:=E) (n0:=0) o 0 hr hq h;simp only [Gc,Bu] at this;exact this
theorem YW {v:AD} {n:Int} {ns:List Int} (h:V7 s v (n :: ns)) {Q:Option AD->AG->Prop} (hq:∀t,Q (some (.int n t)) s):Al (AZ prog w) A (XQ v) Q E s:=by
 obtain ⟨r,hr,ty,wr⟩:=M8 (prog:=prog) (w:=w) (A:=A) h;refine (AB (Y7 ty ?_):Al _ _ (XQ v) Q E s);refine (show Al (AZ prog w) A (if (EF "tuple" != EF "tuple")=true then _ else _) Q E s from ?_);rw [qY (by simp)];refine AB (wr E _ (AM ?_));generalize hl:r.toList=l at hr
 cases hr with
 | cons _ t h2=>
  have:r[0]?=some (.int n t):=by
   rw [<-Uh,hl];rfl
  rw [this];exact hq t
theorem Py:∀ {vs:List AD},(∀v∈vs,∃n ns,V7 s v (n :: ns))->∀ {Q:List (Option AD)->AG->Prop},(∀is ns,IntsAre is ns->is.length=vs.length->Q (is.map some) s)->Al (AZ prog w) A (vs.mapM XQ) Q E s
 | [],_,Q,h=>by
  rw [List.mapM_nil];exact AM (h [] [] .nil rfl)
 | v :: vs,hv,Q,h=>by
  obtain ⟨n,ns,hn⟩:=hv v Ag;rw [List.mapM_cons];refine AB (YW hn λt=>AB (Py (λv hv'=>hv v (AW _ hv')) λis ms h1 h2=>AM ?_));exact h (.int n t :: is) (n :: ms) (.cons n t h1) (by rw [A6,h2,A6])
theorem R3 {is:List AD} {ns:List Int} (h:IntsAre is ns) (h0:is≠[]):oneTypeOnly' is.toArray=pure (some (.type "int")):=by
 rw [oneTypeOnly'_eq,ZJ,mapM_typeOf_ints h];simp only [map_pure,pure_bind]
 cases is with
 | nil=>exact zX rfl h0
 | cons v is=>
  have e0:(Qt (λ_=>EF "int") (v :: is)).toArray[0]?=some (EF "int"):=by simp
  have e1:((Qt (λ_=>EF "int") (v :: is)).toArray.all λx=>x==EF "int")=true:=by
   simp only [List.all_toArray,Ue,OQ]
   exact λ_ _=>rfl
  rw [e0];simp only [e1,if_true]
theorem bB {vs:List AD} (hv:∀v∈vs,∃n ns,V7 s v (n :: ns)) (h0:vs≠[]) {Q:FR->AG->Prop} (h:Q (kQ true) s):Al (AZ prog w) A (keyKind' vs.toArray) Q E s:=by
 rw [keyKind'_eq,ZJ];refine AB ?_;rw [map_eq_pure_bind];refine AB (Py hv λis ns h1 h2=>AM ?_)
 have hall:((is.map some).toArray.all λx=>x.isSome)=true:=by simp
 rw [qX hall];refine AB (gy ?_)
 have hf:(is.map some).toArray.filterMap id=is.toArray:=by simp
 rw [hf,R3 h1 (by intro e;subst e;cases vs with | nil=>exact h0 rfl | cons=>simp at h2)];refine AB (AM (AM ?_));exact h
end
section
variable {prog:Aq} {w:BF} {A:BA} {E:AD->AG->Prop} {s:AG}
theorem Gk {vs:List AD} {x:Ap} (h:x∈J8 vs):x.1∈vs/\x.1=x.2:=by
 have:x∈(J8 vs).toList:=BR.mpr h;rw [pairsOf_toList] at this;exact ⟨(mem_zip_self this).2,(mem_zip_self this).1⟩
theorem X4 (vs:List AD):(J8 vs).map (·.2)=vs.toArray:=by
 apply Array.ext'
 rw [Jc,pairsOf_toList];simp [List.map_snd_zip]
def Sd (prog:Aq) (w:BF) (A:BA) (s:AG) (vs:List AD) (f:AD->List Int):Prop:=
 ∃κ:FR,(∀(Q:FR->AG->Prop) (E:AD->AG->Prop),Q κ s->Al (AZ prog w) A (keyKind' vs.toArray) Q E s)/\J1 prog w A s (J8 vs) κ (ltK f)
theorem Qi {a:AK} {vs:List AD} {n:Nat} {P:Fin->AG->Prop} {f:AD->List Int} (ho:s.heap.get? a=some (Ia "list" vs.toArray n)) (hz:vs.length<=sizeLine)
  (hk:2<=vs.length->∀s':AG,(∀b o,b≠a->s.heap.get? b=some o->s'.heap.get? b=some o)->Sd prog w A s' vs f)
  (h:∀out:Array AD,out.toList.Perm vs->out.toList.Pairwise (λx y=>ltL (f y) (f x)=false)->P (.done (.ret .none)) { s with heap:=g9 s.heap a vs out }) :
  Al (AZ prog w) A (Builtin.«list.sort» ⟨[.ref a],[]⟩) P E s:=by
 have ha:a < s.heap.objs.size:=Ab ho
 have hsz:vs.toArray.size=vs.length:=by simp
 obtain ⟨e1,ho1⟩:∃e1,(s.heap.update a (E7 λ_=>#[])).get? a=some (Ia "list" #[] e1):=⟨_,get?_update_seq ho (λ_=>#[])⟩
 have ho6:(((s.heap.update a (E7 λ_=>#[])).push (Ia "tuple" vs.toArray 0)).push (Ia "list" #[] 0)).get? a=some (Ia "list" #[] e1):=
  AI _ (AI _ ho1)
 have old:∀b o,b≠a->s.heap.get? b=some o->(((s.heap.update a (E7 λ_=>#[])).push (Ia "tuple" vs.toArray 0)).push (Ia "list" #[] 0)).get? b=some o:=λb o hb hg=>
  AI _ (AI _ (by rw [XY _ _ _ _ hb];exact hg))
 have fin:∀st':BK,(AV st').Perm (J8 vs)->(AV st').toList.Pairwise (Rl (ltK f))->P (.done (.ret .none)) { s with heap:=g9 s.heap a vs ((AV st').map (·.2)) }:=by
  intro st' hp hs
  have hmem:∀x∈(AV st').toList,x.1=x.2:=λx hx=>by
   have:x∈(J8 vs).toList:=(Es.mp hp).mem_iff.mp hx;exact (Gk (BR.mp this)).2
  refine h _ ?_ ?_
  ·have:=(Es.mp hp).map (·.2)
   rw [<-Jc,<-Jc,X4] at this;simpa using this
  ·rw [Jc,C9]
   refine hs.imp_of_mem λ{x y} hx hy r=>?_
   rw [<-hmem x hx,<-hmem y hy];exact r
 have last:∀st':BK,(AV st').Perm (J8 vs)->IJ st'=none->(AV st').toList.Pairwise (Rl (ltK f))->(((AV st').map (·.2)).size<=sizeLine+1):=λst' hp _ _=>by
  rw [Array.size_map,hp.size_eq,pairsOf_size]
  lia
 rw [list_sort_plain];refine AB (listItems_at ho rfl (AB (XO ho rfl (AB (cP ho1 rfl (AB (wpAny_newTuple (AB (wpAny_newList (E2 ?_)))))) ) (by rw [hsz];exact hz) (Cm _))));show Al (AZ prog w) A _ P E { s with heap:=((s.heap.update a (E7 λ_=>#[])).push (Ia "tuple" vs.toArray 0)).push (Ia "list" #[] 0) };dsimp only
 by_cases h2:vs.toArray.size < 2
 ·rw [qX h2,qX h2]
  refine AB (AM ?_);rw [StateT.run_pure]
  have hs0:(AV (Gw Um (vs.toArray.zip vs.toArray) #[] 7 none)).toList.Pairwise (Rl (ltK f)):=by
   have:(AV (Gw Um (vs.toArray.zip vs.toArray) #[] 7 none)).toList.length < 2:=by
    rw [Bu];show (J8 vs).size < 2;rw [pairsOf_size];omega
   generalize (AV (Gw Um (vs.toArray.zip vs.toArray) #[] 7 none)).toList=l at this
   match l,this with
   | [],_=>exact .nil
   | [x],_=>exact Jt _ _
   | _ :: _ :: _,h=>simp at h;lia
  refine AB (AM (AB (cP ho6 rfl (AB (XO ho6 rfl ?_ (Cm _) (last (Gw Um (vs.toArray.zip vs.toArray) #[] 7 none) (Mv _) rfl hs0))))));simp only [bne_self_eq_false,B1,if_false];exact AM (fin (Gw Um (vs.toArray.zip vs.toArray) #[] 7 none) (Mv _) hs0)
 ·rw [qY h2,qY h2]
  obtain ⟨κ,kk,C⟩:=hk (by lia) { s with heap:=((s.heap.update a (E7 λ_=>#[])).push (Ia "tuple" vs.toArray 0)).push (Ia "list" #[] 0) } old;refine AB (kk _ _ ?_)
  refine AB (GZ (Srt.wpS_sortRuns (a₀:=J8 vs) (st:=Gw κ (vs.toArray.zip vs.toArray) #[] 7 none)
   (Q:=λ_ st'=>(AV st').Perm (J8 vs)/\IJ st'=none/\(AV st').toList.Pairwise (Rl (ltK f))) C (eU f _) ⟨Mv _,rfl,rfl⟩ rfl λst' g u=>⟨g.perm,g.failed,?_⟩) ?_ λ_ _ e=>e)
  ·have:=Zh (a:=AV st') (lo:=0) (hi:=(AV st').size) (AL _) (by rw [g.size];exact u)
   rwa [Jo,List.drop_zero] at this
  rintro ⟨⟨⟩,st'⟩ s' ⟨rfl,hp,hf,hs⟩;refine AB (cP ho6 rfl (AB (XO ho6 rfl ?_ (Cm _) (last st' hp hf hs))));rw [hf];simp only [bne_self_eq_false,B1,if_false];exact AM (fin st' hp hs)
theorem Xm {vs:List AD} {f:AD->List Int} (h:∀v∈vs,V7 s v (f v)/\f v≠[]) (h0:vs≠[]):Sd prog w A s vs f:=
 ⟨kQ true,λQ E q=>bB (λv hv=>by
  obtain ⟨h1,h2⟩:=h v hv
  cases e:f v with
  | nil=>exact zX e h2
  | cons n ns=>exact ⟨n,ns,by rw [<-e];exact h1⟩) h0 q,λx y hx hy Q E q=>fj true (h _ (Gk hx).1).1 (h _ (Gk hy).1).1 q⟩
def aR (v:AD):List Int:=[numOf v]
theorem Xn {vs:List AD} {ns:List Int} (h:IntsAre vs ns) (h2:2<=vs.length):Sd prog w A s vs aR:=by
 refine ⟨oneType',λQ E q=>?_,λx y hx hy Q E q=>?_⟩
 ·match vs,h2,h with
  | v :: u :: r,_,h=>rw [keyKind_ints h];exact AM q
 ·obtain ⟨n,t,e1⟩:=h.all _ (Gk hx).1
  obtain ⟨m,u,e2⟩:=h.all _ (Gk hy).1;rw [keyLt'_oneType,e1,e2];refine oneLt_int ?_
  have:ltK aR x y=decide (n < m):=by
   unfold ltK aR;rw [e1,e2];show (if n=m then false else decide (n < m))=_;split
   ·rename_i e;simp [e]
   ·rfl
  rw [<-this];exact q
end
def Qn (h:Bq) (d:AK) (es:Array Nb) (ep:Nat):Prop:=∃o,h.get? d=some o/\o.ExactDict/\o.data=.dict es ep
theorem Qn.at' {h h':Bq} {d:AK} {es:Array Nb} {ep:Nat} (x:Qn h d es ep) (e:∀o,h.get? d=some o->h'.get? d=some o):Qn h' d es ep:=let ⟨o,ho,r⟩:=x;⟨o,e _ ho,r⟩
theorem Qn.ty {s:AG} {d:AK} {es:Array Nb} {ep:Nat} (x:Qn s.heap d es ep):s.TypeIs (.ref d) "dict":=let ⟨o,ho,hc,_⟩:=x;⟨o,ho,hc.1⟩
section
variable {prog:Aq} {w:BF} {A:BA} {E:AD->AG->Prop} {s:AG} {d it:AK} {es:Array Nb} {ep i:Nat}
theorem Z8 {Q:AD->AG->Prop} (hd:(d==DS)=false) (hm:Qn s.heap d es ep)
  (kq:Q (.ref s.heap.objs.size) { s with heap:=s.heap.push { cls:=.type "dict_keyiterator",data:=.fields #[.ref d,.int 0 0,.int es.size 0,.int ep 0] } }):Al (AZ prog w) A (ZC (.ref d)) Q E s:=by
 have hT:=hm.ty;obtain ⟨o,ho,hc,hdat⟩:=hm;refine wpAny_pyIter_slot hT Re (Dd Re hT PySem.F.entry_dict_iter ?_ (PySem.F.args_dict_iter_1 _));unfold Builtin.«dict.__iter__»;refine AB ?_;unfold nQ;refine AB (wpAny_notOrdered_dict hT (show Al _ _ (pure (A0 d)) _ _ s from AM ?_));refine (show Al _ _ (Ot d >>= _) _ _ s from ?_);unfold Ot;rw [qY (by simp [hd])];refine AB (AM (AB (QM ho hdat (AB (Sv ho hdat (AB (B9 (AM ⟨_,rfl, "dict_keyiterator",_,⟨_,Ah _ rfl,rfl⟩,CS.lookup,?_⟩))))))));simpa [EO] using kq
theorem Z7 {Q:Option AD->AG->Prop} (ki:s.heap.IsKeyIter it d i es.size ep) (hm:Qn s.heap d es ep) (hi:i < es.size)
  (kq:∀h',h'.IsKeyIter it d (i+1) es.size ep->EI it s.heap h'->Q (some es[i].key) { s with heap:=h' }):Al (AZ prog w) A (Ra (.ref it)) Q E s:=by
 obtain ⟨o,ho,hc,hd⟩:=id ki;obtain ⟨od,hod,hcd,hdd⟩:=hm;unfold Ra;refine AB (IH (DP (name:=Ga "__next__") ki.typeIs CS (Dd CS ki.typeIs LH (AB (AM (AB (AB ?_)))) (Ky _))))
 first | refine AB (EZ ki.typeIs (AM (AB (Mw ho hd ?_)))) | refine AB (GV ki.typeIs (AM (AB (Mw ho hd ?_))))
 simp only [show KB "dict_keyiterator" = false by decide,B1,if_false];refine (show Al _ _ (if (A0 d==BQ)=true then _ else _) _ _ s from ?_);rw [qY (λz:(A0 d==BQ)=true=>AR z)];refine AB (AM (AB (QM hod hdd ?_)));rw [qY (by simp)];refine AB (AM (AB (Sv hod hdd ?_)));rw [qY (by simp)];refine AM ?_;simp only [show ¬((i:Int) < 0) by lia,if_false,BN,Array.getElem?_eq_getElem hi];refine AB ?_
 first | refine AB (EZ ki.typeIs (AM (AB (L6 ki.typeIs ?_)))) | refine AB (GV ki.typeIs (AM (AB (L6 ki.typeIs ?_))))
 refine (show Al _ _ (cO (.ref it) 1 (EO ((i:Int)+1)) >>= _) _ _ s from ?_);have ki':(s.heap.update it (Cy (·.setIfInBounds 1 (EO ((i:Int)+1))))).IsKeyIter it d (i+1) es.size ep:=⟨_,DZ _ ho (Eg (CA hd _)),(JV ..).trans hc,by rw [CA hd];simp [EO]⟩;refine AB (FQ ho hd (by simp) (AB (E2 (AB (L6 (s:={ s with heap:=s.heap.update it (Cy (·.setIfInBounds 1 (EO ((i:Int)+1)))) }) ki'.typeIs ?_)))));exact (show Al _ _ (pure es[i].key) _ _ _ from AM (AM ⟨_,rfl,AM (kq _ ki' (Ge ..))⟩))
theorem dg {Q:Option AD->AG->Prop} (h0:A.handled=none) (ki:s.heap.IsKeyIter it d i es.size ep) (hm:Qn s.heap d es ep) (hi:es.size<=i)
  (kq:∀h',WK it s.heap h'->Q none { s with heap:=h' }):Al (AZ prog w) A (Ra (.ref it)) Q E s:=by
 obtain ⟨o,ho,hc,hd⟩:=id ki;obtain ⟨od,hod,hcd,hdd⟩:=hm;unfold Ra;refine AB (IH (DP (name:=Ga "__next__") ki.typeIs CS (Dd CS ki.typeIs LH (AB (AM (AB (AB ?_)))) (Ky _))))
 first | refine AB (EZ ki.typeIs (AM (AB (Mw ho hd ?_)))) | refine AB (GV ki.typeIs (AM (AB (Mw ho hd ?_))))
 simp only [show KB "dict_keyiterator" = false by decide,B1,if_false];refine (show Al _ _ (if (A0 d==BQ)=true then _ else _) _ _ s from ?_);rw [qY (λz:(A0 d==BQ)=true=>AR z)];refine AB (AM (AB (QM hod hdd ?_)));rw [qY (by simp)];refine AB (AM (AB (Sv hod hdd ?_)));rw [qY (by simp)];refine AM ?_;simp only [show ¬((i:Int) < 0) by lia,if_false,BN,Array.getElem?_eq_none hi];refine AB ?_
 first | refine AB (EZ ki.typeIs (AM (show Al _ _ (cO (.ref it) 0 .none >>= _) _ _ s from ?_))) | refine AB (GV ki.typeIs (AM (show Al _ _ (cO (.ref it) 0 .none >>= _) _ _ s from ?_)))
 refine AB (FQ ho hd (by simp) (show Al _ _ (newExc (.type "StopIteration") [] >>= _) _ _ _ from AB ?_));simp only [newExc,newTuple];refine AB (B9 (AB (m:=Mx _ _) (cN (a:=BQ) (by first | rfl | (simp only [Mx];rfl)) (B9 ?_ (by size_fits)))) (by size_fits));simp only [raiseNew];refine AB (wpAny_handled ?_);rw [show A.in1.handled=none from h0];refine AB (AM (wpAny_throw ?_));refine AB (RX (T:="StopIteration") (b:=true) ⟨_,Ah _ rfl,rfl⟩ isSubtype_stop (AM ?_));exact kq _ (((Ge ..).extBut.push _).push _)
theorem Xt (h0:A.handled=none) (I:AK) (hne:d≠I):Walks prog w A I [I,d] [I] es.size (λi v=>∃h:i < es.size,v=es[i].key) (λi h=>h.IsKeyIter I d i es.size ep/\Qn h d es ep) where
 sub:=λx hx=>by simp at hx;simp [hx]
 frame:=λ_ _ _ st keep=>⟨st.1.at λo e=>keep I (by simp) o e,st.2.at' λo e=>keep d (by simp) o e⟩
 item:=λi s Q E hi st kq=>Z7 st.1 st.2 hi λh' ki' hs'=>kq _ h' s.toks ⟨hi,rfl⟩ ⟨ki',st.2.at' λo e=>hs'.extBut d o hne e⟩ λb o hb e=>hs'.extBut b o (λh=>hb (by simp [h])) e
 done:=λs Q E st kq=>dg h0 st.1 st.2 (AL _) λh' he'=>kq h' s.toks λb o hb e=>he' b o (λh=>hb (by simp [h])) e
 self:=λ_ _ _ _ st kq=>wpAny_pyIter_keyiter st.1 kq
theorem Wb (lo:(d==DS)=false):PySem.W.KdlSrc prog w "dict" d d es.size (λi v=>∃h:i < es.size,v=es[i].key) (λh=>Qn h d es ep) where
 type:=λ_ hm=>hm.ty
 there:=λ_ hm=>⟨let ⟨_,ho,_⟩:=hm;Ab ho,let ⟨_,ho,_⟩:=hm;Ab ho⟩
 keep:=λ_ _ hm hk=>hm.at' λo e=>hk d (.inl rfl) o e
 notList:=by decide
 notTuple:=by decide
 hint:=λ_ _ _ _ hm hq=>PySem.W.kdl_hint_dict hm.ty hq
 iter:=λ_ _ h0 hm=>⟨_,_,(λ_ _ hq=>Z8 lo hm hq),Xt h0 _ (Ak (let ⟨_,ho,_⟩:=hm;Ab ho)),⟨⟨_,Ah _ rfl,rfl,rfl⟩,hm.at' λo e=>AI _ e⟩⟩
end
end Srt
namespace PySem.SetTable
end PySem.SetTable
namespace PySem
open SetTable
end PySem
namespace PySem
open Sem (wp)
open SetTable PyProof.Rows
section
variable {prog:Aq} {w:BF} {A:BA} {E:AD->AG->Prop} {s:AG}
end
section
variable {prog:Aq} {w:BF} {A:BA} {E:AD->AG->Prop} {s:AG} {a it T:AK} {es:Array (Int×AD)} {ep i:Nat} {t:SetTable}
end
section
variable {prog:Aq} {w:BF} {A:BA} {E:AD->AG->Prop} {s:AG} {a it T:AK} {es:Array (Int×AD)} {ep i:Nat} {t:SetTable}
end
section
variable {prog:Aq} {w:BF} {A:BA} {E:AD->AG->Prop} {s:AG} {a:AK} {es:Array (Int×AD)} {ep:Nat} {t:SetTable}
end
end PySem
namespace L2
open PySem PySem.Spec PyProof.Rows
open Srt (ltL)
theorem Tq {α β:Type} {R:α->β->Prop} {l2 l2':List β} (p:l2.Perm l2'):∀ {l1:List α},Gb R l1 l2->∃l1',Gb R l1' l2'/\l1'.Perm l1:=by
 induction p with
 | nil=>intro l1 h;cases h;exact ⟨[],.nil,.refl _⟩
 | cons x _ ih=>
  intro l1 h
  cases h with
  | cons r t=>
   obtain ⟨l',h1,h2⟩:=ih t;exact ⟨_ :: l',.cons r h1,h2.cons _⟩
 | swap x y l=>
  intro l1 h
  cases h with
  | cons r t=>
   cases t with
   | cons r2 t=>exact ⟨_ :: _ :: _,.cons r2 (.cons r t),List.Perm.swap _ _ _⟩
 | trans _ _ ih1 ih2=>
  intro l1 h;obtain ⟨a,h1,h2⟩:=ih1 h;obtain ⟨b,h3,h4⟩:=ih2 h1;exact ⟨b,h3,h4.trans h2⟩
theorem MV {α β γ:Type} {R:α->β->Prop} {f:α->γ} {g:β->γ}:∀ {l1:List α} {l2:List β},Gb R l1 l2->(∀a∈l1,∀b,R a b->g b=f a)->l2.map g=l1.map f
 | _,_,.nil,_=>rfl
 | _,_,.cons r t,h=>by rw [A5,A5,h _ Ag _ r,MV t λa ha=>h a (AW _ ha)]
theorem PP {α β:Type} {R:α->β->Prop}:∀ {l1:List α} {l2:List β} {b:β},Gb R l1 l2->b∈l2->∃a∈l1,R a b
 | _,_,_,.nil,h=>nomatch h
 | _,_,b,.cons r t,h=>by
  rcases Au.mp h with h | h
  ·subst h;exact ⟨_,Ag,r⟩
  ·obtain ⟨a,ha,e⟩:=PP t h
   exact ⟨a,AW _ ha,e⟩
def Qh:V->Int
 | .int n=>n
 | _=>0
def Xr (H:Hp):AD->List Int
 | .int n _=>[n]
 | .ref b=>match H b with
  | some (.tup xs)=>xs.map Qh
  | _=>[]
 | _=>[]
theorem NJ (r:List Int):(r.map V.int).map Qh=r:=by
 rw [BP];exact (FM λa _=>rfl).trans (ka r)
def mf (K:AA) (H:Hp) (p:AK) (G:List V->Prop):Prop:=
 (∃vs,(SqL K H p vs∨SqT K H p vs)/\G vs)∨(∃kvs,H p=some (.dK kvs)/\G (kvs.map λx=>kV x.1)) ∨
  ∃kvs,H p=some (.dT kvs)/\∀bs:List AK,Gb (λ(k:List Key×V) b=>H b=some (.tup (k.1.map kV))) kvs bs->G (bs.map V.ref)
def RW (H:Hp) (f:V->List Int) (vs:List V):Prop:=(∀v∈vs,∃n,v=.int n/\f v=[n])∨∀v∈vs,∃b,v=.ref b/\H b=some (.tup ((f v).map V.int))/\f v≠[]
def lO (K:AA):List V->Hp->VK->Prop:=λxs H Q=>∃p,xs=[.ref p]/\mf K H p λvs=>∃f:V->List Int,RW H f vs /\
 ∀out,out.Perm vs->out.Pairwise (λx y=>ltL (f y) (f x)=false)->∀l,H l=none->Q (.ref l) (upd H l (.lst out))
theorem RW.rel {H:Hp} {f:V->List Int} {vs:List V} (h:RW H f vs):∀v∈vs,∀u,RelV v u->Xr H u=f v:=λv hv u r=>by
 rcases h with h | h
 ·obtain ⟨n,rfl,e⟩:=h v hv
  obtain ⟨t,rfl⟩:=r;exact e.symm
 ·obtain ⟨b,rfl,e,_⟩:=h v hv
  cases r;show (match H b with | some (.tup xs)=>xs.map Qh | _=>[])=_;rw [e];exact NJ _
theorem Ta {X:Cx} {pins:List (AK×Obj)} {s:AG} {σ:St} {H:Hp} {p:AK} {G:List V->Prop} (hc:X.calm=true) (I:Inv X pins σ H s) (h:mf X.K H p G) :
  ∃vs its,G vs/\Bd vs its/\its.length<=sizeLine/\∀(R:List AD->AG->Prop) (E:AD->AG->Prop),(∀(g:Bq) (tk:Nat),(∀b o,s.heap.get? b=some o->g.get? b=some o)->R its { s with heap:=g,toks:=tk })->Al (AZ X.prog X.w) X.A.in1 (collect (.ref p)) R E s:=by
 have hh:X.A.handled=none:=I.ok.hd hc
 rcases h with ⟨vs,sq,g⟩ | ⟨kvs,e,g⟩ | ⟨kvs,e,g⟩
 ·rcases sq with sq | sq
  ·obtain ⟨its,rv,pl,hz⟩:=I.list sq
   refine ⟨vs,its,g,rv,by rw [<-rv.length];exact hz,λR E k=>collect_list pl.isList (k _ s.toks λb o e=>?_) (by rw [<-rv.length];exact hz)⟩;rw [XY _ _ _ _ (Ak (Ab e))];exact AI _ e
  ·obtain ⟨its,rv,⟨o,ho,hcl,n,hd⟩,hz⟩:=I.tuple sq
   have hz':its.length<=sizeLine:=by rw [<-rv.length];exact hz
   exact ⟨vs,its,g,rv,hz',λR E k=>wpAny_collect_seq p (.inr rfl) ho hcl hd (λh' kp=>by simpa using k h' s.toks kp) (by simpa using hz')⟩
 ·obtain ⟨hz,sm,us,kv,o,es,ep,g1,g2,g3,g5,g6,_⟩:=(show Ct X.prog X.w H s.heap p (.dK kvs) from I.hok p _ e)
  have hlen:es.size=kvs.length:=by
   have a1:=g6.length;have a2:kvs.length=us.length:=EQ kv;rw [Bu] at a1
   lia
  have hv:Bd (kvs.map λx=>kV x.1) (es.toList.map (·.key)):=by
   have key:∀ {l:List Nb} {us:List (Key×AD)} {kvs:List (Key×V)},Pairs (DW X.prog X.w) l us->KV kvs us->Bd (kvs.map λx=>kV x.1) (l.map (·.key)):=by
    intro l us kvs hp
    induction hp generalizing kvs with
    | nil=>intro h;cases h;exact .nil
    | cons q1 q2 _ ih=>
     intro h
     cases h with
     | cons r t=>
      refine .cons ?_ (ih t);dsimp only;rw [r.1]
      rcases DJ q1 with ⟨i,t,e1,e2⟩ | ⟨x,t,e1,e2⟩
      ·rw [e1,e2];exact ⟨t,rfl⟩
      ·rw [e1,e2];exact ⟨t,rfl⟩
   exact key g6 kv
  refine ⟨_,es.toList.map (·.key),g,hv,by rw [AH,Bu,hlen];exact hz,λR E k=>?_⟩
  refine UY (Srt.Wb (es:=es) (ep:=ep) sm) hh ⟨o,g1,g2,g3⟩ (by rw [hlen];exact hz) λg' tk acc kp ac=>?_
  have:acc.toList=es.toList.map (·.key):=by
   apply Eh
   intro j
   by_cases hj:j < es.size
   ·have hj2:j < acc.size:=by rw [ac.1];exact hj
    obtain ⟨_,e2⟩:=ac.2 j acc[j] (by simp [hj2]);simp [hj,hj2,e2]
   ·have hj2:¬j < acc.size:=by rw [ac.1];exact hj
    simp [hj,hj2]
  rw [this];exact k g' tk kp
 ·obtain ⟨hz,sm,xs,rr,o,es,ep,g1,g2,g3,g4,_⟩:=(show Ct X.prog X.w H s.heap p (.dT kvs) from I.hok p _ e)
  have hlen:es.size=kvs.length:=by
   have a1:=congrArg Fv g4;have a2:kvs.length=xs.length:=EQ rr;rw [Bu,AH] at a1
   lia
  have hb:Gb (λ(k:List Key×V) b=>H b=some (.tup (k.1.map kV))) kvs (xs.map (·.2.1)):=by
   have key:∀ {kvs:List (List Key×V)} {xs:List (List Key×AK×AD)},Gb (λ(p:List Key×V) (q:List Key×AK×AD)=>p.1=q.1/\H q.2.1=some (.tup (p.1.map kV))/\RelV p.2 q.2.2) kvs xs->Gb (λ(k:List Key×V) b=>H b=some (.tup (k.1.map kV))) kvs (xs.map (·.2.1)):=by
    intro kvs xs h
    induction h with
    | nil=>exact .nil
    | cons r _ ih=>exact .cons r.2.1 ih
   exact key rr
  have hk:es.toList.map (·.key)=(xs.map (·.2.1)).map A0:=by
   rw [g4,BP,BP];rfl
  have hv:∀l:List AK,Bd (l.map V.ref) (l.map A0):=λl=>by
   induction l with
   | nil=>exact .nil
   | cons a l ih=>exact .cons rfl ih
  refine ⟨_,(xs.map (·.2.1)).map A0,g _ hb,hv _,by rw [AH,AH,<-EQ rr];exact hz,λR E k=>?_⟩
  refine UY (Srt.Wb (es:=es) (ep:=ep) sm) hh ⟨o,g1,g2,g3⟩ (by rw [hlen];exact hz) λg' tk acc kp ac=>?_
  have:acc.toList=(xs.map (·.2.1)).map A0:=by
   rw [<-hk]
   apply Eh
   intro j
   by_cases hj:j < es.size
   ·have hj2:j < acc.size:=by rw [ac.1];exact hj
    obtain ⟨_,e2⟩:=ac.2 j acc[j] (by simp [hj2]);simp [hj,hj2,e2]
   ·have hj2:¬j < acc.size:=by rw [ac.1];exact hj
    simp [hj,hj2]
  rw [this];exact k g' tk kp
theorem Tg {X:Cx} {s:AG} {H:Hp} {f:V->List Int} {vs:List V} {its:List AD} (I:∀b xs,H b=some (.tup xs)->∃is:List AD,Bd xs is/\kb s.heap b is.toArray) (h:RW H f vs) (rv:Bd vs its) (h2:2<=its.length) {A:BA}:Srt.Sd X.prog X.w A s its (Xr H):=by
 rcases id h with hi | ht
 ·have:∃ns,IntsAre its ns:=by
   have key:∀ {vs:List V} {its:List AD},Bd vs its->(∀v∈vs,∃n,v=.int n/\f v=[n])->∃ns,IntsAre its ns:=by
    intro vs its r
    induction r with
    | nil=>exact λ_=>⟨[],.nil⟩
    | cons r _ ih=>
     intro hv
     obtain ⟨ns,hns⟩:=ih λv hv'=>hv v (AW _ hv')
     obtain ⟨n,rfl,_⟩:=hv _ Ag;obtain ⟨t,rfl⟩:=r;exact ⟨n :: ns,.cons n t hns⟩
   exact key rv hi
  obtain ⟨ns,hns⟩:=this;obtain ⟨κ,k1,k2⟩:=Srt.Xn (prog:=X.prog) (w:=X.w) (A:=A) (s:=s) hns h2;refine ⟨κ,k1,λx y hx hy Q E q=>k2 x y hx hy Q E ?_⟩;obtain ⟨n,t,e1⟩:=hns.all _ (Srt.Gk hx).1;obtain ⟨m,u,e2⟩:=hns.all _ (Srt.Gk hy).1
  have e:Srt.ltK Srt.aR x y=Srt.ltK (Xr H) x y:=by
   unfold Srt.ltK Srt.aR;rw [e1,e2];rfl
  rw [e];exact q
 ·refine Srt.Xm (λu hu=>?_) (by intro e;subst e;simp at h2)
  obtain ⟨v,hv,r⟩:=PP rv hu;rw [h.rel v hv u r];obtain ⟨b,rfl,e,ne⟩:=ht v hv;cases r;refine ⟨⟨b,?_⟩,ne⟩;obtain ⟨is,r,o,ho,hcl,n,hd⟩:=I b _ e;exact ⟨is.toArray,rfl,⟨o,ho,hcl,n,hd⟩,by simpa using intsAre_of r⟩
theorem Yi {X:Cx} (hc:X.calm=true):HV X (.builtin "sorted") (lO X.K):=by
 intro pins s σ H xs us Q I r h;obtain ⟨p,rfl,src⟩:=h;obtain ⟨u,rfl,rx⟩:=vals1 r;cases rx;obtain ⟨vs,its,⟨f,rows,q⟩,rv,hz,col⟩:=Ta hc I src;refine Calls.call_function_entry kind_sorted plain_sorted entry_sorted (args_sorted1 _) ?_;unfold Builtin.«sorted»;refine AB (m:=checkCount "sorted" 1 1 _) (AM (AB (col _ _ λg tk kp=>?_)));refine AB (wpAny_newList ?_ hz);have I1:Inv X pins σ H { s with heap:=g,toks:=tk }:=I.kept kp;have hl:(g.push (Ia "list" its.toArray 0)).get? g.objs.size=some (Ia "list" its.toArray 0):=Ah _ rfl;refine AB (E2 (Dd slot_list_sort ⟨_,hl,rfl⟩ entry_list_sort (Srt.Qi (f:=Xr H) hl hz (λh2 s' keep=>?_) λout po so=>⟨_,rfl,AM ⟨_,rfl,?_⟩⟩) (args_list_sort _)))
 ·refine Tg (λb xs e=>?_) rows rv h2
  obtain ⟨_,is,r,o,ho,hcl,n,hd⟩:=(show Ct X.prog X.w H g b (.tup xs) from I1.hok b _ e);exact ⟨is,r,o,keep b o (Ak (Ab ho)) (AI _ ho),hcl,n,hd⟩
 ·obtain ⟨vo,ro,pv⟩:=Tq po.symm rv
  have so':vo.Pairwise (λx y=>ltL (f y) (f x)=false):=by
   have e:out.toList.map (Xr H)=vo.map f:=MV ro λa ha b rb=>rows.rel a (pv.mem_iff.mp ha) b rb
   have:=(C9 (f:=Xr H) (R:=λx y=>ltL y x=false)).mpr so;rw [e] at this;exact C9.mp this
  obtain ⟨k,hk⟩:=sortedHeap_at (out:=out) hl
  have hlen:vo.length<=sizeLine:=by rw [pv.length_eq,rv.length];exact hz
  have I2:=I1.laid (a:=g.objs.size) (o:=.lst vo) (t':=tk) (h':=g9 (g.push (Ia "list" its.toArray 0)) g.objs.size its out)
   (λb u z=>by
    have lt:b < g.objs.size:=Ab z;rw [sortedHeap_old (Ak lt) (by rw [size_push'];exact Eo lt)]
    exact AI _ z) (AL _) ⟨hlen,out.toList,k,ro,hk⟩
  exact ⟨.ref g.objs.size,_,I2,rfl,q vo pv so' _ (I1.hok.fresh (AL _))⟩
def E4 (ns:List Int):List Int:=ns.mergeSort (λa b=>decide (a<=b))
@[simp] theorem kc:E4 []=[]:=by unfold E4;simp
theorem Di (ns:List Int):(E4 ns).Perm ns:=XT ns _
theorem MK (ns:List Int):(E4 ns).Pairwise (·<=·):=by
 have:=Sy (le:=λa b:Int=>decide (a<=b)) (by intro a b c h1 h2;simp at h1 h2 ⊢;lia) (by intro a b;simp;lia) ns
 exact this.imp λh=>by simpa using h
def LL (rs:List (List Int)):List (List Int):=rs.mergeSort (λa b=>!ltL b a)
theorem Hs (rs:List (List Int)):(LL rs).Perm rs:=XT rs _
theorem O8 (rs:List (List Int)):(LL rs).Pairwise (λa b=>ltL b a=false):=by
 have:=Sy (le:=λa b:List Int=>!ltL b a) (by intro a b c h1 h2;simp at h1 h2 ⊢;exact Srt.SA _ _ _ h1 h2) (by
  intro a b
  cases e:ltL b a with
  | false=>simp
  | true=>simp [Srt.Pi _ _ e]) rs
 exact this.imp λh=>by simpa using h
theorem Q0 {l l':List (List Int)} (p:l.Perm l') (h:l.Pairwise (λa b=>ltL b a=false)) (h':l'.Pairwise (λa b=>ltL b a=false)):l=l':=
 p.eq_of_pairwise (λa b _ _ h1 h2=>Srt.Wq a b h2 h1) h h'
def bC:Key->D
 | .inl i=>.int i
 | .inr x=>.str x
def Gp (d:D) (S:Sto):Option (List D):=match d with
 | .fro ds=>some ds
 | .tup ds=>some ds
 | .ref n=>match S[n]? with
  | some (.lst ds)=>some ds
  | some (.dK kvs)=>some (kvs.map λx=>bC x.1)
  | some (.dT kvs)=>some (kvs.map λx=>.tup (x.1.map bC))
  | _=>none
 | _=>none
def FU (r:List Int):D:=.tup (r.map D.int)
def Q5:List D->Option (List (List Int))
 | []=>some []
 | .tup ds :: r=>match G7 ds,Q5 r with
  | some (n :: ns),some rs=>some ((n :: ns) :: rs)
  | _,_=>none
 | _ :: _=>none
def MM (ds:List D):Option (List D):=match G7 ds with
 | some ns=>some ((E4 ns).map D.int)
 | none=>match Q5 ds with
  | some rs=>some ((LL rs).map FU)
  | none=>none
def ET (m:ME):ME:=λe S=>(m e S).bind λd S1=>match Gp d S1 with
 | some ds=>match MM ds with
  | some es=>.ok (.ref S1.length) (S1++[.lst es])
  | none=>.bad
 | none=>.bad
section
variable {X:Cx} {E:EW} {e:Expr} {p pos:Pos} {m:ME}
theorem e8 (x y:Int):ltL [y] [x]=decide (y < x):=by
 show (if y=x then false else decide (y < x))=_;split
 ·rename_i e;simp [e]
 ·rfl
def Qd (H:Hp):V->List Int
 | .int n=>[n]
 | .ref b=>match H b with
  | some (.tup xs)=>xs.map Qh
  | _=>[]
 | _=>[]
theorem Th {K:AA} {ρ:List AK} {H:Hp}:∀ {ds:List D} {rs:List (List Int)} {vs:List V},Q5 ds=some rs->Ay K ρ H ds vs->vs.map (Qd H)=rs/\∀v∈vs,∃b,v=.ref b/\H b=some (.tup ((Qd H v).map V.int))/\Qd H v≠[]
 | [],_,_,h,.nil=>by cases h;exact ⟨rfl,λv hv=>nomatch hv⟩
 | .tup ts :: ds,rs,_,h,.cons r t=>by
  unfold Q5 at h;split at h
  ·rename_i n ns rs' h1 h2
   cases h;obtain ⟨i1,i2⟩:=Th h2 t
   cases r with
   | @tup _ b ws hb rr=>
    have:=JQ h1;subst this;have:=rr.ints;subst this
    have e:Qd H (.ref b)=n :: ns:=by
     show (match H b with | some (.tup xs)=>xs.map Qh | _=>[])=_;rw [hb];exact NJ _
    refine ⟨by rw [A5,e,i1],λv hv=>?_⟩
    rcases Au.mp hv with hv | hv
    ·subst hv
     refine ⟨b,rfl,?_,?_⟩
     ·rw [e];exact hb
     ·rw [e];exact List.cons_ne_nil _ _
    ·exact i2 v hv
  ·cases h
 | .non :: _,_,_,h,_=>by cases h
 | .bl _ :: _,_,_,h,_=>by cases h
 | .int _ :: _,_,_,h,_=>by cases h
 | .str _ :: _,_,_,h,_=>by cases h
 | .fro _ :: _,_,_,h,_=>by cases h
 | .ref _ :: _,_,_,h,_=>by cases h
 | .exc _ :: _,_,_,h,_=>by cases h
theorem Tj {K:AA} {ρ:List AK} {H:Hp}:∀ {vs:List V},(∀v∈vs,∃b,v=.ref b/\H b=some (.tup ((Qd H v).map V.int))/\Qd H v≠[])->Ay K ρ H ((vs.map (Qd H)).map FU) vs
 | [],_=>.nil
 | v :: vs,h=>by
  obtain ⟨b,e,hb,_⟩:=h v Ag;refine .cons ?_ (Tj λu hu=>h u (AW _ hu));subst e;exact .tup hb (Ay.of_ints _)
theorem Zu {K:AA} {ρ:List AK} {H:Hp} {ds es:List D} {vs:List V} (h:MM ds=some es) (r:Ay K ρ H ds vs) :
  ∃f:V->List Int,RW H f vs/\∀out,out.Perm vs->out.Pairwise (λx y=>ltL (f y) (f x)=false)->Ay K ρ H es out:=by
 unfold MM at h;split at h
 ·rename_i ns hz
  cases h;have:=JQ hz;subst this;have:=r.ints;subst this;refine ⟨λv=>[Qh v],.inl λv hv=>?_,λout po so=>?_⟩
  ·obtain ⟨n,_,rfl⟩:=A7.mp hv
   exact ⟨n,rfl,rfl⟩
  ·have e1:out=(out.map Qh).map V.int:=by
    rw [BP]
    conv=>lhs;rw [<-WH out]
    refine FM λv hv=>?_
    obtain ⟨n,_,rfl⟩:=A7.mp (po.mem_iff.mp hv);rfl
   have e2:out.map Qh=E4 ns:=by
    have p1:(out.map Qh).Perm (E4 ns):=by
     have:=po.map Qh;rw [NJ] at this;exact this.trans (Di ns).symm
    refine p1.eq_of_pairwise (λa b _ _ h1 h2=>QT h1 h2) ?_ (MK ns);rw [C9]
    refine so.imp λ{x y} hxy=>?_
    rw [e8] at hxy;simp at hxy;exact hxy
   rw [e1,e2];exact Ay.of_ints _
 ·split at h
  ·rename_i rs hr
   cases h;obtain ⟨i1,i2⟩:=Th hr r;refine ⟨Qd H,.inr i2,λout po so=>?_⟩
   have e2:out.map (Qd H)=LL rs:=by
    refine Q0 ?_ (C9.mpr so) (O8 rs);have:=po.map (Qd H);rw [i1] at this;exact this.trans (Hs rs).symm
   rw [<-e2]
   exact Tj λv hv=>i2 v (po.mem_iff.mp hv)
  ·cases h
theorem Pl {K:AA} {ρ:List AK} {H:Hp}:∀ks:List Key,Ay K ρ H (ks.map bC) (ks.map kV)
 | []=>.nil
 | .inl i :: ks=>.cons (.int i) (Pl ks)
 | .inr x :: ks=>.cons (.str x) (Pl ks)
theorem Pk {K:AA} {ρ:List AK} {H:Hp}:∀ {kvs:List (Key×D)} {kvs':List (Key×V)},KVR K ρ H kvs kvs'->Ay K ρ H (kvs.map λx=>bC x.1) (kvs'.map λx=>kV x.1)
 | _,_,.nil=>.nil
 | (k,_) :: _,(k',_) :: _,.cons r t=>by
  have e:k=k':=r.1;subst e
  cases k with
  | inl i=>exact .cons (.int i) (Pk t)
  | inr x=>exact .cons (.str x) (Pk t)
theorem T5 {K:AA} {ρ:List AK} {H:Hp}:∀ {kvs:List (List Key×D)} {kvs':List (List Key×V)} {bs:List AK},KVR K ρ H kvs kvs'->Gb (λ(k:List Key×V) b=>H b=some (.tup (k.1.map kV))) kvs' bs->Ay K ρ H (kvs.map λx=>.tup (x.1.map bC)) (bs.map V.ref)
 | _,_,_,.nil,.nil=>.nil
 | (k,_) :: _,(k',_) :: _,_,.cons r t,.cons r2 t2=>by
  have e:k=k':=r.1;subst e;exact .cons (.tup r2 (Pl k)) (T5 t t2)
theorem JT (hc:X.calm=true) (hg:Gl X "sorted") (hm:X.mg "sorted" = none) (h:GE X E e m) (he:AS [e] X.env=(false,Bm e X.env) :: AS [] X.env:=by rfl):GE X E (.Call (.Name "sorted" p) [e] [] pos) (ET m):=
 (KL (Yi hc) hg hm nB (Ez h HH he) (by decide) (by decide) he rfl).imp λσ H Q ⟨ρ,l,S,hl,hs,hm⟩=>by
 refine ⟨ρ,l,S,hl,hs,hm.seq λd S1 hm ρ1 H1 x l1 s1 r1=>?_⟩
 cases hq:Gp d S1 with
 | none=>rw [hq] at hm;exact hm.elim
 | some ds=>
  rw [hq] at hm;dsimp only at hm
  cases hi:MM ds with
  | none=>rw [hi] at hm;exact hm.elim
  | some es=>
   rw [hi] at hm
   have fin:∀vs:List V,Ay X.K ρ1 H1 es vs->∀q,H1 q=none->Q (.ref q) (upd H1 q (.lst vs)):=λvs rr q hq=>by
    have le:Le X.K ρ1 H1 (ρ1++[q]) (upd H1 q (.lst vs)):=Le.alloc hq;obtain ⟨s4,l4,at4⟩:=s1.alloc (ho:=.lst vs) (o:=.lst es) hq ⟨_,Bj,rr.mono le⟩;exact hm _ _ _ (l1.trans l4) s4 (.ref at4)
   have out:∀vs,Ay X.K ρ1 H1 ds vs->∃f:V->List Int,RW H1 f vs/\∀out,out.Perm vs->out.Pairwise (λx y=>ltL (f y) (f x)=false)->∀l,H1 l=none->Q (.ref l) (upd H1 l (.lst out)):=λvs rr=>by
    obtain ⟨f,k1,k2⟩:=Zu hi rr;exact ⟨f,k1,λout po so=>fin out (k2 out po so)⟩
   cases r1 with
   | fro h1 h2=>cases hq;exact ⟨_,rfl,.inl ⟨_,.inl h1.sq,out _ h2⟩⟩
   | tup h1 h2=>cases hq;exact ⟨_,rfl,.inl ⟨_,.inr (.inl (.inl h1)),out _ h2⟩⟩
   | @ref n a hn=>
    obtain ⟨o,ho,ro⟩:=s1.there hn;unfold Gp at hq;simp only [ho] at hq
    cases o with
    | lst ys=>cases hq;obtain ⟨vs,e,rr⟩:=ro;exact ⟨_,rfl,.inl ⟨vs,.inl (.inl (.inl e)),out _ rr⟩⟩
    | dK kvs=>cases hq;obtain ⟨vs,e,rr⟩:=ro;exact ⟨_,rfl,.inr (.inl ⟨vs,e,out _ (Pk rr)⟩)⟩
    | dT kvs=>cases hq;obtain ⟨vs,e,rr⟩:=ro;exact ⟨_,rfl,.inr (.inr ⟨vs,e,λbs hb=>out _ (T5 rr hb)⟩)⟩
    | ins C fs=>cases hq
   | _=>cases hq
end
end L2
namespace L2
open PySem PySem.Spec PyProof.Rows
theorem SE {K:AA} {t:String} (h:∀A∈["NoneType", "bool", "int", "str", "tuple", "list", "dict"],CY K (.type A) (.type t)=gr t A):∀A b,isB t A=some b->CY K (.type A) (.type t)=some b:=λA b e=>by
 unfold isB at e;split at e
 ·rename_i hA
  rw [h A (by simpa using hA)];exact e
 ·cases e
theorem YH {K:AA}:∀A b,isB "tuple" A=some b->CY K (.type A) (.type "tuple")=some b:=SE λA h=>by
 simp only [Au,CG,or_false] at h
 rcases h with rfl | rfl | rfl | rfl | rfl | rfl | rfl <;> kernel_rfl
theorem bH {K:AA}:∀A b,isB "list" A=some b->CY K (.type A) (.type "list")=some b:=SE λA h=>by
 simp only [Au,CG,or_false] at h
 rcases h with rfl | rfl | rfl | rfl | rfl | rfl | rfl <;> kernel_rfl
theorem fG {K:AA}:∀A b,isB "int" A=some b->CY K (.type A) (.type "int")=some b:=SE λA h=>by
 simp only [Au,CG,or_false] at h
 rcases h with rfl | rfl | rfl | rfl | rfl | rfl | rfl <;> kernel_rfl
theorem bI {K:AA}:∀A b,isB "bool" A=some b->CY K (.type A) (.type "bool")=some b:=SE λA h=>by
 simp only [Au,CG,or_false] at h
 rcases h with rfl | rfl | rfl | rfl | rfl | rfl | rfl <;> kernel_rfl
def Zt (K:AA):Sp:=λvs H Q _=>∃(a:AK) (ns:List Int),vs=[.ref a]/\Qo K H a (ns.map V.int)/\ns.length<=63/\∀H',Q (.bl true) H'
theorem ay {P:Aq} {w:BF} {K:AA} {mg:Str->Option AD} {base:Bq} {k:Nat} {fa:AK} {fd:Dh} {f:List D->Sto->Res D} (F:Dp P w K mg base (CXG P w) k fa fd ["script"] (spM K 1 f))
  (h:∀ns:List Int,ns.length<=63->∃S',f [.fro (ns.map D.int)] []=.ok (.bl true) S'):Dp P w K mg base (CXG P w) k fa fd ["script"] (Zt K):=F.imp λvs H Q E ⟨a,ns,e,hS,hl,q⟩=>by
 subst e;obtain ⟨S',e⟩:=h ns hl;refine ⟨[],[.fro (ns.map D.int)],[],rfl,.cons (.fro hS (Ay.of_ints ns)) .nil,⟨rfl,λi j a hi=>by simp at hi,λn o a hn=>by simp at hn⟩,?_⟩;rw [e]
 exact λρ' H' x _ _ r=>by cases r;exact q H'
theorem kD {K:AA} {H:Hp} {a:AK} {ns:List Int} (hO:gD H) (hS:SqL K H a (ns.map V.int)):Qo K H a (ns.map V.int):=by
 rcases hS with (h | h) | h
 ·rcases hO a with z | ⟨o,xs,z⟩ <;> rw [z] at h <;> cases h
 ·exact .inl h
 ·exact .inr h
theorem Lr {K:AA} {C:AK} {v:AD} {b:Bool} (h:LF K C v=some b):(LG K C).isSome=true:=by
 obtain ⟨cd,a,_⟩:=Rg.mp h;rw [a];rfl
theorem kI {P:Aq} {w:BF} {H:Hp} {s:AG} {e:AD} {s':AG} (h:CXG P w [] H s (λ_ _ _=>False) e s'):False:=by
 obtain ⟨_,_,_,_,_,_,_,_,_,z⟩:=h;exact z
end L2
namespace L2
open PySem
def gw (I:Lo->Sto->Prop) (R:Fl->Sto->Prop) (f:Fl) (S:Sto):Prop:=match f with
 | .nx e=>I e S
 | .ct e=>I e S
 | .bk e=>R (.nx e) S
 | .rt d=>R (.rt d) S
 | .ex c e=>R (.ex c e) S
theorem fW {v:Hf} {g:MG} {b:MS} {xs:List D} (I:Nat->Lo->Sto->Prop) (R:Fl->Sto->Prop) (hv:∀i e S,I i e S->v S=some xs)
  (step:∀i d e S,xs[i]?=some d->I i e S->∃e1 S1,g d e S=.ok e1 S1/\∃f S2,b e1 S1=.ok f S2/\gw (I (i+1)) R f S2)
  (fin:∀e S,I xs.length e S->R (.nx e) S):∀(k i:Nat) (e:Lo) (S:Sto),I i e S->i<=xs.length->xs.length<=i+k->∃f S',JU v g b k i e S=.ok f S'/\R f S':=by
 intro k
 induction k with
 | zero=>
  intro i e S h h1 h2
  have:i=xs.length:=by lia
  subst this;refine ⟨.nx e,S,?_,fin e S h⟩;unfold JU;rw [hv _ e S h];simp
 | succ k ih=>
  intro i e S h h1 h2;unfold JU;rw [hv _ e S h];dsimp only
  by_cases hi:i < xs.length
  ·have hd:xs[i]?=some xs[i]:=by simp [hi]
   rw [hd];dsimp only;obtain ⟨e1,S1,q1,f,S2,q2,t⟩:=step i _ e S hd h;rw [q1];dsimp only [Res.bind];rw [q2];dsimp only [Res.bind]
   cases f with
   | nx e2=>exact ih (i+1) e2 S2 t (by lia) (by lia)
   | ct e2=>exact ih (i+1) e2 S2 t (by lia) (by lia)
   | bk e2=>exact ⟨_,_,rfl,t⟩
   | rt d=>exact ⟨_,_,rfl,t⟩
   | ex c e2=>exact ⟨_,_,rfl,t⟩
  ·have:i=xs.length:=by lia
   subst this;rw [show xs[xs.length]?=none by simp];exact ⟨.nx e,S,rfl,fin e S h⟩
theorem Gs {v:Hf} {g:MG} {b:MS} {xs:List D} {e:Lo} {S:Sto} (I:Nat->Lo->Sto->Prop) (R:Fl->Sto->Prop) (h0:I 0 e S) (hv:∀i e S,I i e S->v S=some xs)
  (step:∀i d e S,xs[i]?=some d->I i e S->∃e1 S1,g d e S=.ok e1 S1/\∃f S2,b e1 S1=.ok f S2/\gw (I (i+1)) R f S2)
  (fin:∀e S,I xs.length e S->R (.nx e) S):∃f S',JU v g b (Cj v S) 0 e S=.ok f S'/\R f S':=by
 have hl:Cj v S=xs.length:=by unfold Cj;rw [hv 0 e S h0]
 rw [hl];exact fW I R hv step fin _ _ _ _ h0 (Cm _) (by lia)
theorem bn {v:Hf} {g:MG} {c:MT} {m:ME} {xs:List D} (I:Nat->Lo->Sto->List D->Prop) (hv:∀i e S acc,I i e S acc->v S=some xs)
  (step:∀i d e S acc,xs[i]?=some d->I i e S acc->acc.length < sizeLine/\∃e1 S1,g d e S=.ok e1 S1/\∃b S2,c e1 S1=.ok b S2/\((b=true/\∃y S3,m e1 S2=.ok y S3/\I (i+1) e1 S3 (acc++[y]))∨(b=false/\I (i+1) e1 S2 acc))) :
  ∀(k i:Nat) (e:Lo) (S:Sto) (acc:List D),I i e S acc->i<=xs.length->xs.length<=i+k->∃r S',E5 v g c m k i e S acc=.ok r S'/\∃e',I xs.length e' S' r:=by
 intro k
 induction k with
 | zero=>
  intro i e S acc h h1 h2
  have:i=xs.length:=by lia
  subst this;refine ⟨acc,S,?_,e,h⟩;unfold E5;rw [hv _ e S acc h];simp
 | succ k ih=>
  intro i e S acc h h1 h2;unfold E5;rw [hv _ e S acc h];dsimp only
  by_cases hi:i < xs.length
  ·have hd:xs[i]?=some xs[i]:=by simp [hi]
   rw [hd];dsimp only;obtain ⟨hz,e1,S1,q1,b,S2,q2,t⟩:=step i _ e S acc hd h;rw [qX hz,q1];dsimp only [okR,Res.bind];rw [q2];dsimp only [okR,Res.bind]
   rcases t with ⟨rfl,y,S3,q3,t⟩ | ⟨rfl,t⟩
   ·rw [qX rfl,q3]
    exact ih (i+1) e1 S3 _ t (by lia) (by lia)
   ·rw [qY AR]
    exact ih (i+1) e1 S2 acc t (by lia) (by lia)
  ·have:i=xs.length:=by lia
   subst this;rw [show xs[xs.length]?=none by simp];exact ⟨acc,S,rfl,e,h⟩
theorem Mf {v:Hf} {g:MG} {c:MT} {m:ME} {xs:List D} {e:Lo} {S:Sto} (I:Nat->Lo->Sto->List D->Prop) (h0:I 0 e S []) (hv:∀i e S acc,I i e S acc->v S=some xs)
  (step:∀i d e S acc,xs[i]?=some d->I i e S acc->acc.length < sizeLine/\∃e1 S1,g d e S=.ok e1 S1/\∃b S2,c e1 S1=.ok b S2/\((b=true/\∃y S3,m e1 S2=.ok y S3/\I (i+1) e1 S3 (acc++[y]))∨(b=false/\I (i+1) e1 S2 acc))) :
  ∃r S',E5 v g c m (Cj v S) 0 e S []=.ok r S'/\∃e',I xs.length e' S' r:=by
 have hl:Cj v S=xs.length:=by unfold Cj;rw [hv 0 e S [] h0]
 rw [hl];exact bn I hv step _ _ _ _ _ h0 (Cm _) (by lia)
theorem ji {j:Int} (h:-1000000<=j):-(2 ^ 62)<=j:=Int.le_trans (by decide) h
theorem jt {j:Int} (h:j<=1000000):j < 2 ^ 62:=ZO h (by decide)
theorem Ln {ml:ML} {e:Lo} {S S1:Sto} {j:Int} (h:ml e S=.ok [.int j] S1) (h0:-1000000<=j) (h1:j<=1000000):iR1 ml e S=.ok (Dq (DH 0 j.toNat)) S1:=by
 unfold iR1;rw [h];dsimp only [Res.bind];rw [qX ⟨ji h0,jt h1⟩]
theorem jr {ml:ML} {e:Lo} {S S1:Sto} {i j:Int} (h:ml e S=.ok [.int i,.int j] S1) (h0:-1000000<=i) (h1:i<=1000000) (h2:-1000000<=j) (h3:j<=1000000):iR2 ml e S=.ok (Dq (DH i (j - i).toNat)) S1:=by
 unfold iR2;rw [h];dsimp only [Res.bind];rw [qX ⟨ji h0,jt h1,ji h2,jt h3⟩]
theorem Hm (lo:Int) (n:Nat):(DH lo n).length=n:=by simp [DH]
theorem JK {lo:Int} {n i:Nat} {d:D} (h:(DH lo n)[i]?=some d):i < n/\d=.int (lo+i):=by
 rw [NE] at h;split at h
 ·rename_i hi
  cases h;exact ⟨hi,rfl⟩
 ·cases h
theorem G8 {i j:Int} {S:Sto} (h:0 < j) (h1:j<=1000000):Fk (.int i) (.int j) S=.ok (.int (i / j)) S:=by
 show (if gH i j then _ else _)=_;rw [qX ⟨h,by lia⟩]
theorem Ck {i j:Int} {S:Sto} (h:0 < j):Cw (.int i) (.int j) S=.ok (.int (i % j)) S:=by
 show (if 0 < j then _ else _)=_;rw [qX h]
theorem A2 {f:D->D->Sto->Res D} {ma mb:ME} {e:Lo} {S S1 S2 S3:Sto} {x y d:D} (ha:ma e S=.ok x S1) (hb:mb e S1=.ok y S2) (hf:f x y S2=.ok d S3):m2 f ma mb e S=.ok d S3:=by
 unfold m2;rw [ha];dsimp only [Res.bind];rw [hb];dsimp only [Res.bind];rw [hf];rfl
theorem Cb {m:ME} {e:Lo} {S S1:Sto} {d:D} {i:Nat} (h:m e S=.ok d S1):BZ i m e S=.ok (.nx (e.set i (some d))) S1:=by
 unfold BZ Xq;rw [h];rfl
theorem FV {m:ME} {e:Lo} {S S1:Sto} {d:D} (h:m e S=.ok d S1):DM m e S=.ok (.rt d) S1:=by
 unfold DM;rw [h];rfl
theorem C5 {m:ME} {e:Lo} {S S1:Sto} {d:D} (h:m e S=.ok d S1):CD m e S=.ok (.nx e) S1:=by
 unfold CD;rw [h];rfl
theorem D0 {t:MT} {a b:MS} {e:Lo} {S S1:Sto} {c:Bool} (h:t e S=.ok c S1):sIf t a b e S=if c=true then a e S1 else b e S1:=by
 unfold sIf;rw [h];rfl
theorem FY {m:MI} {g:MG} {b:MS} {e:Lo} {S S1:Sto} {v:Hf} (h:m e S=.ok v S1):HF m g b e S=JU v g b (Cj v S1) 0 e S1:=by
 unfold HF;rw [h];rfl
theorem Bl {n:Nat} {f:List D->Sto->Res D} {m:ML} {e:Lo} {S S1:Sto} {ds:List D} (h:m e S=.ok ds S1) (hn:ds.length=n):BB n f m e S=f ds S1:=by
 unfold BB;rw [h];dsimp only [Res.bind];rw [qX hn]
theorem At {a b:MS} {e e1:Lo} {S S1:Sto} (h:a e S=.ok (.nx e1) S1):BM a b e S=b e1 S1:=by unfold BM;rw [h];rfl
theorem PD {a b:MS} {e:Lo} {S S1:Sto} {d:D} (h:a e S=.ok (.rt d) S1):BM a b e S=.ok (.rt d) S1:=by unfold BM;rw [h];rfl
theorem VR {a b:MS} {e e1:Lo} {S S1:Sto} {c:AK} (h:a e S=.ok (.ex c e1) S1):BM a b e S=.ok (.ex c e1) S1:=by unfold BM;rw [h];rfl
theorem Cp {n:Nat} {mb:MS} {ds:List D} {S S1:Sto} {d:D} (h:mb (DF n ds) S=.ok (.rt d) S1):EG n mb ds S=.ok d S1:=by unfold EG;rw [h];rfl
theorem Z2 {n:Nat} {mb:MS} {ds:List D} {S S1:Sto} {e:Lo} (h:mb (DF n ds) S=.ok (.nx e) S1):EG n mb ds S=.ok .non S1:=by unfold EG;rw [h];rfl
theorem iw {n:Nat} {mb:MS} {ds:List D} {S S1:Sto} {c:AK} {e:Lo} (h:mb (DF n ds) S=.ok (.ex c e) S1):EG n mb ds S=.err c S1:=by unfold EG;rw [h];rfl
def Keeps (S S':Sto):Prop:=S.length<=S'.length/\∀j,j < S.length->S'[j]?=S[j]?
theorem Keeps.refl (S:Sto):Keeps S S:=⟨AL _,λ_ _=>rfl⟩
theorem Keeps.trans {S S1 S2:Sto} (a:Keeps S S1) (b:Keeps S1 S2):Keeps S S2:=⟨Ax a.1 b.1,λj h=>(b.2 j (Ae h a.1)).trans (a.2 j h)⟩
theorem Keeps.app (S:Sto) (G:Sto):Keeps S (S++G):=⟨by simp,λj h=>Ac h⟩
theorem Keeps.set {S S1:Sto} (a:Keeps S S1) {m:Nat} (h:S.length<=m) (o:Ob):Keeps S (S1.set m o):=⟨by simpa using a.1,λj hj=>by rw [Am (by lia)];exact a.2 j hj⟩
theorem Keeps.at {S S1:Sto} (a:Keeps S S1) {j:Nat} {o:Ob} (h:S[j]?=some o):S1[j]?=some o:=by
 rw [a.2 j (AF.mp h).1];exact h
theorem IE {mo ma:ME} {e:Lo} {S S1 S2:Sto} {n:Nat} {xs xs2:List D} {y:D} (h1:mo e S=.ok (.ref n) S1) (h2:S1[n]?=some (.lst xs)) (h3:ma e S1=.ok y S2) (h4:S2[n]?=some (.lst xs2)) (h5:xs2.length < sizeLine) :
  FA mo ma e S=.ok .non (S2.set n (.lst (xs2++[y]))):=by
 unfold FA;rw [h1];dsimp only [Res.bind];rw [h2];dsimp only;rw [h3];dsimp only [Res.bind];rw [h4];dsimp only;rw [qX h5]
theorem YY {mo ma:ME} {e:Lo} {S S1 S2:Sto} {n k:Nat} {xs xs2 ys:List D} (h1:mo e S=.ok (.ref n) S1) (h2:S1[n]?=some (.lst xs)) (h3:ma e S1=.ok (.ref k) S2) (h4:S2[n]?=some (.lst xs2)) (h5:S2[k]?=some (.lst ys)) (hk:k≠n) (h6:xs2.length+ys.length<=sizeLine) :
  Mb mo ma e S=.ok .non (S2.set n (.lst (xs2++ys))):=by
 unfold Mb;rw [h1];dsimp only [Res.bind]
 have a1:atL (.ref n) S1=some (n,xs):=by unfold atL;dsimp only;rw [h2]
 have a2:atL (.ref n) S2=some (n,xs2):=by unfold atL;dsimp only;rw [h4]
 have a3:atL (.ref k) S2=some (k,ys):=by unfold atL;dsimp only;rw [h5]
 rw [a1];dsimp only;rw [h3];dsimp only [Res.bind];rw [a2,a3];dsimp only;rw [qX ⟨hk,h6⟩]
theorem C0 {n:Nat} {S:Sto} {xs:List D} (h:S[n]?=some (.lst xs)):FE (.ref n) S=some xs:=by
 unfold FE Ng;dsimp only;rw [h]
theorem FG {m:ME} {e:Lo} {S S1:Sto} {n:Nat} {xs:List D} (h:m e S=.ok (.ref n) S1) (hx:S1[n]?=some (.lst xs)):E1 m e S=.ok (FE (.ref n)) S1:=by
 unfold E1;rw [h];dsimp only [Res.bind];rw [C0 hx]
theorem KW {m:ME} {e:Lo} {S S1:Sto} {xs:List D} (h:m e S=.ok (.tup xs) S1):E1 m e S=.ok (Dq xs) S1:=by
 unfold E1;rw [h];rfl
theorem Ht {ml:ML} {e:Lo} {S S1:Sto} {ds:List D} (h:ml e S=.ok ds S1):DB ml e S=.ok (.ref S1.length) (S1++[.lst ds]):=by
 unfold DB;rw [h];rfl
theorem Bn (S:Sto) (o:Ob):(S++[o])[S.length]?=some o:=by simp
theorem CC {n:Nat} {S:Sto} {ds:List D} (h:S[n]?=some (.lst ds)):Fy (.ref n) S=some ds:=by
 unfold Fy;dsimp only;rw [h]
theorem Lm {n:Nat} {S:Sto} {ds:List D} (h:S[n]?=some (.lst ds)):Gp (.ref n) S=some ds:=by
 unfold Gp;dsimp only;rw [h]
theorem JJ {m:ME} {e:Lo} {S S1:Sto} {d:D} {ds es:List D} (h:m e S=.ok d S1) (hi:Gp d S1=some ds) (hs:MM ds=some es):ET m e S=.ok (.ref S1.length) (S1++[.lst es]):=by
 unfold ET;rw [h];dsimp only [Res.bind];rw [hi];dsimp only;rw [hs]
theorem JI {m:ME} {e:Lo} {S S1:Sto} {d:D} {ds:List D} (h:m e S=.ok d S1) (hq:Fy d S1=some ds):Gn m e S=.ok (.tup ds) S1:=by
 unfold Gn;rw [h];dsimp only [Res.bind];rw [hq]
theorem KU {m:ME} {e:Lo} {S S1:Sto} {d:D} {ds:List D} (h:m e S=.ok d S1) (hq:Fy d S1=some ds):Go m e S=.ok (.int ds.length) S1:=by
 unfold Go;rw [h];dsimp only [Res.bind];rw [hq]
theorem Rx {C:AK} {f:Str} {mo mv:ME} {e:Lo} {S S1 S2:Sto} {n:Nat} {fs:List (Str×D)} {v:D} (hv:mv e S=.ok v S1) (ho:mo e S1=.ok (.ref n) S2) (hs:S2[n]?=some (.ins C fs)) (hl:fs.length < 1000) :
  Q2 C f mo mv e S=.ok (.nx e) (S2.set n (.ins C (OF f v fs))):=by
 unfold Q2;rw [hv];dsimp only [Res.lift];rw [ho];dsimp only [Res.lift];rw [hs];dsimp only;rw [qX ⟨rfl,hl⟩]
theorem Pw {C:AK} {f:Str} {m:ME} {e:Lo} {S S1:Sto} {n:Nat} {fs:List (Str×D)} {v:D} (h:m e S=.ok (.ref n) S1) (hs:S1[n]?=some (.ins C fs)) (hl:fs.lookup f=some v):Hu C f m e S=.ok v S1:=by
 unfold Hu;rw [h];dsimp only [Res.bind];rw [hs];dsimp only;rw [qX rfl,hl]
theorem eu {C:AK} {n:Nat} {f:List D->Sto->Res D} {ml:ML} {e:Lo} {S S1 S2:Sto} {ds:List D} (h:ml e S=.ok ds S1) (hn:ds.length+1=n) (hf:f (.ref S1.length :: ds) (S1++[.ins C []])=.ok .non S2):Pe C n f ml e S=.ok (.ref S1.length) S2:=by
 unfold Pe;rw [h];dsimp only [Res.bind];rw [qX hn,hf]
theorem Bo {m:ME} {r:ML} {e:Lo} {S S1 S2:Sto} {d:D} {ds:List D} (h:m e S=.ok d S1) (hr:r e S1=.ok ds S2):AJ m r e S=.ok (d :: ds) S2:=by
 unfold AJ;rw [h];dsimp only [Res.bind];rw [hr]
theorem Jp {n:Nat} {mi:MI} {g:MG} {c:MT} {m:ME} {e:Lo} {S S1:Sto} {v:Hf} (h:mi e S=.ok v S1):EU n mi g c m e S=E5 v g c m (Cj v S1) 0 (BU n none++e) S1 []:=by
 unfold EU;rw [h];rfl
theorem En {m:ME} {e:Lo} {S S1:Sto} {b:Bool} (h:m e S=.ok (.bl b) S1):mB m e S=.ok b S1:=by
 unfold mB;rw [h];rfl
theorem Wo {f g:D->D->Sto->Res D} {ma mb mc:ME} {e:Lo} {S S1 S2 S3 S4 S5:Sto} {x y w d:D} (ha:ma e S=.ok x S1) (hb:mb e S1=.ok y S2) (hf:f x y S2=.ok (.bl true) S3) (hc:mc e S3=.ok w S4) (hg:g y w S4=.ok d S5):m3 f g ma mb mc e S=.ok d S5:=by
 unfold m3;rw [ha];dsimp only [Res.bind];rw [hb];dsimp only [Res.bind];rw [hf];dsimp only [Res.bind,okR];rw [hc];dsimp only [Res.bind];rw [hg]
theorem gm {f g:D->D->Sto->Res D} {ma mb mc:ME} {e:Lo} {S S1 S2 S3:Sto} {x y:D} (ha:ma e S=.ok x S1) (hb:mb e S1=.ok y S2) (hf:f x y S2=.ok (.bl false) S3):m3 f g ma mb mc e S=.ok (.bl false) S3:=by
 unfold m3;rw [ha];dsimp only [Res.bind];rw [hb];dsimp only [Res.bind];rw [hf];rfl
theorem Pj {i j:Int} {S:Sto} {b:Bool} (h:decide (i<=j)=b):leD (.int i) (.int j) S=.ok (.bl b) S:=by subst h;rfl
theorem Im {i j:Int} {S:Sto} {b:Bool} (h:decide (i < j)=b):ltD (.int i) (.int j) S=.ok (.bl b) S:=by subst h;rfl
theorem bO {i j:Int} {S:Sto} {b:Bool} (h:decide (j < i)=b):gtD (.int i) (.int j) S=.ok (.bl b) S:=by subst h;rfl
theorem kC {i j:Int} {S:Sto} {b:Bool} (h:decide (j<=i)=b):geD (.int i) (.int j) S=.ok (.bl b) S:=by subst h;rfl
theorem Kf {i j:Int} {S:Sto} {b:Bool} (h:decide (i=j)=b):eqD false (.int i) (.int j) S=.ok (.bl b) S:=by
 subst h;show Res.ok (D.bl (i==j)) S=_;rfl
theorem aZ {i j:Int} {S:Sto} {b:Bool} (h:decide (i≠j)=b):eqD true (.int i) (.int j) S=.ok (.bl b) S:=by
 subst h;show Res.ok (D.bl (!(i==j))) S=_
 by_cases e:i=j <;> simp [e]
theorem NK {m:MT} {e:Lo} {S S1:Sto} {b:Bool} (h:m e S=.ok b S1):Lk m e S=.ok (!b) S1:=by
 unfold Lk;rw [h];rfl
theorem Tn {C:AK} {ml:ML} {e:Lo} {S S1:Sto} {ds:List D} (h:ml e S=.ok ds S1) (hl:ds.length<=30):ER C ml e S=.ok (.ex C e) S1:=by
 unfold ER;rw [h];dsimp only [Res.lift];rw [qX (Ax hl (by decide))]
theorem M7 {ml:ML} {e:Lo} {S S1:Sto} {ds:List D} (h:ml e S=.ok ds S1) (hl:ds.length<=1000):G6 ml e S=.ok (.tup ds) S1:=by
 unfold G6;rw [h];dsimp only [Res.bind];rw [qX (Ax hl (by decide))]
theorem gq {tab:String->Option Bool} {tabC:AK->Option Bool} {m:ME} {e:Lo} {S S1:Sto} {d:D} {T:String} {b:Bool} (h:m e S=.ok d S1) (ht:tyD d S1=some T) (hb:tab T=some b):mIs tab tabC m e S=.ok (.bl b) S1:=by
 unfold mIs;rw [h];dsimp only [Res.bind]
 cases d with
 | exc C=>cases ht
 | _=>dsimp only;rw [ht];dsimp only;rw [hb]
theorem Vc {ta tb:MT} {e:Lo} {S S1:Sto} (h:ta e S=.ok true S1):mOr ta tb e S=.ok true S1:=by
 unfold mOr;rw [h];rfl
theorem Vb {ta tb:MT} {e:Lo} {S S1:Sto} (h:ta e S=.ok false S1):mOr ta tb e S=tb e S1:=by
 unfold mOr;rw [h];rfl
theorem XF {ta tb:MT} {e:Lo} {S S1:Sto} (h:ta e S=.ok true S1):T1 ta tb e S=tb e S1:=by
 unfold T1;rw [h];rfl
theorem fx {ta tb:MT} {e:Lo} {S S1:Sto} (h:ta e S=.ok false S1):T1 ta tb e S=.ok false S1:=by
 unfold T1;rw [h];rfl
theorem Z0 {m:ME} {e:Lo} {S S1:Sto} {d:D} {ds:List D} (h:m e S=.ok d S1) (hq:Fy d S1=some ds):JN m e S=.ok ds S1:=by
 unfold JN;rw [h];dsimp only [Res.bind];rw [hq]
theorem aA {f:List D->Sto->Res D} {ml:ML} {e:Lo} {S S1 S2:Sto} {ds:List D} {d:D} (h:ml e S=.ok ds S1) (hf:f ds S1=.ok d S2):mQ f ml e S=.ok d S2:=by
 unfold mQ;rw [h];dsimp only [Res.bind];rw [hf];rfl
def XI:D->Prop
 | .tup ds=>∃ns:List Int,ds=ns.map D.int
 | _=>False
theorem P2 (n:Nat):∀ns:List Int,eqL (eqP n) (ns.map D.int) (ns.map D.int)=some true
 | []=>rfl
 | x :: ns=>by
  rw [A5];unfold eqL;rw [P2 n ns]
  have:eqP n (.int x) (.int x)=some true:=by cases n <;> simp [eqP,Kg]
  rw [this];rfl
theorem bb (n:Nat) {d:D} (h:XI d):eqP (n+1) d d=some true:=by
 cases d with
 | tup ds=>
  obtain ⟨ns,rfl⟩:=h;exact P2 n ns
 | _=>cases h
theorem UH (n:Nat):∀ds:List D,(∀d∈ds,XI d)->eqL (eqP (n+1)) ds ds=some true
 | [],_=>rfl
 | d :: ds,h=>by
  unfold eqL;rw [UH n ds λx hx=>h x (AW _ hx),bb n (h d Ag)];rfl
theorem JO {n:Nat} {S:Sto} {ds:List D} (h:S[n]?=some (.lst ds)):J4 (.ref n) S=some ds:=by
 unfold J4;dsimp only;rw [h]
end L2
namespace L2
open PySem PySem.Spec PyProof.Rows
section
variable {X:Cx} {E:EW} {e:Expr} {tg:Expr}
end
section
variable {X:Cx} {E:EW} {e:Expr} {es:List Expr} {p pos p2:Pos} {x1:Nat} {m:ME} {c:V} {cs:List V} {Cs:List AK} {tabC:AK->Option Bool}
end
def pickG {α:Type} (xs:List α) (lo hi st:Option Int):List α:=(sliceRange (Ea lo hi st xs.length).1 (Ea lo hi st xs.length).2.1 (Ea lo hi st xs.length).2.2).filterMap (xs[·]?)
theorem Xw {α β:Type} (f:α->β) (xs:List α) (lo hi st:Option Int):pickG (xs.map f) lo hi st=(pickG xs lo hi st).map f:=by
 unfold pickG;rw [AH,List.map_filterMap]
 congr 1
 funext i
 rw [AX]
theorem LM (its:List AD) (lo hi st:Option Int):Yt its.toArray lo hi st=(pickG its lo hi st).toArray:=by
 unfold Yt pickG;simp only [AU,Uy]
theorem Bd.pickIx {xs:List V} {us:List AD} (r:Bd xs us):∀is:List Nat,Bd (is.filterMap (xs[·]?)) (is.filterMap (us[·]?))
 | []=>.nil
 | i :: is=>by
  have ih:=Bd.pickIx r is
  cases hx:xs[i]? with
  | none=>
   have hu:us[i]?=none:=by
    rw [Bh] at hx ⊢;rw [<-r.length];exact hx
   rw [Fc (by simpa using hx),Fc (by simpa using hu)];exact ih
  | some x=>
   obtain ⟨u,hu,ru⟩:=r.get hx;rw [Fb (by simpa using hx),Fb (by simpa using hu)];exact .cons ru ih
theorem Bd.pickG {xs:List V} {us:List AD} (r:Bd xs us) (lo hi st:Option Int):Bd (L2.pickG xs lo hi st) (L2.pickG us lo hi st):=by
 unfold L2.pickG;rw [r.length];exact r.pickIx _
theorem Ay.pickIx {K:AA} {ρ:List AK} {H:Hp} {ds:List D} {vs:List V} (r:Ay K ρ H ds vs):∀is:List Nat,Ay K ρ H (is.filterMap (ds[·]?)) (is.filterMap (vs[·]?))
 | []=>.nil
 | i :: is=>by
  have ih:=Ay.pickIx r is
  cases hx:ds[i]? with
  | none=>
   have hu:vs[i]?=none:=by
    rw [Bh] at hx ⊢;rw [<-r.length];exact hx
   rw [Fc (by simpa using hx),Fc (by simpa using hu)];exact ih
  | some x=>
   obtain ⟨u,hu,ru⟩:=r.get hx;rw [Fb (by simpa using hx),Fb (by simpa using hu)];exact .cons ru ih
theorem Ay.pickG {K:AA} {ρ:List AK} {H:Hp} {ds:List D} {vs:List V} (r:Ay K ρ H ds vs) (lo hi st:Option Int):Ay K ρ H (L2.pickG ds lo hi st) (L2.pickG vs lo hi st):=by
 unfold L2.pickG;rw [r.length];exact r.pickIx _
section
variable {X:Cx} {E:EW} {e st:Expr} {te:TE} {lo hi:Option Expr} {tl th ts:TO} {pos p2:Pos} {m:ME} {ml mh ms:MO}
def tSlS (K:AA) (te:TE) (tl th ts:TO):TE:=λσ H Q=>te σ H λx H1=>tl σ H1 λl H2=>th σ H2 λu H3=>ts σ H3 λc H4=>
 ∃a xs,x=.ref a/\SqL K H4 a xs/\c≠some 0/\∀p,H4 p=none->Q (.ref p) (upd H4 p (.lst (pickG xs l u c)))
theorem X0 (he:PE X e te) (hl:PO X lo tl) (hu:PO X hi th) (hst:PO X (some st) ts):PE X (.Subscript e (.Slice lo hi (some st) p2) pos) (tSlS X.K te tl th ts):=by
 intro pins s σ H Q I h;refine Us (thn (he pins s σ H _ I h) λv s1 ⟨x,H1,I1,r1,q1⟩=>?_);refine wpAny_Slice (thn (hl pins s1 σ H1 _ I1 q1) λvl s2 ⟨l,H2,I2,pl,q2⟩=>thn (hu pins s2 σ H2 _ I2 q2) λvu s3 ⟨u,H3,I3,pu,q3⟩=>?_)
 refine thn (hst pins s3 σ H3 _ I3 q3) λvc s3 ⟨c,H3,I3,pc,q3⟩=>?_
 have I4:Inv X pins σ H3 { s3 with heap:=s3.heap.push { cls:=.type "slice",data:=.fields #[vl,vu,vc] } }:=I3.kept (t':=s3.toks) λb ob q=>AI _ q
 obtain ⟨a,xs,rfl,hx,hc,q⟩:=q3;cases r1;obtain ⟨its,r,ht,hz⟩:=I4.list hx;show Al (AZ X.prog X.w) X.A (OK e (.Slice lo hi (some st) p2) (.ref a) (.ref s3.heap.objs.size)) (EP X pins σ Q) X.xe { s3 with heap:=s3.heap.push { cls:=.type "slice",data:=.fields #[vl,vu,vc] } };refine tail_any (ops:=[.ref a,.ref s3.heap.objs.size]) ht.isList.typeIs QO.lookup ?_ (by with_unfolding_all rfl);have hlen:=r.length;refine XJ ht.isList (QI ..) pl pu pc hc ?_ (by rw [AU] <;> lia);rw [LM]
 have hle:(pickG xs l u c).length<=xs.length:=by
  have:=slicePick_size_le its.toArray l u c;rw [LM,AU,AU,<-(r.pickG l u c).length,<-hlen] at this;exact this
 refine ⟨.ref _,_,I4.laid (t':=s3.toks) (o:=.lst (pickG xs l u c)) (λb ob q=>AI _ q) (AL _) ?_,rfl,q _ (I4.hok.fresh (AL _))⟩;exact ⟨Ax hle hz,_,0,r.pickG l u c,Ah _ rfl⟩
def OX (m:ME) (ml mh ms:MO):ME:=λe S=>(m e S).bind λd S1=>(ml e S1).bind λlo S2=>(mh e S2).bind λhi S3=>(ms e S3).bind λst S4=>match J4 d S4 with
 | some ds=>if st=some 0 then .bad else .ok (.ref S4.length) (S4++[.lst (pickG ds lo hi st)])
 | none=>.bad
theorem YR (he:GE X E e m) (hl:GO X E lo ml) (hu:GO X E hi mh) (hst:GO X E (some st) ms):GE X E (.Subscript e (.Slice lo hi (some st) p2) pos) (OX m ml mh ms):=(X0 he hl hu hst).imp λσ H Q ⟨ρ,l,S,hl,hs,hm⟩=>by
 refine ⟨ρ,l,S,hl,hs,hm.seq λd S1 hm ρ1 H1 x l1 s1 r1=>⟨ρ1,l,S1,hl.mono l1,s1,(hm.later l1).seq λlo S2 hm ρ2 H2 l2 s2=>⟨ρ2,l,S2,hl.mono (l1.trans l2),s2,(hm.later l2).seq λhi S3 hm ρ3 H3 l3 s3=>⟨ρ3,l,S3,hl.mono (l1.trans (l2.trans l3)),s3,(hm.later l3).seq λst S4 hm ρ4 H4 l4 s4=>?_⟩⟩⟩⟩;have r4:=r1.mono (l2.trans (l3.trans l4))
 cases hq:J4 d S4 with
 | none=>rw [hq] at hm;exact hm.elim
 | some ds=>
  rw [hq] at hm;dsimp only at hm;split at hm
  ·exact hm.elim
  ·rename_i hc
   obtain ⟨p,xs,rfl,rr,sq⟩:=IY s4 r4 hq;refine ⟨p,xs,rfl,sq,hc,λq hq=>?_⟩;have le:Le X.K ρ4 H4 (ρ4++[q]) (upd H4 q (.lst (pickG xs lo hi st))):=Le.alloc hq;obtain ⟨s5,l5,at5⟩:=s4.alloc (ho:=.lst (pickG xs lo hi st)) (o:=.lst (pickG ds lo hi st)) hq ⟨_,Bj,(rr.pickG lo hi st).mono le⟩;exact hm _ _ _ (l1.trans (l2.trans (l3.trans (l4.trans l5)))) s5 (.ref at5)
end
section
variable {X:Cx} {E:EW} {e:Expr} {p pos:Pos} {m:ME}
end
end L2
namespace PySem
open Sem (wp)
open AutoSeq1 (wpAny_loadPart')
theorem KR (l:AK) (items:Array AD) (n:Nat) (dct:Option AK) (sl:Array (Option AD)) :
  Meets (Builtin.«enumerate.__new__» ⟨[.type "enumerate",.ref l],[]⟩) (λ_ R s=>s.heap.get? l=some { cls:=.type "tuple",dict:=dct,data:=.seq items n,slots:=sl } /\
   R (.ok (.ret (.ref (s.heap.push { cls:=.type "tuple_iterator",data:=.fields #[.ref l,.int 0 0] }).objs.size)))
    { s with heap:=(s.heap.push { cls:=.type "tuple_iterator",data:=.fields #[.ref l,.int 0 0] }).push { cls:=.type "enumerate",data:=.fields #[.none,.bool false,.ref s.heap.objs.size,EO 0,.none,.none] } }):=
 .of_wp λprog w A R s h=>by
  obtain ⟨hp,g,d,tk,os⟩:=s;obtain ⟨hl,h⟩:=h;have hsub:=sub_enumerate;have hL:Bq.IsTuple (AG.heap ⟨hp,g,d,tk,os⟩) l items:=⟨_,hl,rfl,n,rfl⟩
  wp_walk using Ly hl
  refine wpAny_stack_any λst=>AM ?_
  split
  ·rename_i c _ _ _ _ _
   cases (c==EF "enumerate")
   ·wp_walk using Ly hl,Dg hL
    exact ⟨_,rfl,h⟩
   ·wp_walk using Ly hl,Dg hL
    exact ⟨_,rfl,h⟩
  ·wp_walk using Ly hl,Dg hL
   exact ⟨_,rfl,h⟩
section
variable {prog:Aq} {w:BF} {A:BA} {E:AD->AG->Prop} {s:AG}
theorem Kj {l:AK} {items:Array AD} {Q:AD->AG->Prop} (hL:s.heap.IsTuple l items)
  (h:∀h',Rj h' (s.heap.objs.size+1) s.heap.objs.size 0 .none->h'.IsTupleIter s.heap.objs.size l 0->h'.objs.size=s.heap.objs.size+2 ->
   (∀b o,s.heap.get? b=some o->h'.get? b=some o)->Q (.ref (s.heap.objs.size+1)) { s with heap:=h' }) :
  Al (AZ prog w) A (call (.type "enumerate") [.ref l]) Q E s:=by
 obtain ⟨⟨c,dct,dt,sl⟩,hl,hc,n,hd⟩:=hL
 replace hc:c=.type "tuple":=hc
 replace hd:dt=.seq items n:=hd
 subst hc hd
 refine callType_new F.called_enumerate (by decide) (F.typeCall_enumerate_1 _) (F.newCall_enumerate_1 _) (λobj=>F.args_object_init_2 obj _) F.entry_enumerate_new
  (KR l items n dct sl) ⟨hl,?_⟩
 have hz:(s.heap.push { cls:=.type "tuple_iterator",data:=.fields #[.ref l,.int 0 0] }).objs.size=s.heap.objs.size+1:=Cd ..;show _/\_;rw [hz]
 have he:Rj ((s.heap.push { cls:=.type "tuple_iterator",data:=.fields #[.ref l,.int 0 0] }).push
   { cls:=.type "enumerate",data:=.fields #[.none,.bool false,.ref s.heap.objs.size,EO 0,.none,.none] }) (s.heap.objs.size+1) s.heap.objs.size 0 .none:=by
  have:=Ah (s.heap.push { cls:=.type "tuple_iterator",data:=.fields #[.ref l,.int 0 0] })
   (o:={ cls:=.type "enumerate",data:=.fields #[.none,.bool false,.ref s.heap.objs.size,EO 0,.none,.none] }) rfl
  rw [hz] at this;exact this
 refine ⟨⟨_,he,rfl⟩,h _ he ⟨_,AI _ (Ah _ rfl),rfl,rfl⟩ (by rw [Cd,hz]) λb o x=>AI _ (AI _ x)⟩
theorem MZ {it t:AK} {i:Nat} {items} {x:AD} {Q:AD->AG->Prop} (hit:s.heap.IsTupleIter it t i)
  (ht:s.heap.IsTuple t items) (hx:items[i]?=some x)
  (hQ:∀h',h'.IsTupleIter it t (i+1)->EI it s.heap h'->Q x { s with heap:=h' }) :
  Al (AZ prog w) A (ED (.ref it)) Q E s:=by
 obtain ⟨o,ho,hc,hd⟩:=id hit;obtain ⟨ol,hol,_,nl,hdl⟩:=ht;unfold ED
 refine AB (DP (name:=Ga "__next__") hit.typeIs FD
  (Dd FD hit.typeIs Sq ?_ (Rm _)))
 show Al _ _ (field (.ref it) 0 >>= _) _ _ s;refine AB (DE ho hd (x:=.ref t) rfl ?_);show Al _ _ (if (A0 t==BQ)=true then _ else _) _ _ s;rw [qY (show ¬((A0 t==BQ)=true) from AR)];show Al _ _ (field (.ref it) 1 >>= _) _ _ s;refine AB (DE ho hd (x:=.int i 0) rfl ?_);show Al _ _ (seqItems? (.ref t) >>= _) _ _ s;refine AB (Ui hol hdl ?_);simp only [BN,hx];refine AB (FQ ho hd (by simp) (AM ⟨x,rfl,AM (hQ _ ?_ (Ge ..))⟩))
 exact ⟨_,DZ _ ho (Eg (CA hd _)),(JV ..).trans hc,by
  rw [CA hd];simp [EO]⟩
theorem JM {it t:AK} {i:Nat} {items} {Q:AD->AG->Prop} (hh:A.handled=none)
  (hit:s.heap.IsTupleIter it t i) (ht:s.heap.IsTuple t items) (hx:items[i]?=none)
  (hE:∀h' e,WK it s.heap h'->(∃o,h'.get? e=some o/\o.cls=.type "StopIteration")->E (.ref e) { s with heap:=h' }) :
  Al (AZ prog w) A (ED (.ref it)) Q E s:=by
 obtain ⟨o,ho,hc,hd⟩:=id hit;obtain ⟨ol,hol,_,nl,hdl⟩:=ht;unfold ED
 refine AB (DP (name:=Ga "__next__") hit.typeIs FD
  (Dd FD hit.typeIs Sq ?_ (Rm _)))
 show Al _ _ (field (.ref it) 0 >>= _) _ _ s;refine AB (DE ho hd (x:=.ref t) rfl ?_);show Al _ _ (if (A0 t==BQ)=true then _ else _) _ _ s;rw [qY (show ¬((A0 t==BQ)=true) from AR)];show Al _ _ (field (.ref it) 1 >>= _) _ _ s;refine AB (DE ho hd (x:=.int i 0) rfl ?_);show Al _ _ (seqItems? (.ref t) >>= _) _ _ s;refine AB (Ui hol hdl ?_);simp only [BN,hx];refine AB (gy (AB (FQ ho hd (by simp) ?_)));show Al _ _ (newExc (.type "StopIteration") [] >>= _) _ _ _;refine AB ?_;simp only [newExc,newTuple];refine AB (B9 ?_ (by size_fits));refine AB (m:=Mx _ _) (cN (a:=BQ) (by first | rfl | (simp only [Mx];rfl)) ?_);refine B9 ?_ (by size_fits);simp only [raiseNew];refine AB (wpAny_handled ?_)
 first | rw [show A.in1.handled=none from hh] | rw [hh]
 refine AB (AM (wpAny_throw ?_));exact hE _ _ (((Ge ..).extBut.push _).push _) ⟨_,Ah _ rfl,rfl⟩
theorem UV {prog:Aq} {w:BF} {A:BA} (hh:A.handled=none) (it l:AK) (hne:l≠it) (items:Array AD) :
  Draws prog w A it [it,l] items.size (λi v=>items[i]?=some v) (λi h=>h.IsTupleIter it l i/\h.IsTuple l items) where
 live:=λ_ _ st=>let ⟨o,ho,_⟩:=st.1;⟨o,ho⟩
 frame:=λ_ _ _ st hk=>⟨st.1.at λo e=>hk it (by simp) o e,let ⟨o,ho,r⟩:=st.2;⟨o,hk l (by simp) o ho,r⟩⟩
 item:=λi s Q E hi st hQ=>by
  refine MZ st.1 st.2 (x:=items[i]) (by simp [hi]) λh' hit' hs'=>?_
  exact hQ _ h' s.toks (by simp [hi]) ⟨hit',st.2.extBut hs'.extBut hne⟩ hs'
 done:=λs Q E st hE=>JM hh st.1 st.2 (by simp) hE
theorem LA {e it l:AK} {i:Nat} {items:Array AD} {old:AD} {Q:Option AD->AG->Prop} (hh:A.handled=none)
  (he:Rj s.heap e it i old) (hit:s.heap.IsTupleIter it l i) (hl:s.heap.IsTuple l items) (hx:items[i]?=none)
  (hQ:∀h',WK it s.heap h'->Q none { s with heap:=h' }):Al (AZ prog w) A (Ra (.ref e)) Q E s:=by
 have hT:s.TypeIs (.ref e) "enumerate":=⟨_,he,rfl⟩;unfold Ra
 refine AB (IH (DP (name:=Ga "__next__") hT Y6
  (Dd Y6 hT F.entry_enumerate_next ?_ (F.args_enumerate_next_1 _))))
 show Al _ _ (field (.ref e) 2 >>= _) _ _ _;refine AB (DE he rfl (x:=.ref it) rfl ?_);refine AB (JM hh hit hl hx λh' x he' hx'=>?_);obtain ⟨o,ho,hc⟩:=hx';refine AB (RX (T:="StopIteration") (b:=true) ⟨o,ho,hc⟩ isSubtype_stop ?_);exact AM (hQ _ he')
end
end PySem
namespace L2
open PySem PySem.Spec PyProof.Rows
theorem Inv.turned2 {X:Cx} {pins:List (AK×Obj)} {σ:List (Option V)} {H:Hp} {s:AG} {h':Bq} {t':Nat} {e it a:AK} {o:HO} (I:Inv X pins σ H s) (k:∀b u,b≠e->b≠it->s.heap.get? b=some u->h'.get? b=some u)
  (fe:Lw X pins H e) (fi:Lw X pins H it) (ha:s.heap.objs.size<=a) (new:Ct X.prog X.w (upd H a o) h' a o):Inv X pins σ (upd H a o) { s with heap:=h',toks:=t' }:=by
 have hn:=I.hok.fresh ha
 have nit:∀b u,H b=some u->b≠e/\b≠it:=λb u q=>⟨λz=>(by rw [z,fe.1] at q;cases q),λz=>(by rw [z,fi.1] at q;cases q)⟩
 have out:∀b:AK,b∉[e,it]->b≠e/\b≠it:=λb hb=>⟨λz=>hb (by simp [z]),λz=>hb (by simp [z])⟩
 refine I.step (g':=s.gens) (d':=s.drawn) (ch:=[e,it]) (λb hb=>?_) (λb o _ _ hc q _=>k b o (out b hc).1 (out b hc).2 q) (λb o _ _ hc q _=>⟨o.slots,k b o (out b hc).1 (out b hc).2 q⟩) (λb o _ q n=>?_)
  (λb o hc q=>⟨o,k b o (out b hc).1 (out b hc).2 q⟩) (λb xs q=>by rw [By (CI q hn)];exact q) (λb o u q=>by rw [By (CI q hn)];exact q) (λb ps q=>⟨#[],by rw [By (CI q hn),q];simp⟩) (λm hm=>?_) (λb u q=>?_) I.bare
 ·have hb':b=e∨b=it:=by simpa using hb
  rcases hb' with z | z
  ·subst z;exact ⟨fe.2.2.2.1,fe.2.1,fe.2.2.2.2.1,fe.2.2.2.2.2⟩
  ·subst z;exact ⟨fi.2.2.2.1,fi.2.1,fi.2.2.2.2.1,fi.2.2.2.2.2⟩
 ·rw [By (Ak (Ae (Ab q) ha))];exact n
 ·obtain ⟨o,es,ep,ho,r⟩:=hm
  exact ⟨o,es,ep,k _ o (Bw fe.2.1) (Bw fi.2.1) ho,r⟩
 ·by_cases hb:b=a
  ·subst hb;rw [Bj] at q;cases q;exact new
  ·rw [By hb] at q
   refine (I.hok b u q).stay (λc v hc r=>?_) (λc r=>by rw [By (CI r hn)];exact r) λc xs r=>by rw [By (CI r hn)];exact r
   have:c≠e/\c≠it:=by
    rcases hc with z | z
    ·rw [z];exact nit b u q
    ·exact nit c _ z
   exact k c v this.1 this.2 r
def Ite (sq:Hp->List V->Prop):It:=
 ⟨λi H=>∃xs x,sq H xs/\xs[i]?=some x,λi H y H'=>∃p x,H p=none/\y=.ref p/\H'=upd H p (.tup [.int i,x])/\∀xs,sq H xs->xs[i]?=some x,λi H=>∃xs,sq H xs/\xs.length<=i⟩
section
variable {P:Aq} {w:BF} {K:AA} {elts:List Expr} {x1:Nat} {pos:Pos}
theorem RH {X:Cx} {pins:List (AK×Obj)} {σ:St} {H:Hp} {s:AG} {E:AD->AG->Prop} {sq:Hp->List V->Prop} {e it:AK} {i:Nat} {x:V} {u:AD} {tk:Nat} {h':Bq} {tn:Nat->Bq->Prop}
  (I:Inv X pins σ H s) (hne:e≠it) (hf:∀b∈[e,it],Lw X pins H b) (le:e < s.heap.objs.size) (li:it < s.heap.objs.size) (ru:RelV x u) (hx:∀xs,sq H xs->xs[i]?=some x)
  (ho:IsEnumOut h' e it ((i:Int)+1) u s.heap.objs.size) (hT:h'.get? s.heap.objs.size=some { cls:=.type "tuple",data:=.seq #[.int i tk,u] }) (hk:∀b o,b≠e->b≠it->s.heap.get? b=some o->h'.get? b=some o)
  (ht:∀h2,EI e h' h2->(∃old,Rj h2 e it ((i+1:Nat):Int) old)->tn (i+1) h2) :
  Al (AZ X.prog X.w) X.A (L3 (.Tuple elts x1 pos) (.ref e) (.ref s.heap.objs.size)) (λ_ s2=>∃y H',Inv X pins σ H' s2/\RelV y (.ref s.heap.objs.size)/\(Ite sq).yld i H y H'/\tn (i+1) s2.heap/\∀b∈[e,it],H' b=none) E { s with heap:=h',toks:=tk+1 }:=by
 have fe:=hf e (by simp);have fi:=hf it (by simp);have ne:e≠s.heap.objs.size:=Ak le;have ni:it≠s.heap.objs.size:=Ak li
 have new:Ct X.prog X.w (upd H s.heap.objs.size (.tup [.int i,x])) h' s.heap.objs.size (.tup [.int i,x]):=
  ⟨Ax (show 2<=1000 by decide) (by decide),[.int i tk,u],.cons ⟨tk,rfl⟩ (.cons ru .nil),_,hT,rfl,_,rfl⟩
 have I1:=I.turned2 (t':=tk+1) hk fe fi (AL _) new
 refine wpAny_letOwnedTupleGo_enum (s:={ s with heap:=h',toks:=tk+1 }) ho λh2 he2 hs2=>?_
 have hs2':EI e h' h2:=hs2;have I2:=I1.turned (t':=tk+1) (h':=h2) (it:=e) (λb o hb q=>(hs2'.2 b hb).trans q) (by rw [By ne];exact fe.1) fe.2.1 fe.2.2.2.1 fe.2.2.2.2.1 fe.2.2.2.2.2;refine ⟨.ref s.heap.objs.size,_,I2,rfl,⟨s.heap.objs.size,x,I.hok.fresh (AL _),rfl,rfl,hx⟩,ht h2 hs2' ⟨u,by rw [gR,Int.natCast_one];exact he2⟩,λb hb=>?_⟩
 have hb':b=e∨b=it:=by simpa using hb
 rcases hb' with z | z
 ·rw [z,By ne];exact fe.1
 ·rw [z,By ni];exact fi.1
theorem VJ (a e it:AK) (hne:e≠it):Sb P w K (.Tuple elts x1 pos) (Ite λH xs=>SqL K H a xs) [e,it] e (λi h=>(∃old,Rj h e it i old)/\h.IsListIter it a i) where
 mem:=by simp
 obj:=λi h st b hb=>by
  have hb':b=e∨b=it:=by simpa using hb
  rcases hb' with z | z
  ·subst z
   obtain ⟨⟨old,he⟩,_⟩:=st
   exact ⟨_,he,λv z=>by
    have z':Os _=Sz v:=z
    cases z'⟩
  ·subst z
   obtain ⟨_,o,e,c,d⟩:=st;exact ⟨o,e,λv z=>by rw [d] at z;cases z⟩
 keep:=λi h h' st k=>⟨st.1.imp λold he=>k e (by simp) _ he,st.2.at λo q=>k it (by simp) o q⟩
 item:=by
  intro X hP hw hK hc i pins s σ H E I hf st hg;subst hP hw hK;obtain ⟨xs,x,hq,hx⟩:=hg;obtain ⟨its,rv,p,hz⟩:=I.list hq;obtain ⟨u,hu,ru⟩:=rv.get hx;obtain ⟨⟨old,he⟩,hit⟩:=st
  have li:it < s.heap.objs.size:=by obtain ⟨o,q,_⟩:=hit;exact Ab q
  refine wpAny_pyNext_enum_item he hit p.isList (x:=u) (by simpa using hu) hne λh' ho hit' hT hsz hk=>?_
  exact ⟨_,rfl,RH (sq:=λH xs=>SqL X.K H a xs) (tn:=λi h=>(∃old,Rj h e it i old)/\h.IsListIter it a i) I hne hf (Ab he) li ru (λys hy=>by rw [I.list_inj hy hq];exact hx) ho hT hk λh2 hs2 he2=>⟨he2,hit'.at λo q=>(hs2.2 it (Bw hne)).trans q⟩⟩
 done:=by
  intro X hP hw hK hc i pins s σ H E I hf st hg;subst hP hw hK;obtain ⟨xs,hq,hx⟩:=hg;obtain ⟨its,rv,p,hz⟩:=I.list hq;obtain ⟨⟨old,he⟩,hit⟩:=st;obtain ⟨f0,f1,f2,f3,f4,f5⟩:=hf it (by simp);have hl:=rv.length
  exact wpAny_pyNext_enum_end (I.ok.hd hc) he hit p.isList (by simp;lia) λh' eb=>⟨rfl,I.turned (t':=s.toks) (λb o hb e=>eb b o hb e) f0 f1 f3 f4 f5⟩
 self:=λ_ _ _ _ _ st h=>by
  obtain ⟨⟨old,he⟩,_⟩:=st;exact J7 he h
theorem VH (a e it:AK) (hne:e≠it) (hae:a≠it) (hef:e≠a):Sb P w K (.Tuple elts x1 pos) (Ite λH xs=>SqT K H a xs) [e,it] e (λi h=>(∃old,Rj h e it i old)/\h.IsTupleIter it a i) where
 mem:=by simp
 obj:=λi h st b hb=>by
  have hb':b=e∨b=it:=by simpa using hb
  rcases hb' with z | z
  ·subst z
   obtain ⟨⟨old,he⟩,_⟩:=st
   exact ⟨_,he,λv z=>by
    have z':Os _=Sz v:=z
    cases z'⟩
  ·subst z
   obtain ⟨_,o,e,c,d⟩:=st;exact ⟨o,e,λv z=>by rw [d] at z;cases z⟩
 keep:=λi h h' st k=>⟨st.1.imp λold he=>k e (by simp) _ he,st.2.at λo q=>k it (by simp) o q⟩
 item:=by
  intro X hP hw hK hc i pins s σ H E I hf st hg;subst hP hw hK;obtain ⟨xs,x,hq,hx⟩:=hg;obtain ⟨its,rv,p,hz⟩:=I.tuple hq;have p':s.heap.IsTuple a its.toArray:=p;obtain ⟨u,hu,ru⟩:=rv.get hx
  have hlt:i < its.toArray.size:=by
   have:=(AF.mp hu).1;simpa using this
  obtain ⟨⟨old,he⟩,hit⟩:=st
  have li:it < s.heap.objs.size:=by obtain ⟨o,q,_⟩:=hit;exact Ab q
  refine wpAny_pyNext_enum_itemD (UV (A:=X.A.in1) (I.ok.hd hc) it a hae its.toArray) he ⟨hit,p'⟩ hlt hne (by simp [hne,hef]) λu' h' tk hu' ho hst' hT hsz hk=>?_
  have:u'=u:=by
   have hu2:its[i]?=some u':=by simpa using hu'
   rw [hu] at hu2;cases hu2;rfl
  subst this;exact ⟨_,rfl,RH (sq:=λH xs=>SqT X.K H a xs) (tn:=λi h=>(∃old,Rj h e it i old)/\h.IsTupleIter it a i) I hne hf (Ab he) li ru (λys hy=>by rw [I.tuple_inj hy hq];exact hx) ho hT hk λh2 hs2 he2=>⟨he2,hst'.1.at λo q=>(hs2.2 it (Bw hne)).trans q⟩⟩
 done:=by
  intro X hP hw hK hc i pins s σ H E I hf st hg;subst hP hw hK;obtain ⟨xs,hq,hx⟩:=hg;obtain ⟨its,rv,p,hz⟩:=I.tuple hq;obtain ⟨⟨old,he⟩,hit⟩:=st;obtain ⟨f0,f1,f2,f3,f4,f5⟩:=hf it (by simp);have hl:=rv.length
  exact LA (I.ok.hd hc) he hit (show s.heap.IsTuple a its.toArray from p) (by simp;lia) λh' eb=>⟨rfl,I.turned (t':=s.toks) (λb o hb e=>eb b o hb e) f0 f1 f3 f4 f5⟩
 self:=λ_ _ _ _ _ st h=>by
  obtain ⟨⟨old,he⟩,_⟩:=st;exact J7 he h
end
section
variable {X:Cx} {E:EW} {e:Expr} {elts:List Expr} {x1:Nat} {p pos ptg:Pos} {m:ME} {ta:TA}
def mL (K:AA) (ta:TA):TI:=λσ H R=>ta σ H λvs H1=>∃a,vs=[.ref a]/\(((∃xs,SqL K H1 a xs)/\R (Ite λH xs=>SqL K H a xs) H1)∨((∃xs,SqT K H1 a xs)/\R (Ite λH xs=>SqT K H a xs) H1))
theorem eC (hg:Gl X "enumerate") (hm:X.mg "enumerate" = none) (ha:PA X [e] ta) (hs:AS [e] X.env=[(false,Bm e X.env)]:=by rfl):PI X (.Tuple elts x1 ptg) (.Call (.Name "enumerate" p) [e] [] pos) (mL X.K ta):=by
 intro pins s σ H R I h;refine Call_ (Hv I hg hm boot_enumerate (Bi (thn (ha pos pins s σ H _ I h) λus s1 ⟨vs,H1,I1,r1,q1⟩=>?_) hs rfl));obtain ⟨a,rfl,q1⟩:=q1;obtain ⟨u,rfl,ru⟩:=vals1 r1;cases ru
 have fp:∀ {h':Bq} (b:AK),b∈[s1.heap.objs.size+1,s1.heap.objs.size]->Lw X pins H1 b:=λb hb=>by
  have hb':b=s1.heap.objs.size+1∨b=s1.heap.objs.size:=by simpa using hb
  rcases hb' with z | z
  ·rw [z];exact I1.fpOk (GU _) (I1.hok.fresh (GU _))
  ·rw [z];exact I1.fpOk (AL _) (I1.hok.fresh (AL _))
 rcases q1 with ⟨⟨xs,sq⟩,q⟩ | ⟨⟨xs,sq⟩,q⟩
 ·obtain ⟨its,rv,pl,hz⟩:=I1.list sq
  refine call_enumerate_list pl.isList λh' he hit hsz hk=>J7 he ?_
  exact ⟨_,[s1.heap.objs.size+1,s1.heap.objs.size],_,_,H1,rfl,I1.kept (t':=s1.toks) hk,VJ a _ _ (cT _),⟨⟨_,he⟩,hit⟩,fp (h':=h'),q⟩
 ·obtain ⟨its,rv,pl,hz⟩:=I1.tuple sq
  have pl':s1.heap.IsTuple a its.toArray:=pl
  have la:a < s1.heap.objs.size:=by obtain ⟨o,q,_⟩:=pl';exact Ab q
  refine Kj pl' λh' he hit hsz hk=>J7 he ?_
  exact ⟨_,[s1.heap.objs.size+1,s1.heap.objs.size],_,_,H1,rfl,I1.kept (t':=s1.toks) hk,VH a _ _ (cT _) (Ak la) (KF (Eo la)),⟨⟨_,he⟩,hit⟩,fp (h':=h'),q⟩
def P6 (ds:List D):List D:=ds.zipIdx.map λx=>.tup [.int x.2,x.1]
def TF (v:Hf):Hf:=λS=>(v S).map P6
def SG (m:ME):MI:=λe S=>(m e S).bind λd S1=>match FE d S1 with
 | some _=>.ok (TF (FE d)) S1
 | none=>.bad
theorem P5 (ds:List D) (i:Nat):(P6 ds)[i]?=(ds[i]?).map λd=>.tup [.int i,d]:=by
 unfold P6;rw [AX,List.getElem?_zipIdx]
 cases ds[i]? <;> simp
theorem Nf {K:AA} {ρ:List AK} {H:Hp} {J:It} {v:Hf} {sq:Hp->List V->Prop} (hJ:NW K ρ H J v) (h1:∀i H,J.go i H->∃xs x,sq H xs/\xs[i]?=some x) (h2:∀i H,J.stop i H->∃xs,sq H xs/\xs.length<=i)
  (h3:∀i H x,(∀xs,sq H xs->xs[i]?=some x)->J.yld i H x H):NW K ρ H (Ite sq) (TF v):=by
 intro ρ2 H2 S ds i l s hv;unfold TF at hv
 cases hd:v S with
 | none=>rw [hd] at hv;cases hv
 | some ds0=>
  rw [hd] at hv;cases hv;obtain ⟨a1,a2⟩:=hJ ρ2 H2 S ds0 i l s hd;refine ⟨λhn=>?_,λd hd'=>?_⟩
  ·rw [P5] at hn
   refine h2 i H2 (a1 ?_)
   cases hq:ds0[i]? with
   | none=>rfl
   | some d=>rw [hq] at hn;cases hn
  ·rw [P5] at hd'
   cases hq:ds0[i]? with
   | none=>rw [hq] at hd';cases hd'
   | some d0=>
    rw [hq] at hd';cases hd';obtain ⟨b1,b2⟩:=a2 d0 hq;refine ⟨h1 i H2 b1,λy H' hy=>?_⟩;obtain ⟨p,x,hp,rfl,rfl,hx⟩:=hy;obtain ⟨ρ3,l3,s3,r3⟩:=b2 x H2 (h3 i H2 x hx);obtain ⟨s4,l4⟩:=HY (ho:=.tup [.int i,x]) s3 hp;exact ⟨ρ3,l3.trans l4,s4,.tup Bj (.cons (.int _) (.cons (r3.mono l4) .nil))⟩
theorem fM (hg:Gl X "enumerate") (hm:X.mg "enumerate" = none) (h:GE X E e m) (he:AS [e] X.env=[(false,Bm e X.env)]:=by rfl):GI X E (.Tuple elts x1 ptg) (.Call (.Name "enumerate" p) [e] [] pos) (SG m):=
 (eC hg hm (Ez h HH he) he).imp λσ H R ⟨ρ,l,S,hl,hs,hm⟩=>by
 refine ⟨ρ,l,S,hl,hs,hm.seq λd S1 hm ρ1 H1 x l1 s1 r1=>?_⟩
 cases d with
 | tup ds=>
  have hm':=hm
  cases r1 with
  | @tup _ a vs q1 q2=>
   exact ⟨a,rfl,.inr ⟨⟨vs,.inl (.inl q1)⟩,hm' ρ1 H1 _ l1 s1 (Nf (Oy q1 q2) (λi H z=>z) (λi H z=>z) λi H x z=>⟨rfl,z⟩)⟩⟩
 | _=>
  cases hv:FE _ S1 with
  | none=>rw [hv] at hm;exact hm.elim
  | some ds=>
   rw [hv] at hm
   have:∃a,x=.ref a:=by
    cases r1 <;> first | exact ⟨_,rfl⟩ | (cases hv;done)
   obtain ⟨a,rfl⟩:=this;obtain ⟨xs,sq,_⟩:=O1 s1 r1 hv;exact ⟨a,rfl,.inl ⟨⟨xs,sq⟩,hm ρ1 H1 _ l1 s1 (Nf (O0 r1) (λi H z=>z) (λi H z=>z) λi H x z=>⟨rfl,z⟩)⟩⟩
end
def RS (f:Int->Int->Bool):List Int->Option Int
 | []=>none
 | a :: r=>some (r.foldl (λm x=>if f x m=true then x else m) a)
theorem Mm (f:Int->Int->Bool) (a:Int) (r:List Int):∀k,k<=r.length->(a :: r).getD (Iy (λi j=>f ((a :: r).getD i 0) ((a :: r).getD j 0)) k) 0=(r.take k).foldl (λm x=>if f x m=true then x else m) a
 | 0,_=>by simp [Iy]
 | k+1,h=>by
  have ih:=Mm f a r k (by lia)
  have hk:k < r.length:=by lia
  have e1:r.take (k+1)=r.take k++[r[k]]:=by rw [JB];simp [hk]
  have e2:(a :: r).getD (k+1) 0=r[k]:=by simp [hk]
  rw [e1,ZL,<-ih];show (a :: r).getD (if f ((a :: r).getD (k+1) 0) ((a :: r).getD (Iy (λi j=>f ((a :: r).getD i 0) ((a :: r).getD j 0)) k) 0)=true then k+1 else Iy (λi j=>f ((a :: r).getD i 0) ((a :: r).getD j 0)) k) 0=_;rw [e2];show _=(if f r[k] _=true then r[k] else _);split
  ·exact e2
  ·rfl
theorem QE (bt:Nat->Nat->Bool):∀k,Iy bt k<=k
 | 0=>AL _
 | k+1=>by
  show (if bt (k+1) (Iy bt k)=true then k+1 else Iy bt k)<=k+1;have:=QE bt k
  split <;> lia
def ltZ (x m:Int):Bool:=decide (x < m)
theorem bu (f:Int->Int->Bool) {ns:List Int} {b:Int} (h:RS f ns=some b):0 < ns.length/\ns[Iy (λi j=>f (ns.getD i 0) (ns.getD j 0)) (ns.length - 1)]?=some b:=by
 cases ns with
 | nil=>cases h
 | cons a r=>
  cases h;refine ⟨by simp,?_⟩;have e:=Mm f a r r.length (AL _);rw [B5] at e;have hl:=QE (λi j=>f ((a :: r).getD i 0) ((a :: r).getD j 0)) r.length;rw [<-e,show (a :: r).length - 1=r.length by simp]
  have hlt:Iy (λi j=>f ((a :: r).getD i 0) ((a :: r).getD j 0)) r.length < (a :: r).length:=by rw [A6];exact Nat.lt_succ_of_le hl
  rw [BG hlt,IS,BG hlt];rfl
theorem LY {ns:List Int} {us:List AD} (r:Bd (ns.map V.int) us) {i:Nat} {v:AD} (h:us[i]?=some v):∃t,v=.int (ns.getD i 0) t:=by
 have hi:i < ns.length:=by
  have:=(AF.mp h).1;have hl:=r.length;rw [AH] at hl
  lia
 obtain ⟨u,hu,ru⟩:=r.get (i:=i) (x:=.int (ns.getD i 0)) (by rw [AX,BG hi,IS,BG hi];rfl);rw [h] at hu;cases hu;exact ru
section
variable {X:Cx}
def gf (K:AA) (f:Int->Int->Bool):List V->Hp->VK->Prop:=λxs H Q=>∃a ns b,xs=[.ref a]/\(SqL K H a (ns.map V.int)∨SqT K H a (ns.map V.int))/\RS f ns=some b/\Q (.int b) H
theorem Wj {s:AG} {o:Obj} {h':Bq} (hk:∀b u,b∉[s.heap.objs.size]->(s.heap.push o).get? b=some u->h'.get? b=some u):∀b u,s.heap.get? b=some u->h'.get? b=some u:=λb u e=>
 hk b u (λhm=>zX (AY.mp hm▸Ab e) (Cz _)) (AI _ e)
theorem bT {s:AG} {o:Obj} {l:AK} (hl:l < s.heap.objs.size):∀b∈[s.heap.objs.size,l],b < (s.heap.push o).objs.size:=λb hb=>by
 rw [Cd]
 have hb':b=s.heap.objs.size∨b=l:=by simpa using hb
 rcases hb' with rfl | rfl
 ·exact CU _
 ·exact Eo hl
theorem Yk (hc:X.calm=true):HV X (.builtin "min") (gf X.K ltZ):=by
 intro pins s σ H xs us Q I r h;obtain ⟨a,ns,b,rfl,sq,hb,q⟩:=h;obtain ⟨u,rfl,ru⟩:=vals1 r;cases ru;obtain ⟨hpos,hat⟩:=bu ltZ hb;have hh:=I.ok.hd hc
 have fin:∀(its:List AD) (v:AD) (h':Bq) (tk:Nat),Bd (ns.map V.int) its->its.toArray[Iy (λi j=>decide (ns.getD i 0 < ns.getD j 0)) (its.toArray.size - 1)]?=some v->(∀b o,s.heap.get? b=some o->h'.get? b=some o)->EP X pins σ Q v { s with heap:=h',toks:=tk }:=λits v h' tk rv hP hk=>by
  have hl:=rv.length;rw [AH] at hl;rw [Uy,AU,<-hl] at hP;obtain ⟨t,rfl⟩:=LY rv hP;refine ⟨.int b,H,I.kept hk,⟨t,?_⟩,q⟩
  have e:ns.getD (Iy (λi j=>decide (ns.getD i 0 < ns.getD j 0)) (ns.length - 1)) 0=b:=by
   rw [IS];unfold ltZ at hat;rw [hat];rfl
  rw [e]
 rcases sq with sq | sq
 ·obtain ⟨its,rv,pl,hz⟩:=I.list sq
  have hl:=rv.length;rw [AH] at hl
  have la:a < s.heap.objs.size:=by obtain ⟨o,q,_⟩:=pl.isList;exact Ab q
  refine call_min_walk (QK pl.isList ?_);refine ⟨_,_,_,_,_,_,_,rfl,kj (A:=X.A.in1) hh _ a (Ak la) its.toArray,⟨⟨_,Ah _ rfl,rfl,rfl⟩,pl.isList.push _⟩,bT la,by rw [AU];lia,gX (λi=>ns.getD i 0) (λi v hv=>LY rv (by simpa using hv)),λv h' tk hP hk=>fin its v h' tk rv hP (Wj hk)⟩
 ·obtain ⟨its,rv,pl,hz⟩:=I.tuple sq
  have hl:=rv.length;rw [AH] at hl;have pl':s.heap.IsTuple a its.toArray:=pl
  have la:a < s.heap.objs.size:=by obtain ⟨o,q,_⟩:=pl';exact Ab q
  refine call_min_walk (Dg pl' ?_);refine ⟨_,_,_,_,_,_,_,rfl,Uq (A:=X.A.in1) hh _ a (Ak la) its.toArray,⟨⟨_,Ah _ rfl,rfl,rfl⟩,pl'.push _⟩,bT la,by rw [AU];lia,gX (λi=>ns.getD i 0) (λi v hv=>LY rv (by simpa using hv)),λv h' tk hP hk=>fin its v h' tk rv hP (Wj hk)⟩
variable {E:EW} {e:Expr} {p pos:Pos} {m:ME}
def RT (f:Int->Int->Bool) (ds:List D) (S:Sto):Res D:=match G7 ds with
 | some ns=>match RS f ns with
  | some b=>.ok (.int b) S
  | none=>.bad
 | none=>.bad
theorem dZ {f:Int->Int->Bool}:gC X.K (gf X.K f) (RT f):=λρ H S ds q xs d S' Q hs rr sq hm k=>by
 unfold RT at hm;split at hm
 ·rename_i ns hi
  split at hm
  ·rename_i b hb
   cases hm;rw [JQ hi] at rr;rw [rr.ints] at sq;exact ⟨q,ns,b,rfl,sq,hb,k ρ H _ .refl hs (.int _)⟩
  ·cases hm
 ·cases hm
abbrev Nn:=RT ltZ
theorem Wv (hc:X.calm=true) (hg:Gl X "min") (hm:X.mg "min" = none) (h:GE X E e m) (he:AS [e] X.env=(false,Bm e X.env) :: AS [] X.env:=by rfl):GE X E (.Call (.Name "min" p) [e] [] pos) (mQ Nn (JN m)):=
 Oe (Yk hc) dZ hg hm Op (UA h) (by decide) (by decide) he
end
end L2
namespace PySem
open Sem (wp)
open AutoSeq1 (wpAny_loadPart')
namespace F
theorem nolen_lri:Uj (.type "list_reverseiterator") "__len__" = pure none:=by rw [mq,cF];kernel_rfl
theorem hint_lri:Uj (.type "list_reverseiterator") "__length_hint__" = pure (some (.builtin "list_reverseiterator.__length_hint__")):=by rw [mq,cF];kernel_rfl
end F
section
variable {prog:Aq} {w:BF} {A:BA} {E:AD->AG->Prop} {s:AG} {I:AK} {fp wr:List AK} {G:Array M2->Array M2->Prop} {n:Nat} {P:Nat->AD->Prop} {St:Nat->AG->Prop}
end
end PySem
namespace L2
open PySem PySem.Spec PyProof.Rows
section
variable {X:Cx} {E:EW} {e:Expr} {p p2 pos pos2:Pos} {m:ME} {te:TE}
theorem Zf {xs:List V} {us acc:List AD} (r:Bd xs us) (hl:acc.length=us.length) (h:∀(j:Nat) v,acc[j]?=some v->us[us.length - 1 - j]?=some v):Bd xs.reverse acc:=by
 have e:acc=us.reverse:=by
  apply Eh
  intro j
  by_cases hj:j < us.length
  ·rw [List.getElem?_reverse hj]
   cases hv:acc[j]? with
   | none=>rw [Bh] at hv;lia
   | some v=>exact (h j v hv).symm
  ·rw [BX (by lia),BX (by rw [Hq];lia)]
 rw [e];exact r.reverse
end
end L2
namespace L2
open PySem
theorem cA {α:Type} {xs:List α} {j:Int} {x:α} (h0:0<=j) (h:xs[j.toNat]?=some x):atI xs j=some x:=by
 have hlt:=(AF.mp h).1;unfold atI ixN;rw [qX (by omega),qX (by lia)];simpa using h
theorem Md {d:D} {S:Sto} {ds:List D} {j:Int} {z:D} (hd:Fy d S=some ds) (h0:0<=j) (h:ds[j.toNat]?=some z):ixA d (.int j) S=.ok z S:=by
 show FW (ixD d (.int j) S) _=_
 have:ixD d (.int j) S=.ok z S:=by
  unfold ixD;rw [hd];dsimp only;rw [cA h0 h]
 rw [this];rfl
theorem bG {S:Sto} {n:Nat} {ds:List D} {j:Int} {z:D} (hn:S[n]?=some (.lst ds)) (h0:0<=j) (h:ds[j.toNat]?=some z):ixA (.ref n) (.int j) S=.ok z S:=Md (CC hn) h0 h
theorem ax {ml:ML} {e:Lo} {S S1:Sto} {ds:List D} (h:ml e S=.ok ds S1) (hz:ds.length<=1000):CN ml e S=.ok ds S1:=by
 unfold CN;rw [h];dsimp only [Res.bind];rw [qX (Ax hz (by decide))]
theorem kG {n k:Nat} {S:Sto} {ds:List D} (neg:Bool) (h1:S[n]?=some (.lst ds)) (h2:S[k]?=some (.lst [])):eqD neg (.ref n) (.ref k) S=.ok (.bl (if neg then !ds.isEmpty else ds.isEmpty)) S:=by
 unfold eqD eqB;rw [JO h1,JO h2]
 cases ds with
 | nil=>rfl
 | cons x xs=>rfl
theorem cC {l b:Nat} {S:Sto} {xs ys:List D} (h1:S[l]?=some (.lst xs)) (h2:S[b]?=some (.lst ys)) (hz:xs.length+ys.length<=100000):Do (.ref l) (.ref b) S=.ok (.ref S.length) (S++[.lst (xs++ys)]):=by
 unfold Do;dsimp only;rw [h1,h2];dsimp only;rw [qX (Ax hz (by decide))]
theorem T4 {α:Type}:∀ {l:List α},l.length=1->∃x1,l=[x1]
 | [a],_=>⟨a,rfl⟩
theorem Ll {α:Type}:∀ {l:List α},l.length=2->∃x1 x2,l=[x1,x2]
 | y :: _,q=>by
  obtain ⟨x2,rfl⟩:=T4 (Qs q);exact ⟨y,x2,rfl⟩
theorem YA {α:Type}:∀ {l:List α},l.length=3->∃x1 x2 x3,l=[x1,x2,x3]
 | y :: _,q=>by
  obtain ⟨x2,x3,rfl⟩:=Ll (Qs q);exact ⟨y,x2,x3,rfl⟩
theorem len4 {α:Type}:∀ {l:List α},l.length=4->∃x1 x2 x3 x4,l=[x1,x2,x3,x4]
 | y :: _,q=>by
  obtain ⟨x2,x3,x4,rfl⟩:=YA (Qs q);exact ⟨y,x2,x3,x4,rfl⟩
end L2
namespace L2
open PySem PySem.Spec PyProof.Rows
section
variable {X:Cx} {E:EW} {e:Expr} {m:ME} {pos:Pos}
end
section
variable {X:Cx} {E:EW} {tg e a b:Expr} {p p2 pos pos2:Pos} {m:ME} {ml:ML} {ta:TA}
end
end L2
namespace PySem
open Sem (wp)
open PyProof.Rows (IntsAre)
section
variable {prog:Aq} {w:BF} {A:BA} {E:AD->AG->Prop} {s:AG}
end
end PySem
namespace L2
open PySem PySem.Spec PyProof.Rows
section
variable {X:Cx} {E:EW} {a b:Expr} {p p2 pos pos2:Pos} {ml:ML} {ta:TA}
theorem Tk {K:AA} {ρ:List AK} {H:Hp}:∀ {ns:List Int} {vs:List V},Ay K ρ H (ns.map D.int) vs->vs=ns.map V.int
 | [],_,.nil=>rfl
 | n :: ns,_,.cons r t=>by
  cases r;rw [Tk t];rfl
end
end L2
namespace PySem
open Sem (wp)
open AutoSeq1 (wpAny_loadPart')
section
variable {prog:Aq} {w:BF} {A:BA} {E:AD->AG->Prop} {s:AG}
end
end PySem
namespace PySem
section
variable {prog:Aq} {w:BF} {A:BA} {E:AD->AG->Prop} {s:AG}
end
end PySem
namespace L2
open PySem PySem.Spec PyProof.Rows
section
variable {P:Aq} {w:BF} {K:AA} {elts:List Expr} {x1:Nat} {pos:Pos}
end
section
variable {X:Cx} {E:EW} {e:Expr} {elts:List Expr} {x1:Nat} {p pos ptg kp vp:Pos} {j1:Nat} {m:ME} {ta:TA}
end
end L2
namespace PySem
open Sem (wp)
section
variable {prog:Aq} {w:BF} {A:BA} {E:AD->AG->Prop} {s:AG}
theorem SU {l:AK} {items:Array AD} {ns:List Int} {Q:AD->AG->Prop} (hh:A.handled=none) (hl:s.heap.IsTuple l items) (hi:nL items.toList ns) (hb:items.size+1 < RZ)
  (h:∀(h':Bq) (tk:Nat),h'.SetOf (ZD prog w) s.heap.objs.size (λk'=>(Fp (λi=>ns.getD i 0) items.size).any (·==k')) (Fp (λi=>ns.getD i 0) items.size).length ->
   (∀b o,b < s.heap.objs.size->s.heap.get? b=some o->h'.get? b=some o)->Q (.ref s.heap.objs.size) { s with heap:=h',toks:=tk }):Al (AZ prog w) A (call (.type "set") [.ref l]) Q E s:=by
 obtain ⟨c,tl,hmro⟩:=FS.mro;have hmade:=FS.made;have hsub:=FS.sub;refine Oi (codeAny_of_tree ?_);show Al _ _ (callAny (.type "set") _) _ _ _;refine AM ⟨Code.quiet_builtin _ (by decide +kernel),codeAny_builtin F.entry_type_call ?_⟩;rw [BA.under_plain (weight_type_call_type "set" [.ref l] []) rfl];have h1:=FS.notType;have h2:=FS.canCreate;have hct:=F.typeCall_set_1 (.ref l);(repeat (any_goals (first | assumption | wp_step)))
 refine Ix (code_set_new_1 (.ref l) (E:=E) (Q₁:=λobj s₁=>∃led:Bool,obj=.ref s.heap.objs.size/\s₁={ s with heap:=s.heap.push { cls:=.type "set",dict:=none,data:=.set #[] 0 (.fresh 0 0 led) } }) λled=>⟨led,rfl,rfl⟩) λr s₁ hr=>?_
 cases r with
 | error e=>exact hr
 | ok fl=>
  cases fl with
  | ret obj=>
   obtain ⟨led,rfl,rfl⟩:=hr;have hS:(s.heap.push { cls:=.type "set",dict:=none,data:=.set #[] 0 (.fresh 0 0 led) }).get? s.heap.objs.size=some { cls:=.type "set",dict:=none,data:=.set #[] 0 (.fresh 0 0 led) }:=Ah _ rfl;have hT:AG.TypeIs { s with heap:=s.heap.push { cls:=.type "set",dict:=none,data:=.set #[] 0 (.fresh 0 0 led) } } (.ref s.heap.objs.size) "set":=⟨_,hS,rfl⟩;have hli:=FS.init.lookup;have hbi:=FS.init.bind (.ref s.heap.objs.size);(repeat (any_goals (first | assumption | wp_step)))
   refine Ix (cR (R:=wants (λr s₂=>r=.none/\∃h' tk,s₂={ s with heap:=h',toks:=tk } /\
     h'.SetOf (ZD prog w) s.heap.objs.size (λk'=>(Fp (λi=>ns.getD i 0) items.size).any (·==k')) (Fp (λi=>ns.getD i 0) items.size).length /\
     (∀b o,b < s.heap.objs.size->s.heap.get? b=some o->h'.get? b=some o)) E) FS.init.plain F.entry_set_init (check_set_init_1 hT ?_)) λr₂ s₂ hr₂=>?_
   ·obtain ⟨ol,hol,hcl,nl,hdl⟩:=hl
    obtain ⟨ocls,odict,odata,oslots⟩:=ol;simp only at hcl hdl;subst hcl;subst hdl;have hol':(s.heap.push { cls:=.type "set",dict:=none,data:=.set #[] 0 (.fresh 0 0 led) }).get? l=some { cls:=.type "tuple",dict:=odict,data:=.seq items nl,slots:=oslots }:=AI _ hol
    have hsls:isSubtype (.type "tuple") (.type "set")=pure false:=by rw [Ul];kernel_rfl
    have hslf:isSubtype (.type "tuple") (.type "frozenset")=pure false:=by rw [Ul];kernel_rfl
    have hne:(EF "tuple"==EF "dict")=false:=by decide
    have hl1:(s.heap.push { cls:=.type "set",dict:=none,data:=.set #[] 0 (.fresh 0 0 led) }).IsTuple l items:=⟨_,hol',rfl,nl,rfl⟩;unfold Builtin.«set.__init__» noKeywords cY;generalize hPI:ZC=PI
    wp_walk
    subst hPI;refine Dg hl1 (AB (wpAny_runValue ?_));have hlS:l < s.heap.objs.size:=Ab hol
    have hh3:A.in1.in1.in1.handled=none:=by simp [hh]
    have hneI:l≠(s.heap.push { cls:=.type "set",dict:=none,data:=.set #[] 0 (.fresh 0 0 led) }).objs.size:=by
     rw [Cd];exact Ak (Eo hlS)
    have hSf:s.heap.objs.size∉[(s.heap.push { cls:=.type "set",dict:=none,data:=.set #[] 0 (.fresh 0 0 led) }).objs.size,l]:=by
     rw [Cd];simp only [Au,AY,CG,or_false,not_or];exact ⟨Ak (CU _),KF hlS⟩
    have hval:∀(i:Nat) (v:AD),items[i]?=some v->∃t,v=.int ((λi=>ns.getD i 0) i) t:=λi v hv=>
     Y0 hi i v (by rw [Uh];exact hv)
    refine m9 ((Uq hh3 _ l hneI items).toS) s.heap.objs.size hSf (λi=>ns.getD i 0) hval hb (items.size - 0) 0 _ (by lia) (Cm _)
     ⟨⟨_,Ah _ rfl,rfl,rfl⟩,(hl1.push _)⟩ ?hS0 ?hR
    case hS0=>
     have hget:((s.heap.push { cls:=.type "set",dict:=none,data:=.set #[] 0 (.fresh 0 0 led) }).push { cls:=.type "tuple_iterator",data:=.fields #[.ref l,.int 0 0] }).get? s.heap.objs.size
       = some { cls:=.type "set",dict:=none,data:=.set #[] 0 (.fresh 0 0 led) }:=AI _ hS
     exact nK ((m8 (knd:=ZD prog w) led).setOf hget (by unfold RZ;lia)) (λ_=>rfl) rfl
    case hR=>
     intro s' hm hS';obtain ⟨h',g',d',tk',os'⟩:=s';have eg:g'=s.gens:=hm.gens;have ed:d'=s.drawn:=hm.drawn;have eo:os'=s.os:=hm.os;subst eg;subst ed;subst eo;show Al _ _ _ _ _ _;refine AM ?_;show Al _ _ (ret BQ) _ _ _;refine AM ⟨rfl,h',tk',rfl,hS',λb o hb e=>?_⟩;have hb1:b≠s.heap.objs.size:=Ak hb
     have hb2:b≠(s.heap.push { cls:=.type "set",dict:=none,data:=.set #[] 0 (.fresh 0 0 led) }).objs.size:=by
      rw [Cd];exact Ak (Eo hb)
     exact hm.heap b o (by simp only [Au,AY,CG,or_false,not_or];exact ⟨hb1,hb2⟩) (AI _ (AI _ e))
   ·cases r₂ with
    | error e=>exact hr₂
    | ok fl₂=>
     cases fl₂ with
     | ret r=>
      obtain ⟨rfl,h',tk,rfl,hS',hk'⟩:=hr₂;(repeat (any_goals (first | assumption | wp_step)));exact h _ _ hS' hk'
     | _=>exact hr₂.elim
  | _=>exact hr.elim
end
end PySem
namespace L2
open PySem PySem.Spec PyProof.Rows
def Lf (ns:List Int):Nat:=(firstMet (λi=>ns.getD i 0) ns.length).length
section
variable {X:Cx} {E:EW} {e a b c:Expr} {p p2 pos pos2:Pos} {m:ME} {te:TE} {ml:ML} {ta:TA} {tg:Expr}
def dR (K:AA) (te:TE):TE:=λσ H Q=>te σ H λx H1=>∃q ns,x=.ref q/\(SqT K H1 q (Qt V.int ns)∨SqL K H1 q (ns.map V.int))/\ns.length<=4000/\Q (.int (Lf ns)) H1
theorem X1 (hc:X.calm=true) (hg:Gl X "len") (hm:X.mg "len" = none) (hg2:Gl X "set") (hm2:X.mg "set" = none) (h:PE X e te)
  (he:AS [e] X.env=(false,Bm e X.env) :: AS [] X.env:=by rfl) (he2:AS [.Call (.Name "set" p2) [e] [] pos2] X.env=(false,Bm (.Call (.Name "set" p2) [e] [] pos2) X.env) :: AS [] X.env:=by rfl) :
  PE X (.Call (.Name "len" p) [.Call (.Name "set" p2) [e] [] pos2] [] pos) (dR X.K te):=by
 intro pins s σ H Q I hq;refine C6 (Hv I hg hm boot_len ?_ (by decide) (by decide));refine LJ ?_ he2 rfl;rw [he2];show Al _ _ (ZB ((false,Bm (.Call (.Name "set" p2) [e] [] pos2) X.env) :: DX pos (AS [] X.env))) _ _ s;refine IL ?_;refine C6 (Hv I hg2 hm2 nC ?_ (by decide) (by decide));refine Bi (thn (Ez h HH he pos2 pins s σ H (λvs H1=>match vs with | [x]=>∃q ns,x=.ref q/\(SqT X.K H1 q (Qt V.int ns)∨SqL X.K H1 q (ns.map V.int))/\ns.length<=4000/\Q (.int (Lf ns)) H1 | _=>False) I hq) λus s1 ⟨vs,H1,I1,r1,q1⟩=>?_) he rfl
 match vs,r1,q1 with
 | [x],r1,q1=>
  obtain ⟨q,ns,rfl,sq,hl,k⟩:=q1;obtain ⟨u,rfl,ru⟩:=vals1 r1;cases ru
  have fin:∀(n:Nat),n=ns.length->∀(h':Bq) (tk:Nat),h'.SetOf (ZD X.prog X.w) s1.heap.objs.size (λk'=>(firstMet (λi=>ns.getD i 0) n).any (·==k')) (firstMet (λi=>ns.getD i 0) n).length ->
    (∀b o,b < s1.heap.objs.size->s1.heap.get? b=some o->h'.get? b=some o)->Al (AZ X.prog X.w) X.A (ZB (DX pos (AS [] X.env))) (λvs s₁=>Al (AZ X.prog X.w) X.A (call (.builtin "len") (.ref s1.heap.objs.size :: vs)) (EP X pins σ Q) X.xe s₁) X.xe { s1 with heap:=h',toks:=tk }:=λn hn h' tk hS hk=>by
   refine Iu ?_;obtain ⟨o,es,ep,t,ho,hex,hd,_,_,hsc,hf,hsz⟩:=hS;have hz:(es.size:Int) < 2 ^ 63:=ZN (show (es.size:Int) < 4096 by unfold RZ at hsc;lia) (by decide);refine call_len_set (s:={ s1 with heap:=h',toks:=tk }) ho hex hd hf hz ?_
   have I2:Inv X pins σ H1 { s1 with heap:=h',toks:=tk+1+1 }:=I1.kept λb o e=>hk b o (Ab e) e
   refine ⟨.int (Lf ns),H1,I2,⟨tk+1,?_⟩,k⟩;rw [hsz,hn];rfl
  rcases sq with sq | sq
  ·obtain ⟨its,rv,pl,hz⟩:=I1.tuple sq
   have hlen:=rv.length;rw [AH] at hlen;exact SU (I.ok.hd hc) (show s1.heap.IsTuple q its.toArray from pl) (by simpa using intsAre_of rv) (by rw [AU];unfold RZ;lia) (fin its.toArray.size (by rw [AU];lia))
  ·obtain ⟨its,rv,pl,hz⟩:=I1.list sq
   have hlen:=rv.length;rw [AH] at hlen;exact PySem.call_set_list (I.ok.hd hc) pl.isList (by simpa using intsAre_of rv) (by rw [AU];unfold RZ;lia) (fin its.toArray.size (by rw [AU];lia))
def OY (m:ME):ME:=λe S=>(m e S).bind λd S1=>match Fy d S1 with
 | some ds=>match G7 ds with
  | some ns=>if ns.length<=4000 then .ok (.int (Lf ns)) S1 else .bad
  | none=>.bad
 | none=>.bad
theorem YS (hc:X.calm=true) (hg:Gl X "len") (hm:X.mg "len" = none) (hg2:Gl X "set") (hm2:X.mg "set" = none) (h:GE X E e m)
  (he:AS [e] X.env=(false,Bm e X.env) :: AS [] X.env:=by rfl) (he2:AS [.Call (.Name "set" p2) [e] [] pos2] X.env=(false,Bm (.Call (.Name "set" p2) [e] [] pos2) X.env) :: AS [] X.env:=by rfl) :
  GE X E (.Call (.Name "len" p) [.Call (.Name "set" p2) [e] [] pos2] [] pos) (OY m):=(X1 hc hg hm hg2 hm2 h he he2).imp λσ H Q ⟨ρ,l,S,hl,hs,hm⟩=>by
 refine ⟨ρ,l,S,hl,hs,hm.seq λd S1 hm ρ1 H1 x l1 s1 r1=>?_⟩
 cases hq:Fy d S1 with
 | none=>rw [hq] at hm;exact hm.elim
 | some ds=>
  rw [hq] at hm;dsimp only at hm
  cases hi:G7 ds with
  | none=>rw [hi] at hm;exact hm.elim
  | some ns=>
   rw [hi] at hm;dsimp only at hm;split at hm
   ·rename_i hn
    obtain ⟨q,xs,rfl,rr,sq⟩:=MN s1 r1 hq;rw [JQ hi] at rr;rw [Tk rr] at sq;exact ⟨q,ns,rfl,sq.symm,hn,hm ρ1 H1 _ l1 s1 (.int _)⟩
   ·exact hm.elim
end
section
variable {X:Cx} {E:EW} {a b c:Expr} {p pos:Pos} {ml:ML} {ta:TA} {tg:Expr}
end
section
variable {X:Cx} {E:EW} {e a b c:Expr} {p p2 pos pos2:Pos} {m:ME} {te:TE} {ml:ML} {ta:TA} {tg:Expr}
end
def Pg (mk mv:ME):ME:=λe S=>(mk e (S++[.dK []])).bind λx S1=>(mv e S1).bind λy S2=>match S2[S.length]?,bE x with
 | some (.dK []),some k=>.ok (.ref S.length) (S2.set S.length (.dK (Ij [] k y)))
 | _,_=>.bad
section
variable {X:Cx} {E:EW} {k v:Expr} {pos:Pos} {mk mv:ME}
theorem bQ (hk:GE X E k mk) (hv:GE X E v mv):GE X E (.Dict [some k] [v] pos) (Pg mk mv):=
 (eM (aH hk hv dy) rfl rfl (by simp) (by simp)).imp λσ H Q ⟨ρ,l,S,hl,hs,hm⟩ p hp=>by
 obtain ⟨s0,l0,at0⟩:=hs.alloc (ho:=.dK []) (o:=.dK []) hp ⟨[],Bj,.nil⟩;refine ⟨ρ++[p],l,S++[.dK []],hl.mono l0,s0,(hm.later l0).seq λx S1 hm ρ1 H1 u l1 s1 r1=>⟨ρ1,l,S1,hl.mono (l0.trans l1),s1,(hm.later l1).seq λy S2 hm ρ2 H2 w l2 s2 r2=>?_⟩⟩;have r0:Bv X.K (ρ++[p]) (upd H p (.dK [])) (.ref S.length) (.ref p):=.ref at0;have r0':=r0.mono (l1.trans l2)
 show H2 p=some (.dK [])/\∃kvs:List (Key×V),[(u,w)]=kvs.map (λkv=>(kV kv.1,kv.2))/\kvs.length<=15/\Q (.ref p) (upd H2 p (.dK (Il [] kvs)))
 split at hm
 ·rename_i ky h4 hk'
  cases r0' with
  | @ref _ a hn=>
   obtain ⟨kvs',e,r⟩:=s2.ob S.length _ _ h4 hn;cases r;rw [Oa (r1.mono l2) hk'];have le:Le X.K ρ2 H2 ρ2 (upd H2 p (.dK (HG [] ky w))):=Le.write hn (by rw [e];trivial);obtain ⟨s5,l5⟩:=s2.write (ho:=.dK (HG [] ky w)) (o:=.dK (Ij [] ky y)) hn ⟨_,Bj,(KVR.put ky r2 .nil).mono le⟩;exact ⟨e,[(ky,w)],rfl,by simp,hm ρ2 _ _ (l0.trans (l1.trans (l2.trans l5))) s5 ((r0.mono (l1.trans l2)).mono l5)⟩
 ·exact hm.elim
end
end L2
namespace PySem
end PySem
namespace L2
open PySem PySem.Spec PyProof.Rows
def mExtT (mo ma:ME):ME:=λe S=>(mo e S).bind λd S1=>match atL d S1 with
 | some (n,_)=>(ma e S1).bind λy S2=>match atL d S2,y with
  | some (_,xs),.tup ys=>if xs.length+ys.length<=sizeLine then .ok .non (S2.set n (.lst (xs++ys))) else .bad
  | _,_=>.bad
 | none=>.bad
section
variable {X:Cx} {E:EW} {o e:Expr} {apos cpos:Pos} {mo ma:ME}
end
def lG (td ty:TE):TE:=λσ H Q=>td σ H λx H1=>∃a,x=.ref a/\IsD H1 a/\ty σ H1 λy H2=>∃b kvs more,y=.ref b/\a≠b/\H2 a=some (.dK kvs)/\H2 b=some (.dK more)/\kvs.length+more.length<=sizeLine/\Q .non (upd H2 a (.dK (Il kvs more)))
section
variable {X:Cx} {o e:Expr} {apos cpos:Pos} {td ty:TE}
theorem eK (ho:PE X o td) (he:PE X e ty) (m:M1 X o "update" apos e cpos):PE X (.Call (.Attribute o "update" apos) [e] [] cpos) (lG td ty):=by
 intro pins s σ H Q I h;refine wpAny_Call_method m.base m.few m.line PySem.F.plainAttrs_dict QQ PySem.F.type_dict_update (thn (ho pins s σ H _ I h) λu s1 ⟨x,H1,I1,rx,a,ex,d,q1⟩=>?_);subst ex;obtain rfl:u=A0 a:=rx;obtain ⟨t1,t2,_⟩:=jq I1 d;refine ⟨t1,t2,?_⟩;rw [m.trees];refine J3 rfl (Kz (IL (thn (he pins s1 σ H1 _ I1 q1) λiv s2 ⟨y,H2,I2,ry,b,kvs,more,ey,hab,ea,eb,hz,q2⟩=>Iu ?_)));subst ey;cases (show iv=A0 b from ry);obtain ⟨za,hda,vsa,ra,dda⟩:=W6 I2.hok ea;obtain ⟨zb,hdb,vsb,rb,ddb⟩:=W6 I2.hok eb;refine call_meetsIn QQ dda.typeIs PySem.F.entry_dict_update (PySem.F.args_dict_update_2 _ _) (meets_dict_update (DW X.prog X.w) a b hab hdb) ⟨vsa,vsb,dda,ddb,by rw [<-ra.length,<-rb.length];exact hz,λh' d1 _ hs=>⟨.non,_,?_,rfl,q2⟩⟩
 have he':∃q,h'.get? a=some q:=let ⟨q,_,_,hq,_⟩:=d1;⟨q,hq⟩
 exact Og I2 (by rw [ea];exact Cv) hs he' (V0 (Ax (Io more kvs) hz) hda (rb.merge ra) d1)
end
def NO {β:Type} (kvs more:List (Key×β)):List (Key×β):=more.foldl (λacc kv=>Ij acc kv.1 kv.2) kvs
theorem KVR.merge {K:AA} {ρ:List AK} {H:Hp}:∀ {more:List (Key×D)} {more':List (Key×V)} {kvs:List (Key×D)} {kvs':List (Key×V)},KVR K ρ H more more'->KVR K ρ H kvs kvs'->KVR K ρ H (NO kvs more) (Il kvs' more')
 | _,_,_,_,.nil,q=>q
 | (g,a) :: x,(g',b) :: y,kvs,kvs',.cons r t,q=>by
  have e:g=g':=r.1;subst e;exact KVR.merge (kvs:=Ij kvs g a) (kvs':=HG kvs' g b) t (KVR.put g r.2 q)
def LQ (mo ma:ME):ME:=λe S=>(mo e S).bind λx S1=>match x with
 | .ref n=>match S1[n]? with
  | some (.dK _)=>(ma e S1).bind λy S2=>match y with
   | .ref m=>match S2[n]?,S2[m]? with
    | some (.dK kvs),some (.dK more)=>if n≠m/\kvs.length+more.length<=sizeLine then .ok .non (S2.set n (.dK (NO kvs more))) else .bad
    | _,_=>.bad
   | _=>.bad
  | _=>.bad
 | _=>.bad
section
variable {X:Cx} {E:EW} {o e:Expr} {apos cpos:Pos} {mo ma:ME}
theorem Wx (ho:GE X E o mo) (ha:GE X E e ma) (m:M1 X o "update" apos e cpos:=by exact ⟨rfl,rfl,rfl,rfl⟩):GE X E (.Call (.Attribute o "update" apos) [e] [] cpos) (LQ mo ma):=(eK ho ha m).imp λσ H Q ⟨ρ,l,S,hl,hs,hm⟩=>by
 refine ⟨ρ,l,S,hl,hs,hm.seq λx S1 hm ρ1 H1 u l1 s1 r1=>?_⟩;split at hm
 ·rename_i n
  split at hm
  ·rename_i kv0 h1
   cases r1 with
   | @ref _ a hn=>
    obtain ⟨kv0',e0,_⟩:=s1.ob n _ _ h1 hn;refine ⟨a,rfl,.inl ⟨kv0',.inl e0⟩,ρ1,l,S1,hl.mono l1,s1,(hm.later l1).seq λy S2 hm ρ2 H2 v l2 s2 r2=>?_⟩;split at hm
    ·rename_i m
     split at hm
     ·rename_i kvs more h2 h3
      split at hm
      ·rename_i hc
       have r1':Bv X.K ρ2 H2 (.ref n) (.ref a):=(Bv.ref hn).mono l2
       cases r1' with
       | @ref _ _ hn2=>
        cases r2 with
        | @ref _ b hm2=>
         obtain ⟨kvs',ea,ra⟩:=s2.ob n _ _ h2 hn2;obtain ⟨more',eb,rb⟩:=s2.ob m _ _ h3 hm2;have le:Le X.K ρ2 H2 ρ2 (upd H2 a (.dK (Il kvs' more'))):=Le.write hn2 (by rw [ea];trivial);obtain ⟨s5,l5⟩:=s2.write (ho:=.dK (Il kvs' more')) (o:=.dK (NO kvs more)) hn2 ⟨_,Bj,(KVR.merge rb ra).mono le⟩;exact ⟨b,kvs',more',rfl,λz=>hc.1 (s2.nd n m a hn2 (z▸hm2)),ea,eb,by rw [<-KVR.length ra,<-KVR.length rb];exact hc.2,hm ρ2 _ _ (l1.trans (l2.trans l5)) s5 .non⟩
      ·exact hm.elim
     ·exact hm.elim
    ·exact hm.elim
  ·exact hm.elim
 ·exact hm.elim
end
section
variable {X:Cx}
end
section
variable {X:Cx} {E:EW} {o e f:Expr} {apos cpos:Pos} {mo mi my:ME}
end
end L2
namespace PySem
open Sem (wp)
section
variable {prog:Aq} {w:BF} {A:BA} {E:AD->AG->Prop} {s:AG}
end
end PySem
namespace L2
open PySem PySem.Spec PyProof.Rows
section
variable {P:Aq} {w:BF} {K:AA} {elts:List Expr} {x1:Nat} {pos:Pos}
end
section
variable {X:Cx} {E:EW} {e1 e2:Expr} {elts:List Expr} {x1:Nat} {p pos ptg:Pos} {ml:ML} {ta:TA}
end
end L2
namespace HT
open PySem PySem.Spec PyProof.Rows
section
variable {prog:Aq} {w:BF} {A:BA} {E:AD->AG->Prop} {s:AG}
end
end HT
namespace L2
open PySem PySem.Spec PyProof.Rows
section
variable {X:Cx}
variable {E:EW} {e:Expr} {lo hi:Option Expr} {pos p2:Pos} {m:ME} {ml mh:MO}
end
section
variable {X:Cx}
instance (i j:Int):Decidable ((λ_ j:Int=>0<=j) i j):=inferInstanceAs (Decidable (0<=j))
end
section
variable {X:Cx} {E:EW} {CX:CXT} {k n:Nat} {f C:AK} {fd:Dh} {ps:List Str} {m:Str} {pos apos:Pos} {o e:Expr} {es:List Expr} {mo:ME} {ml:ML} {g:List D->Sto->Res D}
end
section
variable {X:Cx} {E:EW} {o:Expr} {apos cpos:Pos} {mo:ME}
end
section
variable {X:Cx}
end
section
variable {X:Cx} {E:EW} {g:Str} {gp hpos pos:Pos} {G:AK} {cs:List AK} {body suite:List Cg} {b₀:Cg} {mb mh:MS}
end
end L2
namespace L2
open PySem PySem.Spec PyProof.Rows PySem.SeqAt
section
variable {X:Cx} {K:AA} {ρ:List AK} {H:Hp}
variable {pins:List (AK×Obj)} {σ:St} {s:AG}
end
section
variable {P:Aq} {w:BF} {K:AA} {mg:Str->Option AD} {base:Bq}
theorem Gm {N ps:List Str} {sc:IK} (h1:N.Nodup:=by decide +kernel) (h2:∀x∈ps,sc.names.lookup x=some .local∨sc.names.lookup x=some .cell:=by decide +kernel) (h3:∀y∈sc.names,y.2≠.free:=by decide +kernel) (h4:sc.kind=.function:=by rfl) (h5:sc.isCoroutine=false:=by rfl) (h6:sc.isGenerator=false:=by rfl) (h7:N.take ps.length=ps:=by rfl):Bx N ps sc:=⟨h4,h5,h6,h1,h7,h2,h3⟩
theorem CB {x qual:Str} {st:Cg} {f:AK} {fd:Dh} {N ps:List Str} {k n:Nat} (F:Fun K x qual st f fd) (Sc:Bx N ps (An st)) (hn:ps.length=n) {mb:MS}
  (hbody:∀(cdv:AD) (A:BA) (outer:List Env) (s:AG) (H:Hp) (E:XK),HQ k (A.deeper (LV qual (An st) s.heap.objs.size f cdv))->Jz (SO (CXG P w) P w K mg base N qual (An st) f cdv A outer s H E)->(A.deeper (LV qual (An st) s.heap.objs.size f cdv)).units+64 < Eb->N.Nodup ->
   ∀pn E',GSs ((SO (CXG P w) P w K mg base N qual (An st) f cdv A outer s H E).w' pn E') E' (Bs st) mb) :
  Dp P w K mg base (CXG P w) (k+1) f fd ps (spM K n (EG N.length mb)):=kE F Sc hn λcdv A outer s H E hr=>hbody cdv A outer s H E hr ⟨rfl,rfl,rfl⟩ hr.units Sc.nd
end
section
variable {X:Cx} {E:EW} {e:Expr} {m:ME} {pos:Pos}
theorem Cr {x:Str} (i:Nat) (hN:X.N.Nodup) (hi:X.N[i]?=some x:=by rfl) (hx:Loc X.env.scope x:=by first | exact QG rfl | exact QF rfl) (hf:X.fn x=true∨X.env.scope.names.lookup x=some .local:=by first | exact .inl rfl | exact .inr rfl | assumption):GG X (.Name x pos) (tgN i):=fN (eE hN hi hx hf)
theorem CO {x:Str} {pos':Pos} (i:Nat) (hN:X.N.Nodup) (he:GE X E e m) (hi:X.N[i]?=some x:=by rfl) (hx:Loc X.env.scope x:=by first | exact QG rfl | exact QF rfl) (hs:Fo e (some (.Name x pos')) pos.line X.env=pure false:=by rfl)
  (hf:X.fn x=true∨X.env.scope.names.lookup x=some .local:=by first | exact .inl rfl | exact .inr rfl | assumption):GS X E (.Assign [.Name x pos'] e pos) (BZ i m):=jw hN hi hx he hs hf
end
end L2
namespace PySem
open Sem (wp)
section
variable {prog:Aq} {w:BF} {A:BA} {R:ZF->AG->Prop} {z B:AK} {fp wr:List AK} {n:Nat} {P:Nat->AD->Prop} {St:Nat->Bq->Prop} {bt:Nat->Nat->Bool} {J:Bq->Prop}
variable {E:AD->AG->Prop} {s:AG}
end
end PySem
namespace L2
open PySem PySem.Spec PyProof.Rows
section
variable {X:Cx} {E:EW} {e:Expr} {p pos:Pos} {m:ME}
end
end L2
namespace L2
open PySem PySem.Spec PyProof.Rows Srt
section
variable {X:Cx} {E:EW} {e a b c:Expr} {p p2 pos pos2:Pos} {m:ME} {te:TE} {ml:ML} {ta:TA} {tg:Expr}
end
end L2
namespace Srt
open PySem PyProof.Rows
section
variable {prog:Aq} {w:BF} {A:BA} {E:AD->AG->Prop} {s:AG}
end
end Srt
namespace L2
open PySem PySem.Spec PyProof.Rows
open Srt (ltL)
end L2
namespace PySem
open Sem (wp)
section
variable {prog:Aq} {w:BF} {A:BA} {E:AD->AG->Prop} {s:AG} {I:AK} {fp wr:List AK} {G:Array M2->Array M2->Prop} {n:Nat} {P:Nat->AD->Prop} {St:Nat->AG->Prop}
theorem Vy {R:ZF->AG->Prop} (W:WalksS prog w A.in1 I fp wr G n P St) (hT:∀i s,St i s->s.TypeIs (.ref I) "list_reverseiterator") (hst:St 0 s) (S:AK) (hSf:S∉fp) (hI:I∈fp) (res:AD) (c:Nat)
  (hS:s.heap.get? S=some { cls:=.type "list",dict:=none,data:=.seq #[] c,slots:=#[] }) (hn:n<=sizeLine)
  (hR:∀s' acc' c',Moved (S :: wr) G s s'->s'.heap.get? S=some { cls:=.type "list",dict:=none,data:=.seq acc' c',slots:=#[] }->ItemsOf P acc' n->R (.ok (.ret res)) s') :
  Al (AZ prog w) A.in1 (EE (.ref S) (.ref I) res)
   (λfin s'=>match fin with | .done f=>R (.ok f) s' | .again c'=>c'.quiet=true/\J9 (AZ prog w) A c' R s') (λe s'=>R (.error e) s') s:=by
 have hSI:S≠I:=λe=>hSf (e▸hI)
 have h1:Nc (.ref S) (.ref I)=false:=by simp [Nc,hSI]
 unfold EE;refine AB (Y7 (hT 0 _ hst) ?_);rw [qY (by rw [h1];decide)];refine AB (W.self 0 _ _ _ hst ?_);refine AB (E2 ?_);unfold nP;refine AB (Su (hT 0 _ hst) F.nolen_lri ?_);show Al _ A.in1 (specialOf (A0 I) (Ga "__length_hint__") >>= _) _ _ _;refine AB (Su (hT 0 _ hst) F.hint_lri ?_)
 (generalize hid:("list_reverseiterator.__length_hint__" : String)=id0;(fail_if_success (clear hid id0));wp_delta;rw [show splitId id0=some ("list_reverseiterator", "__length_hint__") from by subst hid;decide +kernel];subst hid)
 refine AB (RX (b:=true) (hT 0 _ hst) (by rw [Ul];kernel_rfl) ?_);refine AM ?_;rw [qY (by decide)];exact AM ⟨plainId_quiet F.plain_extend_loop _,codeAny_extend_loopS W hn _ hSf _ n 0 _ _ _ rfl (Cm _) hst hS (ItemsOf.nil P) hR⟩
theorem Qm {Q:AD->AG->Prop} (W:WalksS prog w A.in1.in1 I fp wr G n P St) (hT:∀i s,St i s->s.TypeIs (.ref I) "list_reverseiterator") (hst:St 0 s) (hfp:∀b∈fp,b < s.heap.objs.size) (hI:I∈fp)
  (hQ:∀s' acc c,Moved (s.heap.objs.size :: wr) G { s with heap:=s.heap.push { cls:=.type "list",data:=.seq #[] } } s'->s'.heap.get? s.heap.objs.size=some { cls:=.type "list",dict:=none,data:=.seq acc c,slots:=#[] }->ItemsOf P acc n->Q (.ref s.heap.objs.size) s') (hsz:n<=sizeLine) :
  Al (AZ prog w) A (call (.type "list") [.ref I]) Q E s:=by
 refine callType_codes (Q₁:=λobj s₁=>obj=.ref s.heap.objs.size/\s₁={ s with heap:=s.heap.push { cls:=.type "list",data:=.seq #[] } }) PySem.F.called_list (PySem.F.typeCall_list_1 _) PySem.F.entry_list_init
  (code_list_new _ ⟨rfl,rfl⟩) λobj s₁ h₁=>?_
 obtain ⟨rfl,rfl⟩:=h₁;have hS:(s.heap.push { cls:=.type "list",data:=.seq #[] }).get? s.heap.objs.size=some { cls:=.type "list",data:=.seq #[] }:=Ah _ rfl;refine ⟨⟨_,hS,rfl⟩,PySem.F.args_list_init_2 _ _,?_⟩;show Al _ _ (do let old <-Du (.ref s.heap.objs.size);nO (.ref s.heap.objs.size) (λ_=>#[]);letGo old.toList.reverse;EE (.ref s.heap.objs.size) (.ref I) .none) _ _ _;refine AB ?_;unfold Du;refine AB (Ui hS rfl (AM ?_));show Al _ _ (updateSeq s.heap.objs.size (λ_=>#[]) >>= λ_=>letGo (#[]:Array AD).toList.reverse >>= λ_=>EE (.ref s.heap.objs.size) (.ref I) .none) _ _ _;refine AB (wpAny_updateSeq hS rfl ?_);have hS₂:=DZ (E7 (λ_=>(#[]:Array AD))) hS rfl
 have hSf:s.heap.objs.size∉fp:=λhm=>Cz _ (hfp _ hm)
 refine AB (wpAny_letGo ?_)
 have keep:∀b o,b≠s.heap.objs.size->s.heap.get? b=some o->((s.heap.push { cls:=.type "list",data:=.seq #[] }).update s.heap.objs.size (E7 (λ_=>(#[]:Array AD)))).get? b=some o:=
  λb o hb e=>(Ce _ _ (Bw hb)).trans (AI _ e)
 have hst₁:=W.frame 0 s ((s.heap.push { cls:=.type "list",data:=.seq #[] }).update s.heap.objs.size (E7 (λ_=>(#[]:Array AD)))) s.toks hst (AL _) λb hb o e=>keep b o (Ak (hfp b hb)) e
 refine Vy (A:=A.in1) W hT hst₁ s.heap.objs.size hSf hI .none _ hS₂ hsz λs' acc c hm hS' hacc=>⟨rfl,hQ s' acc c ⟨λb o hb e=>hm.heap b o hb ?_,hm.gens,hm.drawn,hm.os,hm.toks⟩ hS' hacc⟩
 have hne:b≠s.heap.objs.size:=λz=>hb (by rw [z];exact Ag)
 exact (Ce _ _ (Bw hne)).trans e
end
end PySem
namespace L2
open PySem PySem.Spec PyProof.Rows
section
variable {X:Cx} {E:EW} {e:Expr} {p p2 pos pos2:Pos} {m:ME} {te:TE}
def Zo (K:AA) (te:TE):TE:=λσ H Q=>te σ H λx H1=>∃a xs,x=.ref a/\SqL K H1 a xs/\∀q,H1 q=none->Q (.ref q) (upd H1 q (.lst xs.reverse))
theorem VZ (hc:X.calm=true) (hg:Gl X "list") (hm:X.mg "list" = none) (hg2:Gl X "reversed") (hm2:X.mg "reversed" = none) (h:PE X e te)
  (he:AS [e] X.env=(false,Bm e X.env) :: AS [] X.env:=by rfl) (he2:AS [.Call (.Name "reversed" p2) [e] [] pos2] X.env=(false,Bm (.Call (.Name "reversed" p2) [e] [] pos2) X.env) :: AS [] X.env:=by rfl) :
  PE X (.Call (.Name "list" p) [.Call (.Name "reversed" p2) [e] [] pos2] [] pos) (Zo X.K te):=by
 intro pins s σ H Q I hq;refine C6 (Hv I hg hm IP ?_ (by decide) (by decide));refine Bi ?_ he2 rfl;rw [he2];show Al _ _ (ZB ((false,Bm (.Call (.Name "reversed" p2) [e] [] pos2) X.env) :: DX pos (AS [] X.env))) _ _ s;refine IL ?_;refine C6 (Hv I hg2 hm2 nD ?_ (by decide) (by decide));refine Bi (thn (Ez h HH he pos2 pins s σ H (λvs H1=>match vs with | [x]=>∃a xs,x=.ref a/\SqL X.K H1 a xs/\∀q,H1 q=none->Q (.ref q) (upd H1 q (.lst xs.reverse)) | _=>False) I hq) λus s1 ⟨vs,H1,I1,r1,q1⟩=>?_) he rfl
 match vs,r1,q1 with
 | [x],r1,q1=>
  obtain ⟨a,xs,rfl,sq,q⟩:=q1;obtain ⟨u,rfl,ru⟩:=vals1 r1;cases ru;obtain ⟨its,rv,pl,hz⟩:=I1.list sq;have hl:=rv.length
  have la:a < s1.heap.objs.size:=by obtain ⟨o,q,_⟩:=pl.isList;exact Ab q
  refine call_reversed_list pl.isList ?_;refine Iu ?_;refine Qm (Walks.listRev (A:=X.A.in1.in1) (I.ok.hd hc) s1.heap.objs.size a (Ak la) its.toArray).toS (λi s st=>st.2.1.typeIs) ⟨Cm _,⟨_,Ah _ rfl,rfl,by simp [revObj]⟩,pl.isList.push _⟩ (bT la) (by simp) ?_ (by rw [AU];lia);rintro ⟨hp,g,d,tk,os⟩ acc c mv hL hacc;obtain ⟨m1,m2,m3,m4,m5⟩:=mv;dsimp only at m1 m2 m3 m4 hL;subst m2 m3 m4
  have k:∀b o,s1.heap.get? b=some o->hp.get? b=some o:=λb o e=>m1 b o (λz=>by
   have lt:=Ab e;simp only [Au,CG,or_false,Cd] at z
   rcases z with z | z
   ·rw [z] at lt;exact zX lt (Ic.mpr (GU _))
   ·rw [z] at lt;exact Cz _ lt) (AI _ (AI _ e))
  have rr:Bd xs.reverse acc.toList:=Zf rv (by have:=hacc.1;simpa using this) (λj v hv=>by
   have:=hacc.2 j v (by simpa using hv)
   simpa using this)
  have hle:s1.heap.objs.size<=(s1.heap.push (revObj a ((its.toArray.size:Int) - 1))).objs.size:=by rw [Cd];exact GU _
  refine ⟨.ref (s1.heap.push (revObj a ((its.toArray.size:Int) - 1))).objs.size,upd H1 _ (.lst xs.reverse),I1.laid (t':=tk) k hle ⟨by rw [Hq];exact hz,acc.toList,c,rr,by rw [Array.toArray_toList];exact hL⟩,rfl,q _ (I1.hok.fresh hle)⟩
def Pf (m:ME):ME:=λe S=>(m e S).bind λd S1=>match J4 d S1 with
 | some ds=>.ok (.ref S1.length) (S1++[.lst ds.reverse])
 | none=>.bad
theorem Vw (hc:X.calm=true) (hg:Gl X "list") (hm:X.mg "list" = none) (hg2:Gl X "reversed") (hm2:X.mg "reversed" = none) (h:GE X E e m)
  (he:AS [e] X.env=(false,Bm e X.env) :: AS [] X.env:=by rfl) (he2:AS [.Call (.Name "reversed" p2) [e] [] pos2] X.env=(false,Bm (.Call (.Name "reversed" p2) [e] [] pos2) X.env) :: AS [] X.env:=by rfl) :
  GE X E (.Call (.Name "list" p) [.Call (.Name "reversed" p2) [e] [] pos2] [] pos) (Pf m):=(VZ hc hg hm hg2 hm2 h he he2).imp λσ H Q ⟨ρ,l,S,hl,hs,hm⟩=>by
 refine ⟨ρ,l,S,hl,hs,hm.seq λd S1 hm ρ1 H1 x l1 s1 r1=>?_⟩
 cases hq:J4 d S1 with
 | none=>rw [hq] at hm;exact hm.elim
 | some ds=>
  rw [hq] at hm;obtain ⟨a,xs,rfl,rr,sq⟩:=IY s1 r1 hq;refine ⟨a,xs,rfl,sq,λq hq=>?_⟩;have le:Le X.K ρ1 H1 (ρ1++[q]) (upd H1 q (.lst xs.reverse)):=Le.alloc hq;obtain ⟨s4,l4,at4⟩:=s1.alloc (ho:=.lst xs.reverse) (o:=.lst ds.reverse) hq ⟨_,Bj,(rr.reverse).mono le⟩;exact hm _ _ _ (l1.trans l4) s4 (.ref at4)
end
def Itp (lo st:Int) (n:Nat):It:=⟨λi _=>i < n,λi H x H'=>H'=H/\x=.int (lo+(i:Nat) * st),λi _=>n<=i⟩
theorem TU {P:Aq} {w:BF} {K:AA} {tg:Expr} (it:AK) (lo st:Int) (n:Nat):Sb P w K tg (Itp lo st n) [it] it (λi h=>So h it (lo+(i:Nat) * st) ((n:Int) - (i:Nat)) st) where
 mem:=by simp
 obj:=λi h st b hb=>by
  have e:b=it:=by simpa using hb
  subst e
  exact ⟨_,st,λv z=>by
   have z':Os _=Sz v:=z
   cases z'⟩
 keep:=λi h h' st k=>k it (by simp) _ st
 item:=by
  intro X hP hw hK hc i pins s σ H E I hf st' hg;subst hP hw hK;obtain ⟨f0,f1,f2,f3,f4,f5⟩:=hf it (by simp);have W:=kU (prog:=X.prog) (w:=X.w) (I.ok.hd hc) it lo st n
  refine W.item i s _ _ hg st' λv h' tk hv st' kk=>?_
  obtain ⟨t,rfl⟩:=hv;have I1:Inv X pins σ H { s with heap:=h',toks:=tk }:=I.turned (λb o hb e=>kk b o (by simpa using hb) e) f0 f1 f3 f4 f5;exact ⟨_,rfl,Wu (s:={ s with heap:=h',toks:=tk }) (n:="range_iterator") st' rfl rfl (by decide) ⟨.int (lo+(i:Nat) * st),H,I1,⟨t,rfl⟩,⟨rfl,rfl⟩,st',λb hb=>(hf b hb).1⟩⟩
 done:=by
  intro X hP hw hK hc i pins s σ H E I hf st' hg;subst hP hw hK;obtain ⟨f0,f1,f2,f3,f4,f5⟩:=hf it (by simp)
  exact Y8 (I.ok.hd hc) st' (by have:n<=i:=hg;lia) λh' eb=>⟨rfl,I.turned (t':=s.toks) (λb o hb e=>eb b o hb e) f0 f1 f3 f4 f5⟩
 self:=λ_ _ _ _ _ st h=>Y9 st h
def rpN (i j k:Int):Nat:=if i < j then ((j - i - 1) / k+1).toNat else 0
theorem bi {a k:Int} (h0:0<=a) (hk:0 < k):0<=a / k/\a / k<=a:=⟨gW h0 (Int.le_of_lt hk),cX _ h0⟩
theorem WZ {i j k:Int} (hk:0 < k):E3 i j k=(rpN i j k:Nat):=by
 unfold E3 rpN;rw [qX (show k > 0 from hk)];split
 ·rename_i h
  have:=(bi (a:=j - i - 1) (k:=k) (by lia) hk).1
  lia
 ·rfl
theorem gd {i j k:Int} (hk:0 < k) (h1:-1000000<=i) (h2:j<=1000000):rpN i j k<=2000000:=by
 unfold rpN;split
 ·rename_i h
  have:=(bi (a:=j - i - 1) (k:=k) (by lia) hk).2
  lia
 ·lia
theorem Zx {i j k:Int} (hk:0 < k) (hk2:k<=1000000) (h1:-1000000<=i) (h2:i<=1000000) (h3:-1000000<=j) (h4:j<=1000000):QJ i j k=true:=by
 have e:=WZ (i:=i) (j:=j) hk;have l:=gd (i:=i) (j:=j) hk h1 h4;unfold QJ;rw [e];simp only [kz,D9,cZ,decide_eq_true_eq,beq_iff_eq,show (k > 0) from hk,if_true]
 refine ⟨?_,?_⟩ <;> lia
section
variable {X:Cx} {E:EW} {a b c:Expr} {p pos:Pos} {ml:ML} {ta:TA} {tg:Expr}
def mG (ta:TA):TI:=λσ H R=>ta σ H λvs H1=>∃i j k:Int,vs=[.int i,.int j,.int k]/\(0 < k/\k<=1000000/\-1000000<=i/\i<=1000000/\-1000000<=j/\j<=1000000)/\R (Itp i k (rpN i j k)) H1
theorem Xx (hg:Gl X "range") (hm:X.mg "range" = none) (ha:PA X [a,b,c] ta) (hs:AS [a,b,c] X.env=[(false,Bm a X.env),(false,Bm b X.env),(false,Bm c X.env)]:=by rfl) (hs2:AS [b,c] X.env=[(false,Bm b X.env),(false,Bm c X.env)]:=by rfl) :
  PI X tg (.Call (.Name "range" p) [a,b,c] [] pos) (mG ta):=by
 intro pins s σ H R I h;refine Call_ (Hv I hg hm hZ (Bi (thn (ha pos pins s σ H _ I h) λus s1 ⟨vs,H1,I1,r1,q1⟩=>?_) (by rw [hs,hs2]) (by rw [hs2];rfl)));obtain ⟨i,j,k,e,⟨b0,b00,b1,b2,b3,b4⟩,q⟩:=q1;subst e
 cases r1 with
 | cons r rr=>
  cases rr with
  | cons r' rr=>
   cases rr with
   | cons r'' rr=>
    cases rr;obtain ⟨t,rfl⟩:=r;obtain ⟨t',rfl⟩:=r';obtain ⟨t'',rfl⟩:=r'';refine call_range_3 (by lia) ?_ (QG (Rf (by lia)));refine gz (gP ..) (Zx b0 b00 b1 b2 b3 b4) ?_
    have I2:Inv X pins σ H1 { s1 with heap:=s1.heap.push { cls:=.type "range",data:=.fields #[.int i t,.int j t',.int k t''] },toks:=s1.toks }:=I1.kept λb o e=>AI _ e
    refine ⟨_,[(s1.heap.push { cls:=.type "range",data:=.fields #[.int i t,.int j t',.int k t''] }).objs.size],_,_,H1,rfl,I2.kept (t':=s1.toks) λb o e=>AI _ e,TU _ i k (rpN i j k),?_,λb hb=>?_,q⟩
    ·have e1:i+((0:Nat):Int) * k=i:=by simp
     have e2:((rpN i j k:Nat):Int) - ((0:Nat):Int)=E3 i j k:=by rw [WZ b0];simp
     show So _ _ (i+((0:Nat):Int) * k) (((rpN i j k:Nat):Int) - ((0:Nat):Int)) k;rw [e1,e2];exact Ah _ rfl
    ·have e:b=(s1.heap.push { cls:=.type "range",data:=.fields #[.int i t,.int j t',.int k t''] }).objs.size:=by simpa using hb
     subst e;exact I2.fpOk (AL _) (I2.hok.fresh (AL _))
def Xf (lo st:Int) (n:Nat):List D:=(AT n).map λi:Nat=>D.int (lo+i * st)
def iRP (ml:ML):MI:=λe S=>(ml e S).bind λds S1=>match ds with
 | [.int i,.int j,.int k]=>if 0 < k/\k<=1000000/\-1000000<=i/\i<=1000000/\-1000000<=j/\j<=1000000 then .ok (Dq (Xf i k (rpN i j k))) S1 else .bad
 | _=>.bad
theorem YO (hg:Gl X "range") (hm:X.mg "range" = none) (ha:GA X E [a,b,c] ml) (hs:AS [a,b,c] X.env=[(false,Bm a X.env),(false,Bm b X.env),(false,Bm c X.env)]:=by rfl) (hs2:AS [b,c] X.env=[(false,Bm b X.env),(false,Bm c X.env)]:=by rfl) :
  GI X E tg (.Call (.Name "range" p) [a,b,c] [] pos) (iRP ml):=(Xx hg hm ha hs hs2).imp λσ H R ⟨ρ,l,S,hl,hs,hm⟩=>by
 refine ⟨ρ,l,S,hl,hs,hm.seq λds S1 hm ρ1 H1 xs l1 s1 r1=>?_⟩;split at hm
 ·rename_i i j k
  split at hm
  ·rename_i hb
   cases r1 with
   | cons r rr=>
    cases rr with
    | cons r' rr=>
     cases rr with
     | cons r'' rr=>
      cases rr;cases r;cases r';cases r'';refine ⟨i,j,k,rfl,hb,hm ρ1 H1 _ l1 s1 ?_⟩;intro ρ2 H2 S2 ds z l2 s2 hv;cases hv
      have e:∀z:Nat,(Xf i k (rpN i j k))[z]?=if z < rpN i j k then some (.int (i+z * k)) else none:=λz=>by
       unfold Xf;rw [AX]
       by_cases hk:z < rpN i j k
       ·rw [qX hk,Bg hk];rfl
       ·rw [qY hk,BX (by rw [JD];lia)];rfl
      rw [e];refine ⟨λhn=>?_,λd hd=>?_⟩
      ·show rpN i j k<=z
       by_cases hk:z < rpN i j k
       ·rw [qX hk] at hn;cases hn
       ·lia
      ·by_cases hk:z < rpN i j k
       ·rw [qX hk] at hd
        cases hd;refine ⟨hk,λy H' ⟨e1,e2⟩=>?_⟩;subst e1 e2;exact ⟨ρ2,.refl,s2,.int _⟩
       ·rw [qY hk] at hd;cases hd
  ·exact hm.elim
 ·exact hm.elim
end
end L2
namespace L4
open PySem L2
inductive Cel where
 | no | fz (o:Ob) | ow (i:Nat)
abbrev Fz:=Nat->Cel
inductive Sl where
 | u | v (d:D) | z (o:Ob) | y (o:Ob) | w (i:Nat) (o:Ob) | q (P:(Nat->Option Ob)->D->Prop)
def Sl.ok (S0:Sto) (F:Fz) (S:Sto):Sl->Option D->Prop
 | .u,_=>True
 | .v d,x=>x=some d
 | .z o,x=>∃n,x=some (.ref n)/\F n=.fz o
 | .y o,x=>∃n,x=some (.ref n)/\F n=.fz o/\S0.length<=n
 | .w i o,x=>∃n,x=some (.ref n)/\F n=.ow i/\S[n]?=some o
 | .q P,x=>∃d,x=some d/\∀L:Nat->Option Ob,(∀n o,F n=.fz o->L n=some o)->P L d
structure Vs (S0:Sto) (A:List Sl) (e:Lo) (F:Fz) (S:Sto):Prop where
 kp:Keeps S0 S
 fz:∀n o,F n=.fz o->S[n]?=some o
 ow:∀n i,F n=.ow i->S0.length<=n/\n < S.length
 hi:∀n,S.length<=n->F n=.no
 sl:∀(i:Nat) (a:Sl),A[i]?=some a->∃x,e[i]?=some x/\a.ok S0 F S x
def Fle (F F':Fz):Prop:=∀n o,F n=.fz o->F' n=.fz o
theorem Fle.refl (F:Fz):Fle F F:=λ_ _ h=>h
theorem Fle.trans {F G H:Fz} (a:Fle F G) (b:Fle G H):Fle F H:=λn o h=>b n o (a n o h)
def Pz (F:Fz) (S S':Sto):Fz:=λn=>if n < S.length then F n else match S'[n]? with
 | some o=>.fz o
 | none=>.no
section
variable {S0 S S':Sto} {A B:List Sl} {e:Lo} {F:Fz} {α β γ ρ σ τ:Type}
theorem IA {n:Nat} (h:n < S.length):Pz F S S' n=F n:=qX h
theorem UG {n:Nat} {o:Ob} (h:S.length<=n) (ho:S'[n]?=some o):Pz F S S' n=.fz o:=by
 unfold Pz;rw [qY (Ic.mpr h),ho]
theorem De {n:Nat} {o:Ob} (h:S[n]?=some o):n < S.length:=(AF.mp h).1
theorem Sl.mono {S0:Sto} {F F':Fz} {S S':Sto} {a:Sl} {x:Option D} (h:a.ok S0 F S x) (h1:∀n o,F n=.fz o->F' n=.fz o) (h2:∀n i o,F n=.ow i->S[n]?=some o->F' n=.ow i/\S'[n]?=some o):a.ok S0 F' S' x:=by
 cases a with
 | u=>trivial
 | v d=>exact h
 | z o=>obtain ⟨n,h3,h4⟩:=h;exact ⟨n,h3,h1 _ _ h4⟩
 | y o=>obtain ⟨n,h3,h4,h5⟩:=h;exact ⟨n,h3,h1 _ _ h4,h5⟩
 | w i o=>obtain ⟨n,h3,h4,h5⟩:=h;exact ⟨n,h3,h2 _ _ _ h4 h5⟩
 | q P=>obtain ⟨d,h3,h4⟩:=h;exact ⟨d,h3,λL hL=>h4 L λn o q=>hL n o (h1 n o q)⟩
theorem Vs.fle (h:Vs S0 A e F S) (S':Sto):Fle F (Pz F S S'):=λn o q=>by rw [IA (De (h.fz n o q))];exact q
theorem Vs.grow (h:Vs S0 A e F S) (k:Keeps S S'):Vs S0 A e (Pz F S S') S':=by
 refine ⟨h.kp.trans k,λn o q=>?_,λn i q=>?_,λn hn=>?_,λi a ha=>?_⟩
 ·unfold Pz at q
  split at q
  ·rename_i hn
   rw [k.2 n hn];exact h.fz n o q
  ·cases hs:S'[n]? with
   | none=>rw [hs] at q;cases q
   | some o'=>rw [hs] at q;cases q;rfl
 ·unfold Pz at q
  split at q
  ·exact ⟨(h.ow n i q).1,Ae (h.ow n i q).2 k.1⟩
  ·cases hs:S'[n]? with
   | none=>rw [hs] at q;cases q
   | some o'=>rw [hs] at q;cases q
 ·unfold Pz
  rw [qY (Ic.mpr (Ax k.1 hn)),BX hn]
 ·obtain ⟨x,h1,h2⟩:=h.sl i a ha
  exact ⟨x,h1,Sl.mono h2 (h.fle S') λn i o q1 q2=>⟨by rw [IA (De q2)];exact q1,by rw [k.2 n (De q2)];exact q2⟩⟩
theorem Vs.cons (h:Vs S0 A e F S) {a:Sl} {x:Option D} (hx:a.ok S0 F S x):Vs S0 (a :: A) (x :: e) F S:=
 ⟨h.kp,h.fz,h.ow,h.hi,λi b hb=>by
  cases i with
  | zero=>cases hb;exact ⟨x,rfl,hx⟩
  | succ i=>exact h.sl i b hb⟩
theorem Vs.set (h:Vs S0 A e F S) {a:Sl} {x:Option D} (i:Nat) (hx:a.ok S0 F S x):Vs S0 (A.set i a) (e.set i x) F S:=
 ⟨h.kp,h.fz,h.ow,h.hi,λj b hb=>by
  by_cases c:i=j
  ·subst c
   rw [JE] at hb;rw [qX rfl] at hb;split at hb
   ·rename_i hl
    cases hb;obtain ⟨y,hy,_⟩:=h.sl i (A[i]) (BG hl);exact ⟨x,by rw [JE];rw [qX rfl,qX (AF.mp hy).1],hx⟩
   ·cases hb
  ·rw [Am c] at hb ⊢
   exact h.sl j b hb⟩
inductive Wk:List Sl->List Sl->Prop where
 | nil:Wk [] []
 | same {a:Sl} {A B:List Sl}:Wk A B->Wk (a :: A) (a :: B)
 | drop {a:Sl} {A B:List Sl}:Wk A B->Wk (a :: A) (.u :: B)
 | less {o:Ob} {A B:List Sl}:Wk A B->Wk (.y o :: A) (.z o :: B)
theorem Wk.at:∀ {A B:List Sl},Wk A B->∀(i:Nat) (b:Sl),B[i]?=some b->∃a,A[i]?=some a/\(b=.u∨b=a∨∃o,a=.y o/\b=.z o)
 | _,_,.nil,i,b,h=>by simp at h
 | _,_,.same w,0,b,h=>by cases h;exact ⟨_,rfl,.inr (.inl rfl)⟩
 | _,_,.less w,0,b,h=>by cases h;exact ⟨_,rfl,.inr (.inr ⟨_,rfl,rfl⟩)⟩
 | _,_,.less w,i+1,b,h=>Wk.at w i b h
 | _,_,.drop w,0,b,h=>by cases h;exact ⟨_,rfl,.inl rfl⟩
 | _,_,.same w,i+1,b,h=>Wk.at w i b h
 | _,_,.drop w,i+1,b,h=>Wk.at w i b h
theorem Vs.weak (h:Vs S0 A e F S) (w:Wk A B):Vs S0 B e F S:=⟨h.kp,h.fz,h.ow,h.hi,λi b hb=>by
 obtain ⟨a,h1,h2⟩:=w.at i b hb;obtain ⟨x,h3,h4⟩:=h.sl i a h1
 rcases h2 with rfl | rfl | ⟨o,rfl,rfl⟩
 ·exact ⟨x,h3,trivial⟩
 ·exact ⟨x,h3,h4⟩
 ·obtain ⟨n,h5,h6,_⟩:=h4
  exact ⟨x,h3,n,h5,h6⟩⟩
def Sl.oth (i:Nat):Sl->Bool
 | .w k _=>!(Nat.beq k i)
 | _=>true
theorem jU {i j k:Nat} {o:Ob} (h:((A.set i .u).all (Sl.oth i))=true) (hj:j≠i) (ha:A[j]?=some (.w k o)):k≠i:=by
 have h1:(A.set i .u)[j]?=some (.w k o):=by rw [Am (Bw hj)];exact ha
 have:=OQ.mp h _ (A8 h1);intro e;subst e;have h2:(!(Nat.beq k k))=true:=this;rw [Nat.beq_refl] at h2;cases h2
theorem Vs.put (h:Vs S0 A e F S) {i n:Nat} {o o':Ob} (ht:((A.set i .u).all (Sl.oth i))=true) (ha:A[i]?=some (.w i o)) (hx:e[i]?=some (some (.ref n))) (hn:F n=.ow i):Vs S0 (A.set i (.w i o')) e F (S.set n o'):=by
 have hl:=h.ow n i hn;refine ⟨h.kp.set hl.1 o',λk q hq=>?_,λk j q=>by rw [Hh];exact h.ow k j q,λk hk=>h.hi k (by rw [Hh] at hk;exact hk),λj b hb=>?_⟩
 ·have:n≠k:=λc=>by subst c;rw [hn] at hq;cases hq
  rw [Am this];exact h.fz k q hq
 ·by_cases c:i=j
  ·subst c
   rw [JE] at hb;rw [qX rfl] at hb;split at hb
   ·cases hb
    exact ⟨_,hx,n,rfl,hn,by rw [JE];rw [qX rfl,qX hl.2]⟩
   ·cases hb
  ·rw [Am c] at hb
   obtain ⟨x,h1,h2⟩:=h.sl j b hb;refine ⟨x,h1,?_⟩
   cases b with
   | u=>trivial
   | v d=>exact h2
   | z q=>exact h2
   | y q=>exact h2
   | q P=>exact h2
   | w k q=>
    obtain ⟨m,h3,h4,h5⟩:=h2;refine ⟨m,h3,h4,?_⟩
    have:n≠m:=λz=>by
     subst z;rw [hn] at h4;cases h4;exact jU ht (λz=>c z.symm) hb rfl
    rw [Am this];exact h5
theorem Vs.own (h:Vs S0 A e F S) (k:Keeps S S') {i n:Nat} {o:Ob} (hn:S.length<=n) (ho:S'[n]?=some o):∃F',Vs S0 (A.set i (.w i o)) (e.set i (some (.ref n))) F' S'/\Fle F F':=by
 have g:=h.grow k;have hnl:=De ho
 have fl:Fle F (λj=>if j=n then Cel.ow i else Pz F S S' j):=λj q hq=>by
  have:j≠n:=λc=>by subst c;exact zX (De (h.fz _ _ hq)) (Ic.mpr hn)
  show (if j=n then Cel.ow i else _)=_;rw [qY this];exact h.fle S' _ _ hq
 refine ⟨λj=>if j=n then .ow i else Pz F S S' j,(Vs.set (a:=.w i o) (x:=some (.ref n)) ⟨g.kp,λj q hq=>?_,λj q hq=>?_,λj hj=>?_,λj b hb=>?_⟩ i ⟨n,rfl,qX rfl,ho⟩),fl⟩
 ·split at hq
  ·cases hq
  ·exact g.fz j q hq
 ·split at hq
  ·rename_i c;subst c;exact ⟨Ax h.kp.1 hn,hnl⟩
  ·exact g.ow j q hq
 ·have:j≠n:=λc=>by subst c;exact zX hnl (Ic.mpr hj)
  show (if j=n then Cel.ow i else _)=_;rw [qY this];exact g.hi j hj
 ·obtain ⟨x,h1,h2⟩:=h.sl j b hb
  refine ⟨x,h1,Sl.mono h2 fl λm j q q1 q2=>?_⟩;have hm:=De q2
  have:m≠n:=λc=>by subst c;exact zX hm (Ic.mpr hn)
  refine ⟨?_,by rw [k.2 m hm];exact q2⟩;show (if m=n then Cel.ow i else _)=_;rw [qY this,IA hm];exact q1
abbrev Rk (α:Type):=α->Sto->D->Sto->Prop
def rV (enc:α->D):Rk α:=λv _ d _=>d=enc v
def rO (ob:α->Ob):Rk α:=λv _ d S=>∃n,d=.ref n/\S[n]?=some (ob v)
def rN (ob:α->Ob):Rk α:=λv S0 d S=>∃n,d=.ref n/\S0.length<=n/\S[n]?=some (ob v)
def VE (A:List Sl) (m:ME) (R:Rk α) (p:Option α):Prop:=∀v,p=some v->∀S0 e F S,Vs S0 A e F S->∃d S',m e S=.ok d S'/\Keeps S S'/\R v S d S'
def VB (A:List Sl) (t:MT) (p:Option Bool):Prop:=∀v,p=some v->∀S0 e F S,Vs S0 A e F S->∃S',t e S=.ok v S'/\Keeps S S'
def VL (A:List Sl) (ml:ML) (enc:α->D) (p:Option (List α)):Prop:=∀v,p=some v->∀S0 e F S,Vs S0 A e F S->∃S',ml e S=.ok (v.map enc) S'/\Keeps S S'
def VK (A:List Sl) (mi:MI) (enc:α->D) (p:Option (List α)):Prop:=∀v,p=some v->∀S0 e F S,Vs S0 A e F S->∃w S',mi e S=.ok w S'/\Keeps S S'/\∀S'',Keeps S' S''->w S''=some (v.map enc)
def VI (A:List Sl) (mi:MI) (enc:α->D) (p:Option (List α)):Prop:=∀v,p=some v->∀S0 e F S,Vs S0 A e F S->∃w S',mi e S=.ok w S'/\Keeps S S'/\∀F'' S'',Fle (Pz F S S') F''->(∀n o,F'' n=.fz o->S''[n]?=some o)->w S''=some (v.map enc)
theorem VI.k {mi:MI} {enc:α->D} {p:Option (List α)} (h:VI A mi enc p):VK A mi enc p:=λv hv S0 e F S hs=>by
 obtain ⟨w,S',h1,h2,h3⟩:=h v hv S0 e F S hs;have g:=hs.grow h2;exact ⟨w,S',h1,h2,λS'' k=>h3 _ S'' (g.fle S'') (g.grow k).fz⟩
def eT (enc:α->D) (l:List α):D:=.tup (l.map enc)
def eP (a:α->D) (b:β->D) (x:α×β):D:=.tup [a x.1,b x.2]
def eO (a:α->D):Option α->D
 | none=>.non
 | some x=>a x
def eF (l:List Int):D:=.fro (l.map D.int)
def oL (enc:α->D) (l:List α):Ob:=.lst (l.map enc)
theorem iT {m:ME} {R R':Rk α} {p:Option α} (h:VE A m R p) (i:∀v S d S',R v S d S'->R' v S d S'):VE A m R' p:=λv hv S0 e F S hs=>by
 obtain ⟨d,S',h1,h2,h3⟩:=h v hv S0 e F S hs;exact ⟨d,S',h1,h2,i _ _ _ _ h3⟩
theorem KG {m:ME} {ob:α->Ob} {p:Option α} (h:VE A m (rN ob) p):VE A m (rO ob) p:=iT h λv S d S' ⟨n,h1,_,h2⟩=>⟨n,h1,h2⟩
theorem Br {enc:α->D} {v:α} {i:Nat} (h:A[i]?=some (.v (enc v))):VE A (AC i) (rV enc) (some v):=λ_ hv S0 e F S hs=>by
 cases hv;obtain ⟨x,h1,h2⟩:=hs.sl i _ h;cases h2;exact ⟨_,S,by unfold AC;rw [h1],Keeps.refl S,rfl⟩
theorem Cu {ob:α->Ob} {v:α} {i:Nat} (h:A[i]?=some (.z (ob v))):VE A (AC i) (rO ob) (some v):=λ_ hv S0 e F S hs=>by
 cases hv;obtain ⟨x,h1,n,rfl,h2⟩:=hs.sl i _ h;exact ⟨_,S,by unfold AC;rw [h1],Keeps.refl S,n,rfl,hs.fz _ _ h2⟩
theorem WQ {ob:α->Ob} {v:α} {i:Nat} (h:A[i]?=some (.y (ob v))):VE A (AC i) (rO ob) (some v):=λ_ hv S0 e F S hs=>by
 cases hv;obtain ⟨x,h1,n,rfl,h2,_⟩:=hs.sl i _ h;exact ⟨_,S,by unfold AC;rw [h1],Keeps.refl S,n,rfl,hs.fz _ _ h2⟩
theorem OT {ob:α->Ob} {v:α} {i k:Nat} (h:A[i]?=some (.w k (ob v))):VE A (AC i) (rO ob) (some v):=λ_ hv S0 e F S hs=>by
 cases hv;obtain ⟨x,h1,n,rfl,h2,h3⟩:=hs.sl i _ h;exact ⟨_,S,by unfold AC;rw [h1],Keeps.refl S,n,rfl,h3⟩
theorem IM {enc:α->D} {v:α} {d:D} (h:d=enc v):VE A (mC d) (rV enc) (some v):=λ_ hv S0 e F S hs=>by
 cases hv;exact ⟨d,S,rfl,Keeps.refl S,h⟩
theorem BW {p:Option α} {q:α->Option β} {v:β} (h:p.bind q=some v):∃x,p=some x/\q x=some v:=Rg.mp h
theorem Nh {f:D->D->Sto->Res D} {a b:ME} {ea:α->D} {eb:β->D} {ec:γ->D} {pa:Option α} {pb:Option β} {g:α->β->Option γ} (ha:VE A a (rV ea) pa) (hb:VE A b (rV eb) pb)
  (hf:∀x y z S,g x y=some z->f (ea x) (eb y) S=.ok (ec z) S):VE A (m2 f a b) (rV ec) (pa.bind λx=>pb.bind λy=>g x y):=λv hv S0 e F S hs=>by
 obtain ⟨x,h1,hv⟩:=BW hv;obtain ⟨y,h2,h3⟩:=BW hv;obtain ⟨d1,S1,q1,k1,rfl⟩:=ha x h1 S0 e F S hs;obtain ⟨d2,S2,q2,k2,rfl⟩:=hb y h2 S0 e _ S1 (hs.grow k1);exact ⟨_,S2,A2 q1 q2 (hf x y v S2 h3),k1.trans k2,rfl⟩
theorem iO {f:D->D->Sto->Res D} {a b:ME} {ea:α->D} {ob:β->Ob} {ec:γ->D} {pa:Option α} {pb:Option β} {g:α->β->Option γ} (ha:VE A a (rV ea) pa) (hb:VE A b (rO ob) pb)
  (hf:∀x y z S (n:Nat),S[n]?=some (ob y)->g x y=some z->f (ea x) (.ref n) S=.ok (ec z) S):VE A (m2 f a b) (rV ec) (pa.bind λx=>pb.bind λy=>g x y):=λv hv S0 e F S hs=>by
 obtain ⟨x,h1,hv⟩:=BW hv;obtain ⟨y,h2,h3⟩:=BW hv;obtain ⟨d1,S1,q1,k1,rfl⟩:=ha x h1 S0 e F S hs;obtain ⟨d2,S2,q2,k2,n,rfl,hn⟩:=hb y h2 S0 e _ S1 (hs.grow k1);exact ⟨_,S2,A2 q1 q2 (hf x y v S2 n hn h3),k1.trans k2,rfl⟩
theorem Ze {f:D->D->Sto->Res D} {a b:ME} {ob:α->Ob} {eb:β->D} {ec:γ->D} {pa:Option α} {pb:Option β} {g:α->β->Option γ} (ha:VE A a (rO ob) pa) (hb:VE A b (rV eb) pb)
  (hf:∀x y z S (n:Nat),S[n]?=some (ob x)->g x y=some z->f (.ref n) (eb y) S=.ok (ec z) S):VE A (m2 f a b) (rV ec) (pa.bind λx=>pb.bind λy=>g x y):=λv hv S0 e F S hs=>by
 obtain ⟨x,h1,hv⟩:=BW hv;obtain ⟨y,h2,h3⟩:=BW hv;obtain ⟨d1,S1,q1,k1,n,rfl,hn⟩:=ha x h1 S0 e F S hs;obtain ⟨d2,S2,q2,k2,rfl⟩:=hb y h2 S0 e _ S1 (hs.grow k1);exact ⟨_,S2,A2 q1 q2 (hf x y v S2 n (k2.at hn) h3),k1.trans k2,rfl⟩
theorem KI {m:ME} {p:Option Bool} (h:VE A m (rV D.bl) p):VB A (mB m) p:=λv hv S0 e F S hs=>by
 obtain ⟨d,S',h1,h2,rfl⟩:=h v hv S0 e F S hs;exact ⟨S',En h1,h2⟩
theorem iV {m:ME} {p:Option Bool} (h:VE A m (rV D.bl) p):VB A (Pc m) p:=λv hv S0 e F S hs=>by
 obtain ⟨d,S',h1,h2,rfl⟩:=h v hv S0 e F S hs;refine ⟨S',?_,h2⟩;unfold Pc;rw [h1];rfl
theorem OU:VB A Fn (some true):=λv hv S0 e F S hs=>by cases hv;exact ⟨S,rfl,Keeps.refl S⟩
theorem M5 {t:MT} {p:Option Bool} (h:VB A t p):VB A (Lk t) (p.bind λb=>some (!b)):=λv hv S0 e F S hs=>by
 obtain ⟨x,h1,h2⟩:=BW hv;cases h2;obtain ⟨S',h3,h4⟩:=h x h1 S0 e F S hs;exact ⟨S',NK h3,h4⟩
theorem Ni {t u:MT} {p q:Option Bool} (h:VB A t p) (hu:VB A u q):VB A (mOr t u) (p.bind λb=>if b=true then some true else q):=λv hv S0 e F S hs=>by
 obtain ⟨x,h1,h2⟩:=BW hv;obtain ⟨S1,h3,h4⟩:=h x h1 S0 e F S hs
 cases x with
 | false=>
  obtain ⟨S2,h5,h6⟩:=hu v h2 S0 e _ S1 (hs.grow h4);exact ⟨S2,(Vb h3).trans h5,h4.trans h6⟩
 | true=>cases h2;exact ⟨S1,Vc h3,h4⟩
theorem Wc {enc:α->D}:∀(v:α) (S S1:Sto) (d:D) (S':Sto),S.length<=S1.length->rV enc v S1 d S'->rV enc v S d S':=λ_ _ _ _ _ _ h=>h
theorem To {ob:α->Ob}:∀(v:α) (S S1:Sto) (d:D) (S':Sto),S.length<=S1.length->rN ob v S1 d S'->rN ob v S d S':=λ_ _ _ _ _ l ⟨n,h1,h2,h3⟩=>⟨n,h1,Ax l h2,h3⟩
inductive Fw (ρ σ:Type) where
 | rt (r:ρ) | nx (s:σ) | bk (s:σ) | ct (s:σ)
def VG (S0:Sto) (F:Fz) (S':Sto) (R:Rk ρ) (B:σ->List Sl) (g:Fl):Fw ρ σ->Prop
 | .nx s=>∃e' F',g=.nx e'/\Vs S0 (B s) e' F' S'/\Fle F F'
 | .ct s=>∃e' F',g=.ct e'/\Vs S0 (B s) e' F' S'/\Fle F F'
 | .bk s=>∃e' F',g=.bk e'/\Vs S0 (B s) e' F' S'/\Fle F F'
 | .rt r=>∃d,g=.rt d/\R r S0 d S'/\Keeps S0 S'
def VS (A:List Sl) (b:MS) (R:Rk ρ) (p:Option (Fw ρ σ)) (B:σ->List Sl):Prop:=∀f,p=some f->∀S0 e F S,Vs S0 A e F S->∃g S',b e S=.ok g S'/\VG S0 F S' R B g f
def GY (p:Option (Fw ρ σ)) (q:σ->Option (Fw ρ τ)):Option (Fw ρ τ):=match p with
 | some (.nx s)=>q s
 | some (.rt r)=>some (.rt r)
 | _=>none
theorem VG.up {S0:Sto} {F F1:Fz} {S':Sto} {R:Rk ρ} {B:σ->List Sl} {g:Fl} {f:Fw ρ σ} (l:Fle F F1) (h:VG S0 F1 S' R B g f):VG S0 F S' R B g f:=by
 cases f with
 | rt r=>exact h
 | nx s=>obtain ⟨e',F',h1,h2,h3⟩:=h;exact ⟨e',F',h1,h2,l.trans h3⟩
 | bk s=>obtain ⟨e',F',h1,h2,h3⟩:=h;exact ⟨e',F',h1,h2,l.trans h3⟩
 | ct s=>obtain ⟨e',F',h1,h2,h3⟩:=h;exact ⟨e',F',h1,h2,l.trans h3⟩
theorem Gf {a b:MS} {R:Rk ρ} {p:Option (Fw ρ σ)} {q:σ->Option (Fw ρ τ)} {B:σ->List Sl} {C:τ->List Sl} (ha:VS A a R p B) (hb:∀s,VS (B s) b R (q s) C):VS A (BM a b) R (GY p q) C:=λf hf S0 e F S hs=>by
 cases p with
 | none=>cases hf
 | some w=>
  obtain ⟨g,S1,h1,h2⟩:=ha _ rfl S0 e F S hs
  cases w with
  | nx s=>
   obtain ⟨e1,F1,rfl,h2,h3⟩:=h2;obtain ⟨g2,S2,h4,h5⟩:=hb s f hf S0 e1 F1 S1 h2;exact ⟨g2,S2,(At h1).trans h4,h5.up h3⟩
  | rt r=>
   cases hf;obtain ⟨d,rfl,h2,h3⟩:=h2;exact ⟨_,S1,PD h1,d,rfl,h2,h3⟩
  | bk s=>cases hf
  | ct s=>cases hf
theorem Qw {R:Rk ρ} {B:σ->List Sl} {s:σ} (w:Wk A (B s)):VS A sNx R (some (.nx s)) B:=λf hf S0 e F S hs=>by
 cases hf;exact ⟨_,S,rfl,e,F,rfl,hs.weak w,Fle.refl F⟩
def X8 (g:σ->τ) (p:Option (Fw ρ σ)):Option (Fw ρ τ):=match p with
 | some (.nx s)=>some (.nx (g s))
 | some (.rt r)=>some (.rt r)
 | some (.bk s)=>some (.bk (g s))
 | some (.ct s)=>some (.ct (g s))
 | none=>none
theorem Uz {b:MS} {R:Rk ρ} {p:Option (Fw ρ σ)} {g:σ->τ} {B:σ->List Sl} {C:τ->List Sl} (h:VS A b R p B) (w:∀s,Wk (B s) (C (g s))):VS A b R (X8 g p) C:=λf hf S0 e F S hs=>by
 cases p with
 | none=>cases hf
 | some x=>
  obtain ⟨g,S1,h1,h2⟩:=h _ rfl S0 e F S hs
  cases x with
  | nx s=>cases hf;obtain ⟨e1,F1,rfl,h2,h3⟩:=h2;exact ⟨_,S1,h1,e1,F1,rfl,h2.weak (w s),h3⟩
  | rt r=>cases hf;exact ⟨_,S1,h1,h2⟩
  | bk s=>cases hf;obtain ⟨e1,F1,rfl,h2,h3⟩:=h2;exact ⟨_,S1,h1,e1,F1,rfl,h2.weak (w s),h3⟩
  | ct s=>cases hf;obtain ⟨e1,F1,rfl,h2,h3⟩:=h2;exact ⟨_,S1,h1,e1,F1,rfl,h2.weak (w s),h3⟩
theorem Rr {m:ME} {enc:α->D} {R:Rk ρ} {p:Option α} {i:Nat} (h:VE A m (rV enc) p):VS A (BZ i m) R (p.bind λv=>some (.nx v)) (λv=>A.set i (.v (enc v))):=λf hf S0 e F S hs=>by
 obtain ⟨v,h1,h2⟩:=BW hf;cases h2;obtain ⟨d,S',h3,h4,rfl⟩:=h v h1 S0 e F S hs;exact ⟨_,S',Cb h3,_,_,rfl,(hs.grow h4).set i rfl,hs.fle S'⟩
theorem cp {m:ME} {ob:α->Ob} {R:Rk ρ} {p:Option α} {i:Nat} (h:VE A m (rN ob) p):VS A (BZ i m) R (p.bind λv=>some (.nx v)) (λv=>A.set i (.y (ob v))):=λf hf S0 e F S hs=>by
 obtain ⟨v,h1,h2⟩:=BW hf;cases h2;obtain ⟨d,S',h3,h4,n,rfl,h5,h6⟩:=h v h1 S0 e F S hs;exact ⟨_,S',Cb h3,_,_,rfl,(hs.grow h4).set (a:=.y (ob v)) i ⟨n,rfl,UG h5 h6,Ax hs.kp.1 h5⟩,hs.fle S'⟩
theorem cq {m:ME} {ob:α->Ob} {R:Rk ρ} {p:Option α} {i:Nat} (h:VE A m (rN ob) p):VS A (BZ i m) R (p.bind λv=>some (.nx v)) (λv=>A.set i (.w i (ob v))):=λf hf S0 e F S hs=>by
 obtain ⟨v,h1,h2⟩:=BW hf;cases h2;obtain ⟨d,S',h3,h4,n,rfl,h5,h6⟩:=h v h1 S0 e F S hs;obtain ⟨F',h7,h8⟩:=hs.own h4 (i:=i) h5 h6;exact ⟨_,S',Cb h3,_,F',rfl,h7,h8⟩
theorem Ig {m:ME} {enc:ρ->D} {p:Option ρ} {B:σ->List Sl} (h:VE A m (rV enc) p):VS A (DM m) (rV enc) (p.bind λv=>some (.rt v)) B:=λf hf S0 e F S hs=>by
 obtain ⟨v,h1,h2⟩:=BW hf;cases h2;obtain ⟨d,S',h3,h4,rfl⟩:=h v h1 S0 e F S hs;exact ⟨_,S',FV h3,_,rfl,rfl,hs.kp.trans h4⟩
theorem cr {m:ME} {ob:ρ->Ob} {p:Option ρ} {B:σ->List Sl} (h:VE A m (rN ob) p):VS A (DM m) (rN ob) (p.bind λv=>some (.rt v)) B:=λf hf S0 e F S hs=>by
 obtain ⟨v,h1,h2⟩:=BW hf;cases h2;obtain ⟨d,S',h3,h4,n,rfl,h5,h6⟩:=h v h1 S0 e F S hs;exact ⟨_,S',FV h3,_,rfl,⟨n,rfl,Ax hs.kp.1 h5,h6⟩,hs.kp.trans h4⟩
theorem Qx {t:MT} {a b:MS} {R:Rk ρ} {pt:Option Bool} {p q:Option (Fw ρ σ)} {B:σ->List Sl} (ht:VB A t pt) (ha:VS A a R p B) (hb:VS A b R q B):VS A (sIf t a b) R (pt.bind λc=>if c=true then p else q) B:=λf hf S0 e F S hs=>by
 obtain ⟨c,h1,h2⟩:=BW hf;obtain ⟨S1,h3,h4⟩:=ht c h1 S0 e F S hs
 cases c with
 | true=>
  obtain ⟨g,S2,h5,h6⟩:=ha f h2 S0 e _ S1 (hs.grow h4);exact ⟨g,S2,(D0 h3).trans h5,h6.up (hs.fle S1)⟩
 | false=>
  obtain ⟨g,S2,h5,h6⟩:=hb f h2 S0 e _ S1 (hs.grow h4);exact ⟨g,S2,(D0 h3).trans h5,h6.up (hs.fle S1)⟩
def UF (l k:List α):Option (List α):=if l.length+k.length<=1000000 then some (l++k) else none
theorem lw {n:Nat} (h:n < 1000000):n < sizeLine:=Ae h (by decide)
theorem jj {n:Nat} (h:n<=1000000):n<=sizeLine:=Ax h (by decide)
theorem iH {m:ME} {enc:α->D} {R:Rk ρ} {p:Option (List α)} {i:Nat} {l:List α} (hi:A[i]?=some (.w i (oL enc l))) (h:VE A m (rN (oL enc)) p) (ht:((A.set i .u).all (Sl.oth i))=true) :
  VS A (CD (Mb (AC i) m)) R (p.bind λv=>(UF l v).bind λl'=>some (.nx l')) (λl'=>A.set i (.w i (oL enc l'))):=λf hf S0 e F S hs=>by
 obtain ⟨v,h1,h2⟩:=BW hf;obtain ⟨l',h2,h0⟩:=BW h2;cases h0;unfold UF at h2;split at h2
 ·rename_i hl
  cases h2;obtain ⟨x,g1,n,rfl,g2,g3⟩:=hs.sl i _ hi;obtain ⟨d,S',h3,h4,k,rfl,h5,h6⟩:=h v h1 S0 e F S hs;have hg:=hs.grow h4;have hx:=YY (mo:=AC i) (e:=e) (S:=S) (S1:=S) (n:=n) (by unfold AC;rw [g1]) g3 h3 (h4.at g3) h6 (λc=>by subst c;exact zX (De g3) (Ic.mpr h5)) (by rw [AH,AH];exact jj hl);rw [<-BC] at hx;exact ⟨_,_,C5 hx,e,_,rfl,hg.put ht hi g1 (by rw [IA (De g3)];exact g2),hs.fle S'⟩
 ·cases h2
def VT (g:MG) (enc:α->D) (t:α->List Sl->List Sl):Prop:=∀x S0 A e F S,Vs S0 A e F S->∃e',g (enc x) e S=.ok e' S/\Vs S0 (t x A) e' F S
theorem cn {enc:α->D} {i:Nat}:VT (tgN i) enc (λx A=>A.set i (.v (enc x))):=λx S0 A e F S hs=>⟨_,rfl,hs.set (a:=.v (enc x)) i rfl⟩
theorem cm {a:α->D} {b:β->D} {i j:Nat}:VT (Fx 2 (B7 (tgN i) (B7 (tgN j) GX))) (eP a b) (λx A=>(A.set i (.v (a x.1))).set j (.v (b x.2))):=λx S0 A e F S hs=>⟨_,rfl,(hs.set (a:=.v (a x.1)) i rfl).set (a:=.v (b x.2)) j rfl⟩
def J5:List α->σ->(σ->α->Option (Fw ρ σ))->Option (Fw ρ σ)
 | [],s,_=>some (.nx s)
 | x :: l,s,q=>match q s x with
  | some (.nx s')=>J5 l s' q
  | some (.ct s')=>J5 l s' q
  | some (.bk s')=>some (.nx s')
  | some (.rt r)=>some (.rt r)
  | none=>none
theorem cw {enc:α->D} {g:MG} {t:α->List Sl->List Sl} {b:MS} {R:Rk ρ} {q:σ->α->Option (Fw ρ σ)} {B:σ->List Sl} (hg:VT g enc t) (hb:∀s x,VS (t x (B s)) b R (q s x) B) {w:Hf} {S0:Sto} {F1:Fz} {full:List α}
  (hw:∀F'' S'',Fle F1 F''->(∀n o,F'' n=.fz o->S''[n]?=some o)->w S''=some (full.map enc)):∀(l:List α) (k:Nat),full.drop k=l->∀(s:σ) (f:Fw ρ σ),J5 l s q=some f->∀e F S,Vs S0 (B s) e F S->Fle F1 F->∃h S',JU w g b (l.length) k e S=.ok h S'/\VG S0 F1 S' R B h f:=by
 intro l
 induction l with
 | nil=>
  intro k hk s f hf e F S hs hF;cases hf
  have:full.length<=k:=by
   have:=congrArg Fv hk;rw [D8,Hi] at this
   lia
  refine ⟨_,S,?_,e,F,rfl,hs,hF⟩;unfold JU;rw [hw F S hF hs.fz];dsimp only;rw [BX (by rw [AH];exact this)]
 | cons x l ih=>
  intro k hk s f hf e F S hs hF
  have hx:full[k]?=some x:=by
   have:=congrArg (λz=>z[0]?) hk;rw [Ft] at this;simpa using this
  have hk':full.drop (k+1)=l:=by
   have e1:full.drop (k+1)=(full.drop k).drop 1:=by rw [Qu]
   exact e1.trans (congrArg (List.drop 1) hk)
  obtain ⟨e1,g1,g2⟩:=hg x S0 _ e F S hs
  have run:∀h S',b e1 S=.ok h S'->JU w g b ((x :: l).length) k e S=(match h with
    | .nx e2=>JU w g b l.length (k+1) e2 S'
    | .ct e2=>JU w g b l.length (k+1) e2 S'
    | .bk e2=>.ok (.nx e2) S'
    | .rt d=>.ok (.rt d) S'
    | .ex c e2=>.ok (.ex c e2) S'):=λh S' hb'=>by
   show JU w g b (l.length+1) k e S=_
   conv=>lhs;unfold JU
   rw [hw F S hF hs.fz];dsimp only;rw [AX,hx];dsimp only [kZ];rw [g1];dsimp only [Res.bind];rw [hb']
   all_goals (cases h <;> rfl)
  unfold J5 at hf;split at hf
  ·rename_i s' hq
   obtain ⟨h,S1,h1,e2,F2,rfl,h2,h3⟩:=hb s x _ hq S0 e1 F S g2;rw [run _ _ h1];exact ih (k+1) hk' s' f hf e2 F2 S1 h2 (hF.trans h3)
  ·rename_i s' hq
   obtain ⟨h,S1,h1,e2,F2,rfl,h2,h3⟩:=hb s x _ hq S0 e1 F S g2;rw [run _ _ h1];exact ih (k+1) hk' s' f hf e2 F2 S1 h2 (hF.trans h3)
  ·rename_i s' hq
   cases hf;obtain ⟨h,S1,h1,e2,F2,rfl,h2,h3⟩:=hb s x _ hq S0 e1 F S g2;rw [run _ _ h1];exact ⟨_,S1,rfl,e2,F2,rfl,h2,hF.trans h3⟩
  ·rename_i r hq
   cases hf;obtain ⟨h,S1,h1,d,rfl,h2,h3⟩:=hb s x _ hq S0 e1 F S g2;rw [run _ _ h1];exact ⟨_,S1,rfl,d,rfl,h2,h3⟩
  ·cases hf
theorem ZV {enc:α->D} {mi:MI} {g:MG} {t:α->List Sl->List Sl} {b:MS} {R:Rk ρ} {p:Option (List α)} {q:σ->α->Option (Fw ρ σ)} {B:σ->List Sl} {s0:σ} (hi:VI A mi enc p) (hg:VT g enc t) (w0:Wk A (B s0)) (hb:∀s x,VS (t x (B s)) b R (q s x) B) :
  VS A (HF mi g b) R (p.bind λl=>J5 l s0 q) B:=λf hf S0 e F S hs=>by
 obtain ⟨l,h1,h2⟩:=BW hf;obtain ⟨w,S1,h3,h4,h5⟩:=hi l h1 S0 e F S hs;have hg1:=hs.grow h4
 have hl:Cj w S1=l.length:=by unfold Cj;rw [h5 _ S1 (Fle.refl _) hg1.fz];exact AH _
 obtain ⟨h,S2,h6,h7⟩:=cw hg hb h5 l 0 rfl s0 f h2 e _ S1 (hg1.weak w0) (Fle.refl _);refine ⟨h,S2,?_,h7.up (hs.fle S1)⟩;rw [FY h3,hl];exact h6
def P9 (c:α->Option Bool) (m:α->Option β):List α->Option (List β)
 | []=>some []
 | x :: l=>(c x).bind λb=>if b=true then (m x).bind λy=>(P9 c m l).bind λys=>some (y :: ys) else P9 c m l
def HU (l:List α) (c:α->Option Bool) (m:α->Option β):Option (List β):=if l.length<=1000000 then P9 c m l else none
theorem ZX {enc:α->D} {eb:β->D} {g:MG} {P:List (Option D)->Prop} {T:α->List Sl} {c:MT} {m:ME} {pc:α->Option Bool} {pm:α->Option β}
  (hg:∀x S0 e F S pre,P pre->Vs S0 A e F S->∃pre',g (enc x) (pre++e) S=.ok (pre'++e) S/\P pre'/\Vs S0 (T x) (pre'++e) F S)
  (hc:∀x,VB (T x) c (pc x)) (hm:∀x,VE (T x) m (rV eb) (pm x)) {w:Hf} {S0:Sto} {e:Lo} {full:List α} {S1:Sto} (hf:full.length<=1000000) (hw:∀S'',Keeps S1 S''->w S''=some (full.map enc)) :
  ∀(l:List α) (k:Nat),full.drop k=l->∀(r:List β),P9 pc pm l=some r->∀pre F S acc,P pre->Vs S0 A e F S->Keeps S1 S->acc.length<=k->∃S',E5 w g c m l.length k (pre++e) S acc=.ok (acc++r.map eb) S'/\Keeps S S':=by
 intro l
 induction l with
 | nil=>
  intro k hk r hr pre F S acc hp hs hk1 ha;cases hr
  have:full.length<=k:=by
   have:=congrArg Fv hk;rw [D8,Hi] at this
   lia
  refine ⟨S,?_,Keeps.refl S⟩;unfold E5;rw [hw S hk1];dsimp only;rw [BX (by rw [AH];exact this),KA,BJ]
 | cons x l ih=>
  intro k hk r hr pre F S acc hp hs hk1 ha
  have hx:full[k]?=some x:=by
   have:=congrArg (λz=>z[0]?) hk;rw [Ft] at this;simpa using this
  have hk':full.drop (k+1)=l:=by
   have e1:full.drop (k+1)=(full.drop k).drop 1:=by rw [Qu]
   exact e1.trans (congrArg (List.drop 1) hk)
  have hkl:k < full.length:=(AF.mp hx).1;obtain ⟨pre',g1,g2,g3⟩:=hg x S0 e F S pre hp hs;unfold P9 at hr;obtain ⟨b,h1,h2⟩:=BW hr;obtain ⟨S2,h3,h4⟩:=hc x b h1 S0 _ F S g3;have hs2:=hs.grow h4
  show ∃S',E5 w g c m (l.length+1) k (pre++e) S acc=_/\_
  conv=>arg 1;ext S';arg 1;lhs;unfold E5
  rw [hw S hk1];dsimp only;rw [AX,hx];dsimp only [kZ];rw [qX (BD ha (lw (Ae hkl hf))),g1];dsimp only [okR,Res.bind];rw [h3];dsimp only [okR,Res.bind]
  cases b with
  | true=>
   rw [qX rfl] at h2 ⊢;obtain ⟨y,h5,h6⟩:=BW h2;obtain ⟨ys,h6',h7⟩:=BW h6;cases h7;obtain ⟨d,S3,h8,h9,rfl⟩:=hm x y h5 S0 _ _ S2 (g3.grow h4);rw [h8];obtain ⟨S4,q1,q2⟩:=ih (k+1) hk' ys h6' pre' _ S3 (acc++[eb y]) g2 (hs2.grow h9) (hk1.trans (h4.trans h9)) (by rw [Ao,DY];lia);refine ⟨S4,?_,(h4.trans h9).trans q2⟩;show E5 w g c m l.length (k+1) (pre'++e) S3 (acc++[eb y])=_;rw [q1,BE];rfl
  | false=>
   rw [qY AR] at h2 ⊢;obtain ⟨S4,q1,q2⟩:=ih (k+1) hk' r h2 pre' _ S2 acc g2 hs2 (hk1.trans h4) (by lia);exact ⟨S4,q1,h4.trans q2⟩
theorem WP {enc:α->D} {eb:β->D} {n:Nat} {mi:MI} {g:MG} {P:List (Option D)->Prop} {T:α->List Sl} {c:MT} {m:ME} {p:Option (List α)} {pc:α->Option Bool} {pm:α->Option β} (hi:VK A mi enc p) (h0:P (BU n none))
  (hg:∀x S0 e F S pre,P pre->Vs S0 A e F S->∃pre',g (enc x) (pre++e) S=.ok (pre'++e) S/\P pre'/\Vs S0 (T x) (pre'++e) F S)
  (hc:∀x,VB (T x) c (pc x)) (hm:∀x,VE (T x) m (rV eb) (pm x)):VL A (EU n mi g c m) eb (p.bind λl=>HU l pc pm):=λr hr S0 e F S hs=>by
 obtain ⟨l,h1,h2⟩:=BW hr;obtain ⟨w,S1,h3,h4,h5⟩:=hi l h1 S0 e F S hs;unfold HU at h2;split at h2
 ·rename_i hl
  have hs1:=hs.grow h4;obtain ⟨S2,h6,h7⟩:=ZX hg hc hm hl h5 l 0 rfl r h2 _ _ S1 [] h0 hs1 (Keeps.refl _) (AL _);refine ⟨S2,?_,h4.trans h7⟩;rw [Jp h3,show Cj w S1=l.length by unfold Cj;rw [h5 S1 (Keeps.refl _)];exact AH _];exact h6
 ·cases h2
theorem JH {enc:α->D} {eb:β->D} {mi:MI} {c:MT} {m:ME} {p:Option (List α)} {pc:α->Option Bool} {pm:α->Option β} (hi:VK A mi enc p) (hc:∀x,VB (.v (enc x) :: A) c (pc x)) (hm:∀x,VE (.v (enc x) :: A) m (rV eb) (pm x)) :
  VL A (EU 1 mi (tgN 0) c m) eb (p.bind λl=>HU l pc pm):=
 WP (P:=λpre=>∃z,pre=[z]) hi ⟨none,rfl⟩ (λx S0 e F S pre hp hs=>by
  obtain ⟨z,rfl⟩:=hp
  exact ⟨[some (enc x)],rfl,⟨_,rfl⟩,hs.cons (a:=.v (enc x)) rfl⟩) hc hm
theorem ZY {a:α->D} {b:γ->D} {eb:β->D} {mi:MI} {c:MT} {m:ME} {p:Option (List (α×γ))} {pc:α×γ->Option Bool} {pm:α×γ->Option β} (hi:VK A mi (eP a b) p) (hc:∀x:α×γ,VB (.v (a x.1) :: .v (b x.2) :: A) c (pc x)) (hm:∀x:α×γ,VE (.v (a x.1) :: .v (b x.2) :: A) m (rV eb) (pm x)) :
  VL A (EU 2 mi (Fx 2 (B7 (tgN 0) (B7 (tgN 1) GX))) c m) eb (p.bind λl=>HU l pc pm):=
 WP (P:=λpre=>∃z y,pre=[z,y]) hi ⟨none,none,rfl⟩ (λx S0 e F S pre hp hs=>by
  obtain ⟨z,y,rfl⟩:=hp
  exact ⟨[some (a x.1),some (b x.2)],rfl,⟨_,_,rfl⟩,(hs.cons (a:=.v (b x.2)) rfl).cons (a:=.v (a x.1)) rfl⟩) hc hm
theorem KH {ml:ML} {enc:α->D} {p:Option (List α)} (h:VL A ml enc p):VE A (DB ml) (rN (oL enc)) p:=λv hv S0 e F S hs=>by
 obtain ⟨S',h1,h2⟩:=h v hv S0 e F S hs;exact ⟨_,_,Ht h1,h2.trans (Keeps.app _ _),_,rfl,h2.1,Bn _ _⟩
inductive Ar where
 | v (d:D) | z (o:Ob) | q (P:(Nat->Option Ob)->D->Prop)
def Ar.ok (S:Sto):Ar->D->Prop
 | .v d,x=>x=d
 | .z o,x=>∃n,x=.ref n/\S[n]?=some o
 | .q P,x=>∀L:Nat->Option Ob,(∀n o,S[n]?=some o->L n=some o)->P L x
def Ar.sl:Ar->Sl
 | .v d=>.v d
 | .z o=>.z o
 | .q P=>.q P
def LU (S:Sto):List Ar->List D->Prop
 | [],[]=>True
 | a :: as,d :: ds=>a.ok S d/\LU S as ds
 | _,_=>False
theorem LU.len {S:Sto}:∀ {as:List Ar} {ds:List D},LU S as ds->ds.length=as.length
 | [],[],_=>rfl
 | _ :: as,_ :: ds,h=>by rw [A6,A6,LU.len h.2]
 | [],_ :: _,h=>h.elim
 | _ :: _,[],h=>h.elim
theorem LU.at {S:Sto}:∀ {as:List Ar} {ds:List D},LU S as ds->∀(i:Nat) (a:Ar),as[i]?=some a->∃d,ds[i]?=some d/\a.ok S d
 | [],[],_,i,a,h=>by simp at h
 | b :: as,d :: ds,h,0,a,q=>by cases q;exact ⟨d,rfl,h.1⟩
 | b :: as,d :: ds,h,i+1,a,q=>LU.at h.2 i a q
 | [],_ :: _,h,_,_,_=>h.elim
 | _ :: _,[],h,_,_,_=>h.elim
def VF (f:List D->Sto->Res D) (as:List Ar) (R:Rk α) (p:Option α):Prop:=∀v,p=some v->∀S ds,LU S as ds->∃d S',f ds S=.ok d S'/\Keeps S S'/\R v S d S'
def VA (A:List Sl) (ml:ML) (p:Option γ) (ar:γ->List Ar):Prop:=∀v,p=some v->∀S0 e F S,Vs S0 A e F S->∃ds S',ml e S=.ok ds S'/\Keeps S S'/\LU S' (ar v) ds
theorem Jf:VA A As (some ()) (λ_=>[]):=λv hv S0 e F S hs=>⟨[],S,rfl,Keeps.refl S,trivial⟩
theorem U7 {m:ME} {ml:ML} {enc:α->D} {p:Option α} {q:Option γ} {ar:γ->List Ar} (h:VE A m (rV enc) p) (hl:VA A ml q ar):VA A (AJ m ml) (p.bind λx=>q.bind λy=>some (x,y)) (λz=>.v (enc z.1) :: ar z.2):=λv hv S0 e F S hs=>by
 obtain ⟨x,h1,h2⟩:=BW hv;obtain ⟨y,h2',h3⟩:=BW h2;cases h3;obtain ⟨d,S1,h4,h5,rfl⟩:=h x h1 S0 e F S hs;obtain ⟨ds,S2,h6,h7,h8⟩:=hl y h2' S0 e _ S1 (hs.grow h5);exact ⟨_,S2,Bo h4 h6,h5.trans h7,rfl,h8⟩
theorem TN {m:ME} {ml:ML} {ob:α->Ob} {p:Option α} {q:Option γ} {ar:γ->List Ar} (h:VE A m (rO ob) p) (hl:VA A ml q ar):VA A (AJ m ml) (p.bind λx=>q.bind λy=>some (x,y)) (λz=>.z (ob z.1) :: ar z.2):=λv hv S0 e F S hs=>by
 obtain ⟨x,h1,h2⟩:=BW hv;obtain ⟨y,h2',h3⟩:=BW h2;cases h3;obtain ⟨d,S1,h4,h5,n,rfl,h0⟩:=h x h1 S0 e F S hs;obtain ⟨ds,S2,h6,h7,h8⟩:=hl y h2' S0 e _ S1 (hs.grow h5);exact ⟨_,S2,Bo h4 h6,h5.trans h7,⟨n,rfl,h7.at h0⟩,h8⟩
theorem HX {f:List D->Sto->Res D} {n:Nat} {ml:ML} {p:Option γ} {ar:γ->List Ar} {R:Rk α} {q:γ->Option α} (ha:VA A ml p ar) (hf:∀z,VF f (ar z) R (q z)) (hn:∀z,(ar z).length=n) (hR:∀v S S1 d S',S.length<=S1.length->R v S1 d S'->R v S d S'):VE A (BB n f ml) R (p.bind q):=λv hv S0 e F S hs=>by
 obtain ⟨z,h1,h2⟩:=BW hv;obtain ⟨ds,S1,h3,h4,h5⟩:=ha z h1 S0 e F S hs;obtain ⟨d,S2,h6,h7,h8⟩:=hf z v h2 S1 ds h5;exact ⟨d,S2,(Bl h3 (h5.len.trans (hn z))).trans h6,h4.trans h7,hR _ _ _ _ _ h4.1 h8⟩
def RV (S:Sto):Fz:=λn=>match S[n]? with
 | some o=>.fz o
 | none=>.no
theorem Vs.start {as:List Ar} {ds:List D} {n:Nat} (h:LU S as ds):Vs S (as.map Ar.sl++BU (n - as.length) .u) (DF n ds) (RV S) S:=by
 refine ⟨Keeps.refl S,λn o q=>?_,λn i q=>?_,λn hn=>by unfold RV;rw [BX hn],λi a ha=>?_⟩
 ·unfold RV at q
  split at q
  ·rename_i o' ho;cases q;exact ho
  ·cases q
 ·unfold RV at q
  split at q <;> cases q
 ·unfold DF
  by_cases c:i < as.length
  ·rw [Ac (by rw [AH];exact c),AX] at ha
   rw [Ac (by rw [AH,h.len];exact c),AX]
   cases hq:as[i]? with
   | none=>rw [hq] at ha;cases ha
   | some b=>
    rw [hq] at ha;cases ha;obtain ⟨d,h1,h2⟩:=h.at i b hq;refine ⟨some d,by rw [h1];rfl,?_⟩
    cases b with
    | v x=>exact congrArg some h2
    | z o=>obtain ⟨m,h3,h4⟩:=h2;exact ⟨m,congrArg some h3,by unfold RV;rw [h4]⟩
    | q P=>exact ⟨d,rfl,λL hL=>h2 L λn o q=>hL n o (by unfold RV;rw [q])⟩
  ·rw [A9 (by rw [AH];lia)] at ha
   rw [AH,DA] at ha;split at ha
   ·rename_i hlt
    cases ha;refine ⟨none,?_,trivial⟩;rw [A9 (by rw [AH,h.len];lia),AH,h.len,DA,qX hlt]
   ·cases ha
def Qe (p:Option (Fw ρ σ)):Option ρ:=match p with
 | some (.rt r)=>some r
 | _=>none
end
section
variable {S0 S S':Sto} {A B:List Sl} {e:Lo} {F:Fz} {α β γ δ ρ σ τ:Type}
section
variable {a b c:ME} {pa pb pc:Option Int}
theorem U6 (ha:VE A a (rV D.int) pa) (hb:VE A b (rV D.int) pb):VE A (m2 Do a b) (rV D.int) (pa.bind λx=>pb.bind λy=>some (x+y)):=Nh ha hb λx y z S h=>by cases h;rfl
theorem iM (ha:VE A a (rV D.int) pa) (hb:VE A b (rV D.int) pb):VE A (m2 Zr a b) (rV D.int) (pa.bind λx=>pb.bind λy=>some (x - y)):=Nh ha hb λx y z S h=>by cases h;rfl
theorem Zc {k:Int} (hk:(decide (0 < k)&&decide (k<=1000000))=true) (ha:VE A a (rV D.int) pa):VE A (m2 Fk a (mC (.int k))) (rV D.int) (pa.bind λx=>some (x / k)):=λv hv S0 e F S hs=>by
 obtain ⟨x,h1,h2⟩:=BW hv;cases h2;obtain ⟨d,S',h3,h4,rfl⟩:=ha x h1 S0 e F S hs;have hk':=D9 _ _▸hk;exact ⟨_,S',A2 h3 rfl (G8 (of_decide_eq_true hk'.1) (of_decide_eq_true hk'.2)),h4,rfl⟩
theorem Rs {k:Int} (hk:decide (0 < k)=true) (ha:VE A a (rV D.int) pa):VE A (m2 Cw a (mC (.int k))) (rV D.int) (pa.bind λx=>some (x % k)):=λv hv S0 e F S hs=>by
 obtain ⟨x,h1,h2⟩:=BW hv;cases h2;obtain ⟨d,S',h3,h4,rfl⟩:=ha x h1 S0 e F S hs;exact ⟨_,S',A2 h3 rfl (Ck (of_decide_eq_true hk)),h4,rfl⟩
theorem Za (ha:VE A a (rV D.int) pa):VE A (T0 a) (rV D.int) (pa.bind λx=>some (-x)):=λv hv S0 e F S hs=>by
 obtain ⟨x,h1,h2⟩:=BW hv;cases h2;obtain ⟨d,S',h3,h4,rfl⟩:=ha x h1 S0 e F S hs;exact ⟨_,S',by unfold T0;rw [h3];rfl,h4,rfl⟩
theorem gb (ha:VE A a (rV D.int) pa) (hb:VE A b (rV D.int) pb):VE A (m2 ltD a b) (rV D.bl) (pa.bind λx=>pb.bind λy=>some (decide (x < y))):=Nh ha hb λx y z S h=>by cases h;rfl
theorem Zd {f g:D->D->Sto->Res D} {P Q:Int->Int->Bool} (hf:∀x y S,f (.int x) (.int y) S=.ok (.bl (P x y)) S) (hg:∀x y S,g (.int x) (.int y) S=.ok (.bl (Q x y)) S) (ha:VE A a (rV D.int) pa) (hb:VE A b (rV D.int) pb) (hc:VE A c (rV D.int) pc) :
  VE A (m3 f g a b c) (rV D.bl) (pa.bind λx=>pb.bind λy=>if P x y=true then pc.bind λz=>some (Q y z) else some false):=λv hv S0 e F S hs=>by
 obtain ⟨x,h1,hv⟩:=BW hv;obtain ⟨y,h2,h3⟩:=BW hv;obtain ⟨d1,S1,q1,k1,rfl⟩:=ha x h1 S0 e F S hs;obtain ⟨d2,S2,q2,k2,rfl⟩:=hb y h2 S0 e _ S1 (hs.grow k1);have e1:=hf x y S2
 cases hp:P x y with
 | false=>
  rw [hp] at h3 e1;cases h3;exact ⟨_,S2,gm q1 q2 e1,k1.trans k2,rfl⟩
 | true=>
  rw [hp] at h3 e1;rw [qX rfl] at h3;obtain ⟨w,h4,h5⟩:=BW h3;cases h5;obtain ⟨d3,S3,q3,k3,rfl⟩:=hc w h4 S0 e _ S2 ((hs.grow k1).grow k2);exact ⟨_,S3,Wo q1 q2 e1 q3 (hg y w S3),(k1.trans k2).trans k3,rfl⟩
theorem mW (x y:Int) (S:Sto):ltD (.int x) (.int y) S=.ok (.bl (decide (x < y))) S:=rfl
theorem mX (x y:Int) (S:Sto):leD (.int x) (.int y) S=.ok (.bl (decide (x<=y))) S:=rfl
theorem dL {pa pb:Option Bool} (ha:VE A a (rV D.bl) pa) (hb:VE A b (rV D.bl) pb):VE A (Jx a b) (rV D.bl) (pa.bind λx=>if x=true then pb else some false):=λv hv S0 e F S hs=>by
 obtain ⟨x,h1,h2⟩:=BW hv;obtain ⟨d,S',h3,h4,rfl⟩:=ha x h1 S0 e F S hs
 cases x with
 | true=>
  obtain ⟨d,S2,h5,h6,rfl⟩:=hb v h2 S0 e _ S' (hs.grow h4);exact ⟨_,S2,by unfold Jx;rw [h3];exact h5,h4.trans h6,rfl⟩
 | false=>cases h2;exact ⟨_,S',by unfold Jx;rw [h3];rfl,h4,rfl⟩
theorem dC {pa:Option Bool} (ha:VE A a (rV D.bl) pa):VE A (Wm a) (rV D.bl) (pa.bind λx=>some (!x)):=λv hv S0 e F S hs=>by
 obtain ⟨x,h1,h2⟩:=BW hv;cases h2;obtain ⟨d,S',h3,h4,rfl⟩:=ha x h1 S0 e F S hs;exact ⟨_,S',by unfold Wm;rw [h3];rfl,h4,rfl⟩
end
def EqN (n:Nat) (enc:α->D) [DecidableEq α]:Prop:=∀x y,eqP n (enc x) (enc y)=some (decide (x=y))
def NL (enc:α->D):Prop:=∀x S,J4 (enc x) S=none
theorem GP {n:Nat}:EqN n D.int:=λx y=>by
 have:Kg (.int x) (.int y)=some (decide (x=y)):=rfl
 cases n <;> exact this
theorem Lj:NL D.int:=λ_ _=>rfl
section
variable {a b:ME} {enc:α->D} [DecidableEq α] {pa pb:Option α}
theorem bd (h:EqN 8 enc) (n:NL enc) (neg:Bool) (x y:α) (S:Sto):eqD neg (enc x) (enc y) S=.ok (.bl (if neg then !decide (x=y) else decide (x=y))) S:=by
 unfold eqD eqB;rw [n x S,n y S];dsimp only;rw [h x y]
theorem TJ (h:EqN 8 enc) (n:NL enc) (ha:VE A a (rV enc) pa) (hb:VE A b (rV enc) pb):VE A (m2 (eqD false) a b) (rV D.bl) (pa.bind λx=>pb.bind λy=>some (decide (x=y))):=Nh ha hb λx y z S q=>by cases q;exact bd h n false x y S
theorem gZ (h:EqN 8 enc) (n:NL enc) (ha:VE A a (rV enc) pa) (hb:VE A b (rV enc) pb):VE A (m2 (eqD true) a b) (rV D.bl) (pa.bind λx=>pb.bind λy=>some (!decide (x=y))):=Nh ha hb λx y z S q=>by cases q;exact bd h n true x y S
theorem US (h:EqN 8 enc) (x:α):∀l:List α,Jy (enc x) (l.map enc)=some (decide (x∈l))
 | []=>by simp [Jy]
 | y :: l=>by
  rw [A5];unfold Jy;rw [h y x,US h x l]
  by_cases c:y=x
  ·subst c;simp
  ·have:¬x=y:=λz=>c z.symm
   simp [c,this]
theorem Vp (h:EqN 8 enc) (neg:Bool) (x:α) {l:List α} {d:D} {S:Sto} (hs:Fy d S=some (l.map enc)):inA neg (enc x) d S=.ok (.bl (if neg then !decide (x∈l) else decide (x∈l))) S:=by
 show FW (inD neg (enc x) d S) _=_
 have e:inD neg (enc x) d S=.ok (.bl (if neg then !decide (x∈l) else decide (x∈l))) S:=by
  unfold inD;rw [hs];dsimp only;rw [US h]
 rw [e];rfl
theorem iR {pl:Option (List α)} (h:EqN 8 enc) (ha:VE A a (rV enc) pa) (hb:VE A b (rV (eT enc)) pl):VE A (m2 (inA false) a b) (rV D.bl) (pa.bind λx=>pl.bind λl=>some (decide (x∈l))):=Nh ha hb λx l z S q=>by cases q;exact Vp h false x rfl
theorem WS {pl:Option (List α)} (h:EqN 8 enc) (ha:VE A a (rV enc) pa) (hb:VE A b (rO (oL enc)) pl):VE A (m2 (inA true) a b) (rV D.bl) (pa.bind λx=>pl.bind λl=>some (!decide (x∈l))):=iO ha hb λx l z S n hn q=>by cases q;exact Vp h true x (CC hn)
theorem iS (h:EqN 8 enc) {pl:Option (α×α)} (ha:VE A a (rV enc) pa) (hb:VE A b (rV (eP enc enc)) pl):VE A (m2 (inA false) a b) (rV D.bl) (pa.bind λx=>pl.bind λl=>some (decide (x∈[l.1,l.2]))):=Nh ha hb λx l z S q=>by cases q;exact Vp h false x (l:=[l.1,l.2]) rfl
end
section
variable {a b m mo:ME} {enc:α->D} {ml:ML} {pl pk:Option (List α)} {pi:Option Int}
theorem fv (l:List α) (i:Int) (f:α->β):atI (l.map f) i=(atI l i).map f:=by
 unfold atI;rw [AH]
 cases ixN l.length i with
 | none=>rfl
 | some j=>show (l.map f)[j]?=(l[j]?).map f;rw [AX]
theorem SD {l:List α} {d:D} {S:Sto} {i:Int} {x:α} (hs:Fy d S=some (l.map enc)) (h:atI l i=some x):ixA d (.int i) S=.ok (enc x) S:=by
 show FW (ixD d (.int i) S) _=_
 have:ixD d (.int i) S=.ok (enc x) S:=by
  unfold ixD;rw [hs];dsimp only;rw [fv,h];rfl
 rw [this];rfl
theorem Rt (ha:VE A a (rV (eT enc)) pl) (hb:VE A b (rV D.int) pi):VE A (m2 ixA a b) (rV enc) (pl.bind λl=>pi.bind λi=>atI l i):=Nh ha hb λl i z S q=>SD rfl q
theorem Je (ha:VE A a (rO (oL enc)) pl) (hb:VE A b (rV D.int) pi):VE A (m2 ixA a b) (rV enc) (pl.bind λl=>pi.bind λi=>atI l i):=Ze ha hb λl i z S n hn q=>SD (CC hn) q
theorem U4 {a':α->D} {b':β->D} {p:Option (α×β)} (ha:VE A a (rV (eP a' b')) p):VE A (m2 ixA a (mC (.int 0))) (rV a') (p.bind λx=>some x.1):=λv hv S0 e F S hs=>by
 obtain ⟨x,h1,h2⟩:=BW hv;cases h2;obtain ⟨d,S',h3,h4,rfl⟩:=ha x h1 S0 e F S hs;exact ⟨_,S',A2 h3 rfl (Md (ds:=[a' x.1,b' x.2]) rfl (by decide) rfl),h4,rfl⟩
theorem ZZ {a':α->D} {b':β->D} {p:Option (α×β)} (ha:VE A a (rV (eP a' b')) p):VE A (m2 ixA a (mC (.int 1))) (rV b') (p.bind λx=>some x.2):=λv hv S0 e F S hs=>by
 obtain ⟨x,h1,h2⟩:=BW hv;cases h2;obtain ⟨d,S',h3,h4,rfl⟩:=ha x h1 S0 e F S hs;exact ⟨_,S',A2 h3 rfl (Md (ds:=[a' x.1,b' x.2]) rfl (by decide) rfl),h4,rfl⟩
theorem dF (ha:VE A a (rV (eT enc)) pl):VE A (Go a) (rV D.int) (pl.bind λl=>some (l.length:Int)):=λv hv S0 e F S hs=>by
 obtain ⟨l,h1,h2⟩:=BW hv;cases h2;obtain ⟨d,S',h3,h4,rfl⟩:=ha l h1 S0 e F S hs;exact ⟨_,S',(KU (ds:=l.map enc) h3 rfl).trans (by rw [AH]),h4,rfl⟩
theorem MF (ha:VE A a (rO (oL enc)) pl):VE A (Go a) (rV D.int) (pl.bind λl=>some (l.length:Int)):=λv hv S0 e F S hs=>by
 obtain ⟨l,h1,h2⟩:=BW hv;cases h2;obtain ⟨d,S',h3,h4,n,rfl,hn⟩:=ha l h1 S0 e F S hs;exact ⟨_,S',(KU (ds:=l.map enc) h3 (CC hn)).trans (by rw [AH]),h4,rfl⟩
def Zz (l:List Int):Option Int:=if l.length<=4000 then some (Lf l:Int) else none
theorem Pp:∀ns:List Int,G7 (ns.map D.int)=some ns
 | []=>rfl
 | x :: ns=>by rw [A5];unfold G7;rw [Pp ns];rfl
theorem MD (ha:VE A a (rO (oL enc)) pl):VL A (JN a) enc pl:=λl hv S0 e F S hs=>by
 obtain ⟨d,S',h3,h4,n,rfl,hn⟩:=ha l hv S0 e F S hs;exact ⟨S',Z0 h3 (CC hn),h4⟩
theorem SX:∀l:List Bool,V4 (l.map D.bl)=some l
 | []=>rfl
 | x :: l=>by rw [A5];unfold V4;rw [SX l];rfl
theorem U5 {pl:Option (List Bool)} (h:VL A ml D.bl pl):VE A (mQ Yq ml) (rV D.bl) (pl.bind λl=>some (l.all id)):=λv hv S0 e F S hs=>by
 obtain ⟨l,h1,h2⟩:=BW hv;cases h2;obtain ⟨S',h3,h4⟩:=h l h1 S0 e F S hs;refine ⟨_,S',aA h3 ?_,h4,rfl⟩;unfold Yq Yo;rw [SX]
theorem iU {pl:Option (List Bool)} (h:VL A ml D.bl pl):VE A (mQ fw ml) (rV D.bl) (pl.bind λl=>some (l.any id)):=λv hv S0 e F S hs=>by
 obtain ⟨l,h1,h2⟩:=BW hv;cases h2;obtain ⟨S',h3,h4⟩:=h l h1 S0 e F S hs;refine ⟨_,S',aA h3 ?_,h4,rfl⟩;unfold fw Yo;rw [SX]
theorem iI:VL A As enc (some []):=λv hv S0 e F S hs=>by cases hv;exact ⟨S,rfl,Keeps.refl S⟩
theorem cx {p:Option α} (h:VE A m (rV enc) p) (hl:VL A ml enc pl):VL A (AJ m ml) enc (p.bind λx=>pl.bind λl=>some (x :: l)):=λv hv S0 e F S hs=>by
 obtain ⟨x,h1,h2⟩:=BW hv;obtain ⟨l,h2',h3⟩:=BW h2;cases h3;obtain ⟨d,S1,h4,h5,rfl⟩:=h x h1 S0 e F S hs;obtain ⟨S2,h6,h7⟩:=hl l h2' S0 e _ S1 (hs.grow h5);exact ⟨S2,Bo h4 h6,h5.trans h7⟩
def fX (l:List α):Option (List α):=if l.length<=1000000 then some l else none
theorem ZW (h:VL A ml enc pl):VL A (CN ml) enc (pl.bind fX):=λv hv S0 e F S hs=>by
 obtain ⟨l,h1,h2⟩:=BW hv;unfold fX at h2;split at h2
 ·rename_i hl
  cases h2;obtain ⟨S',h3,h4⟩:=h _ h1 S0 e F S hs;refine ⟨S',?_,h4⟩;unfold CN;rw [h3];dsimp only [Res.bind];rw [qX (by rw [AH];exact jj hl)]
 ·cases h2
theorem WR {a':α->D} {b':β->D} {pa:Option α} {pb:Option β} (ha:VE A a (rV a') pa) (hb:VE A b (rV b') pb):VE A (G6 (AJ a (AJ b As))) (rV (eP a' b')) (pa.bind λx=>pb.bind λy=>some (x,y)):=λv hv S0 e F S hs=>by
 obtain ⟨x,h1,hv⟩:=BW hv;obtain ⟨y,h2,h3⟩:=BW hv;cases h3;obtain ⟨d1,S1,q1,k1,rfl⟩:=ha x h1 S0 e F S hs;obtain ⟨d2,S2,q2,k2,rfl⟩:=hb y h2 S0 e _ S1 (hs.grow k1);exact ⟨_,S2,M7 (ds:=[a' x,b' y]) (Bo q1 (Bo q2 rfl)) (by simp),k1.trans k2,rfl⟩
theorem dH (ha:VE A a (rO (oL enc)) pl) (hb:VE A b (rO (oL enc)) pk):VE A (m2 Do a b) (rN (oL enc)) (pl.bind λl=>pk.bind λk=>UF l k):=λv hv S0 e F S hs=>by
 obtain ⟨x,h1,hv⟩:=BW hv;obtain ⟨y,h2,h3⟩:=BW hv;obtain ⟨d1,S1,q1,k1,n,rfl,hn⟩:=ha x h1 S0 e F S hs;obtain ⟨d2,S2,q2,k2,m,rfl,hm⟩:=hb y h2 S0 e _ S1 (hs.grow k1);unfold UF at h3;split at h3
 ·rename_i hl
  cases h3;refine ⟨_,_,A2 q1 q2 (d:=.ref S2.length) (S3:=S2++[oL enc (x++y)]) ?_,(k1.trans k2).trans (Keeps.app _ _),_,rfl,(k1.trans k2).1,Bn _ _⟩;unfold Do;dsimp only;rw [k2.at hn,hm];unfold oL;dsimp only;rw [qX (by rw [AH,AH];exact jj hl),BC]
 ·cases h3
def VO (A:List Sl) (mo:MO) (p:Option (Option Int)):Prop:=∀v,p=some v->∀S0 e F S,Vs S0 A e F S->∃S',mo e S=.ok v S'/\Keeps S S'
theorem WO:VO A PX (some none):=λv hv S0 e F S hs=>by cases hv;exact ⟨S,rfl,Keeps.refl S⟩
theorem WN {pi:Option Int} (h:VE A m (rV D.int) pi):VO A (KP m) (pi.bind λi=>some (some i)):=λv hv S0 e F S hs=>by
 obtain ⟨x,h1,h2⟩:=BW hv;cases h2;obtain ⟨d,S',h3,h4,rfl⟩:=h x h1 S0 e F S hs;exact ⟨S',by unfold KP;rw [h3];rfl,h4⟩
theorem bj (l:List α) (f:α->β) (lo hi:Option Int):LD (l.map f) lo hi=(LD l lo hi).map f:=by
 unfold LD;rw [AH,<-List.map_drop,<-iB]
theorem WT {mlo mhi:MO} {po ph:Option (Option Int)} (ha:VE A a (rO (oL enc)) pl) (hl:VO A mlo po) (hh:VO A mhi ph):VE A (Pd a mlo mhi) (rN (oL enc)) (pl.bind λl=>po.bind λx=>ph.bind λy=>some (LD l x y)):=λv hv S0 e F S hs=>by
 obtain ⟨l,h1,hv⟩:=BW hv;obtain ⟨x,h2,hv⟩:=BW hv;obtain ⟨y,h3,h4⟩:=BW hv;cases h4;obtain ⟨d1,S1,q1,k1,n,rfl,hn⟩:=ha l h1 S0 e F S hs;obtain ⟨S2,q2,k2⟩:=hl x h2 S0 e _ S1 (hs.grow k1);obtain ⟨S3,q3,k3⟩:=hh y h3 S0 e _ S2 ((hs.grow k1).grow k2);refine ⟨.ref S3.length,S3++[oL enc (LD l x y)],?_,((k1.trans k2).trans k3).trans (Keeps.app _ _),_,rfl,((k1.trans k2).trans k3).1,Bn _ _⟩;unfold Pd;rw [q1];dsimp only [Res.bind];rw [q2];dsimp only;rw [q3];dsimp only;unfold Rw;dsimp only;rw [JO ((k2.trans k3).at hn)];show Res.ok _ (S3++[Ob.lst (LD (l.map enc) x y)])=_;rw [bj];rfl
theorem U0 (ha:VE A a (rV (eT enc)) pl):VI A (E1 a) enc pl:=λl hv S0 e F S hs=>by
 obtain ⟨d,S',h3,h4,rfl⟩:=ha l hv S0 e F S hs;exact ⟨_,S',KW (xs:=l.map enc) h3,h4,λ_ _ _ _=>rfl⟩
theorem iL (ha:VE A a (rN (oL enc)) pl):VI A (E1 a) enc pl:=λl hv S0 e F S hs=>by
 obtain ⟨d,S',h3,h4,n,rfl,h5,h6⟩:=ha l hv S0 e F S hs;exact ⟨_,S',FG h3 h6,h4,λF2 S2 hF h=>C0 (h n _ (hF _ _ (UG h5 h6)))⟩
theorem iJ {i:Nat} {l:List α} (h:A[i]?=some (.z (oL enc l))):VI A (E1 (AC i)) enc (some l):=λ_ hv S0 e F S hs=>by
 cases hv;obtain ⟨x,h1,n,rfl,h2⟩:=hs.sl i _ h;have hn:=hs.fz _ _ h2;exact ⟨_,S,FG (n:=n) (by unfold AC;rw [h1]) hn,Keeps.refl S,λF2 S2 hF h=>C0 (h n _ (hF _ _ (by rw [IA (De hn)];exact h2)))⟩
def VW (lo:Int) (n:Nat):List Int:=(AT n).map λi:Nat=>lo+i
def Z5 (j:Int):Option (List Int):=if -1000000<=j/\j<=1000000 then some (VW 0 j.toNat) else none
theorem iz (lo:Int) (n:Nat):DH lo n=(VW lo n).map D.int:=by
 unfold DH VW;rw [BP];rfl
theorem Xd (ha:VE A a (rV D.int) pi):VI A (iR1 (AJ a As)) D.int (pi.bind Z5):=λl hv S0 e F S hs=>by
 obtain ⟨j,h1,h2⟩:=BW hv;obtain ⟨d,S',h3,h4,rfl⟩:=ha j h1 S0 e F S hs;unfold Z5 at h2;split at h2
 ·rename_i hj
  cases h2;exact ⟨_,S',Ln (j:=j) (Bo h3 rfl) hj.1 hj.2,h4,λ_ _ _ _=>congrArg some (iz _ _)⟩
 ·cases h2
def RI (l:List α):List (Int×α):=l.zipIdx.map λx=>((x.2:Int),x.1)
theorem Yc (l:List α):P6 (l.map enc)=(RI l).map (eP D.int enc):=by
 unfold P6 RI;rw [List.zipIdx_map,BP,BP];rfl
theorem TH {i:Nat} {l:List α} (h:A[i]?=some (.z (oL enc l))):VI A (SG (AC i)) (eP D.int enc) (some (RI l)):=λ_ hv S0 e F S hs=>by
 cases hv;obtain ⟨x,h1,n,rfl,h2⟩:=hs.sl i _ h;have hn:=hs.fz _ _ h2;refine ⟨TF (FE (.ref n)),S,?_,Keeps.refl S,λF2 S2 hF h=>?_⟩
 ·unfold SG
  rw [show AC i e S=.ok (.ref n) S by unfold AC;rw [h1]];dsimp only [Res.bind];rw [C0 hn]
 ·unfold TF
  rw [C0 (h n _ (hF _ _ (by rw [IA (De hn)];exact h2)))];exact congrArg some (Yc l)
def NN (enc:α->D):Prop:=∀x S neg,Qj neg (enc x) .non S=.ok (.bl neg) S
theorem ek {a:α->D} {b:β->D}:NN (eP a b):=λ_ _ _=>rfl
theorem iP {p:Option (Option α)} (hn:NN enc) (ha:VE A a (rV (eO enc)) p):VE A (m2 (Qj false) a (mC .non)) (rV D.bl) (p.bind λo=>some o.isNone):=λv hv S0 e F S hs=>by
 obtain ⟨x,h1,h2⟩:=BW hv;cases h2;obtain ⟨d,S',h3,h4,rfl⟩:=ha x h1 S0 e F S hs;refine ⟨_,S',A2 h3 rfl ?_,h4,rfl⟩
 cases x with
 | none=>rfl
 | some y=>exact hn y S' false
theorem U3 {p:Option (Option α)} (ha:VE A a (rV (eO enc)) p):VE A a (rV enc) (p.bind λo=>o):=λv hv S0 e F S hs=>by
 obtain ⟨x,h1,h2⟩:=BW hv;cases h2;exact ha _ h1 S0 e F S hs
theorem dA {p:Option α} (ha:VE A a (rV enc) p):VE A a (rV (eO enc)) (p.bind λo=>some (some o)):=λv hv S0 e F S hs=>by
 obtain ⟨x,h1,h2⟩:=BW hv;cases h2;exact ha _ h1 S0 e F S hs
theorem dD:VE A (mC .non) (rV (eO enc)) (some none):=IM rfl
end
end
section
variable {S0 S S':Sto} {A B:List Sl} {e:Lo} {F:Fz} {α β γ δ ρ σ τ κ κ':Type}
def oDK (enc:α->D) (l:List (Int×α)):Ob:=.dK (l.map λx=>(Cf x.1,enc x.2))
theorem Zg [DecidableEq κ] [DecidableEq κ'] {kk:κ->κ'} (hk:∀x y,kk x=kk y->x=y) (f:α->β) (l:List (κ×α)) (k:κ):EY (l.map λx=>(kk x.1,f x.2)) (kk k)=(EY l k).map f:=by
 unfold EY
 induction l with
 | nil=>rfl
 | cons x l ih=>
  rw [A5,BY,BY]
  by_cases c:x.1=k
  ·rw [wX c,wX (show kk x.1=kk k by rw [c])]
   rfl
  ·rw [wY c,wY λz=>c (hk _ _ z)]
   exact ih
theorem fH (x y:Int) (h:(Cf x:Key)=Cf y):x=y:=by cases h;rfl
theorem mU {enc:α->D} {l:List (Int×α)} {n:Nat} {S:Sto} (h:S[n]?=some (oDK enc l)) (k:Int):NU (.ref n) (.int k) S=some ((EY l k).map enc):=by
 unfold NU;dsimp only;rw [h];show some (EY _ (Cf k))=_;rw [Zg fH]
theorem kH {n:Nat} {y:D} {S:Sto} {d:D} (hq:Fy (.ref n) S=none) (h:NU (.ref n) y S=some (some d)):ixA (.ref n) y S=.ok d S:=by
 show FW (ixD (.ref n) y S) (LS (.ref n) y S)=_;rw [show ixD (.ref n) y S=.bad by unfold ixD;rw [hq]];show LS (.ref n) y S=_;unfold LS;rw [h]
theorem seqK {enc:α->D} {l:List (Int×α)} {n:Nat} {S:Sto} (h:S[n]?=some (oDK enc l)):Fy (.ref n) S=none:=by unfold Fy;dsimp only;rw [h];rfl
section
variable {a b m:ME} {enc:α->D}
theorem TK {pk:Option Int} {pl:Option (List (Int×α))} (ha:VE A a (rO (oDK enc)) pl) (hb:VE A b (rV D.int) pk):VE A (m2 ixA a b) (rV enc) (pl.bind λl=>pk.bind λx=>EY l x):=Ze ha hb λl x z S n hn q=>kH (seqK hn) (by rw [mU hn x,q];rfl)
end
end
section
variable {α β γ ρ σ τ:Type}
theorem IC {s:σ} {q:σ->Option (Fw ρ τ)}:GY (some (.nx s)) q=q s:=rfl
theorem bU {l:List α} {q:σ->α->Option (Fw ρ σ)} {s0:σ} (I:List α->σ->Prop) (R:ρ->Prop) (h0:I [] s0) (h:∀pre x s,x∈l->pre++[x] <+: l->I pre s->(∃s',q s x=some (.nx s')/\I (pre++[x]) s')∨∃r,q s x=some (.rt r)/\R r):(∃s,J5 l s0 q=some (.nx s)/\I l s)∨∃r,J5 l s0 q=some (.rt r)/\R r:=by
 have key:∀(r pre:List α) (s:σ),l=pre++r->I pre s->(∃s',J5 r s q=some (.nx s')/\I l s')∨∃y,J5 r s q=some (.rt y)/\R y:=by
  intro r
  induction r with
  | nil=>intro pre s e hI;rw [BJ] at e;subst e;exact .inl ⟨s,rfl,hI⟩
  | cons x r ih=>
   intro pre s e hI
   rcases h pre x s (by rw [e];simp) ⟨r,by rw [e];simp⟩ hI with ⟨s',h1,h2⟩ | ⟨y,h1,h2⟩
   ·have e':J5 (x :: r) s q=J5 r s' q:=by
     conv=>lhs;unfold J5
     rw [h1]
    rw [e'];exact ih (pre++[x]) s' (by rw [e];simp) h2
   ·refine .inr ⟨y,?_,h2⟩
    unfold J5;rw [h1]
 exact key l [] s0 rfl h0
theorem bp {l:List α} {c:α->Option Bool} {m:α->Option β} {P:α->Bool} {f:α->β} (hc:∀x∈l,c x=some (P x)) (hm:∀x∈l,P x=true->m x=some (f x)):P9 c m l=some ((l.filter P).map f):=by
 induction l with
 | nil=>rfl
 | cons x l ih=>
  have ih:=ih (λy hy=>hc y (AW _ hy)) λy hy=>hm y (AW _ hy)
  unfold P9;rw [hc x Ag];show (if P x=true then _ else _)=_
  cases hp:P x with
  | true=>
   rw [qX rfl,hm x Ag hp,ih,List.filter_cons_of_pos hp];rfl
  | false=>
   rw [qY AR,ih,List.filter_cons_of_neg (by rw [hp];exact AR)]
theorem Mg {l:List α} {c:α->Option Bool} {m:α->Option β} {P:α->Bool} {f:α->β} (hl:l.length<=1000000) (hc:∀x∈l,c x=some (P x)) (hm:∀x∈l,P x=true->m x=some (f x)):HU l c m=some ((l.filter P).map f):=by
 unfold HU;rw [qX hl,bp hc hm]
theorem Kw {l:List α} {m:α->Option β} {f:α->β} (hl:l.length<=1000000) (hm:∀x∈l,m x=some (f x)):HU l (λ_=>some true) m=some (l.map f):=by
 rw [Mg (P:=λ_=>true) hl (λ_ _=>rfl) λx hx _=>hm x hx,List.filter_eq_self.mpr λ_ _=>rfl]
theorem V2 {l:List α} {c:α->Option Bool} {P:α->Bool} (hl:l.length<=1000000) (hc:∀x∈l,c x=some (P x)):HU l c (λx=>some x)=some (l.filter P):=by
 rw [Mg (f:=λx=>x) hl hc λx hx _=>rfl,ka]
theorem W1 {l k:List α} (h:l.length+k.length<=1000000):UF l k=some (l++k):=qX h
theorem few1 (a:α):fX [a]=some [a]:=qX (by simp)
theorem df {j:Int} (h0:-1000000<=j) (h1:j<=1000000):Z5 j=some (VW 0 j.toNat):=qX ⟨h0,h1⟩
theorem ai {lo:Int} {n:Nat} {x:Int}:x∈VW lo n↔lo<=x/\x < lo+n:=by
 unfold VW;rw [A7]
 constructor
 ·rintro ⟨k,hk,rfl⟩
  have:=CQ.mp hk
  lia
 ·rintro ⟨h1,h2⟩
  exact ⟨(x - lo).toNat,CQ.mpr (by lia),by lia⟩
theorem SZ {l:List α} {i:Int} (h0:0<=i) (h1:i < l.length):∃x,atI l i=some x/\l[i.toNat]?=some x:=by
 have hlt:i.toNat < l.length:=by lia
 exact ⟨l[i.toNat],cA h0 (BG hlt),BG hlt⟩
theorem aa [DecidableEq α]:∀ {l k:List α},l.Nodup->(∀x∈l,x∈k)->l.length<=k.length
 | [],_,_,_=>Cm _
 | x :: l,k,nd,h=>by
  have hx:=h x Ag;obtain ⟨n1,n2⟩:=DC.mp nd
  have:=aa (l:=l) (k:=k.erase x) n2 λy hy=>(List.mem_erase_of_ne (λz:y=x=>n1 (by rw [<-z];exact hy))).mpr (h y (AW _ hy))
  rw [Sm hx] at this;have:=Uc hx;rw [A6]
  lia
def Ok (p:Option α) (P:α->Prop):Prop:=∃v,p=some v/\P v
theorem Ok.is {p:Option α} {v:α} (h:Ok p λr=>r=v):p=some v:=by
 obtain ⟨_,h1,rfl⟩:=h;exact h1
def OkF (p:Option (Fw ρ σ)) (N:σ->Prop) (R:ρ->Prop):Prop:=(∃s,p=some (.nx s)/\N s)∨∃r,p=some (.rt r)/\R r
theorem OkF.nx {s:σ} {N:σ->Prop} {R:ρ->Prop} (h:N s):OkF (some (.nx s)) N R:=.inl ⟨s,rfl,h⟩
theorem OkF.rt {r:ρ} {N:σ->Prop} {R:ρ->Prop} (h:R r):OkF (some (.rt r)) N R:=.inr ⟨r,rfl,h⟩
theorem OkF.seq {p:Option (Fw ρ σ)} {q:σ->Option (Fw ρ τ)} {N:σ->Prop} {N':τ->Prop} {R:ρ->Prop} (h:OkF p N R) (hq:∀s,N s->OkF (q s) N' R):OkF (GY p q) N' R:=by
 rcases h with ⟨s,rfl,h⟩ | ⟨r,rfl,h⟩
 ·exact hq s h
 ·exact .inr ⟨r,rfl,h⟩
theorem OkF.for {l:List α} {q:σ->α->Option (Fw ρ σ)} {s0:σ} {R:ρ->Prop} (I:List α->σ->Prop) (h0:I [] s0) (h:∀pre x s,x∈l->pre++[x] <+: l->I pre s->OkF (q s x) (I (pre++[x])) R):OkF (J5 l s0 q) (I l) R:=bU I R h0 h
theorem OkF.out {p:Option (Fw ρ σ)} {R:ρ->Prop} (h:OkF p (λ_=>False) R):Ok (Qe p) R:=by
 rcases h with ⟨s,rfl,h⟩ | ⟨r,rfl,h⟩
 ·exact h.elim
 ·exact ⟨r,rfl,h⟩
end
section
variable {A:List Sl} {a b m:ME} {pa pb:Option Int}
end
section
variable {A:List Sl} {a m:ME} {α ρ:Type} {enc:α->D}
end
section
variable {S0 S S':Sto} {A B:List Sl} {e:Lo} {F:Fz} {α β γ ρ σ τ:Type} {a:ME} {enc:α->D}
theorem O2 {n:Nat} {b:MS} {as:List Ar} {R:Rk ρ} {p:Option (Fw ρ σ)} {B:σ->List Sl} (h:VS (as.map Ar.sl++BU (n - as.length) .u) b R p B):VF (EG n b) as R (Qe p):=λv hv S ds ha=>by
 cases p with
 | none=>cases hv
 | some x=>
  obtain ⟨g,S',h1,h2⟩:=h _ rfl S _ _ S (Vs.start ha)
  cases x with
  | rt r=>cases hv;obtain ⟨d,rfl,h2,h3⟩:=h2;exact ⟨d,S',L2.Cp h1,h3,h2⟩
  | nx s=>cases hv
  | bk s=>cases hv
  | ct s=>cases hv
theorem Zb {t T:String} {r:Bool} {p:Option α} (ha:VE A a (rV enc) p) (ht:∀x S,tyD (enc x) S=some T) (hb:isB t T=some r):VE A (L2.mIs (isB t) (λ_=>none) a) (rV D.bl) (p.bind λ_=>some r):=λv hv S0 e F S hs=>by
 obtain ⟨x,h1,h2⟩:=BW hv;cases h2;obtain ⟨d,S',h3,h4,rfl⟩:=ha x h1 S0 e F S hs;exact ⟨_,S',L2.gq h3 (ht x S') hb,h4,rfl⟩
theorem iQ {t:String} {r:Bool} {p:Option (List α)} (ha:VE A a (rO (oL enc)) p) (hb:isB t "list" = some r):VE A (L2.mIs (isB t) (λ_=>none) a) (rV D.bl) (p.bind λ_=>some r):=λv hv S0 e F S hs=>by
 obtain ⟨x,h1,h2⟩:=BW hv;cases h2;obtain ⟨d,S',h3,h4,n,rfl,hn⟩:=ha x h1 S0 e F S hs;exact ⟨_,S',L2.gq (T:="list") h3 (by unfold tyD;dsimp only;rw [hn];rfl) hb,h4,rfl⟩
end
section
variable {κ α:Type} [DecidableEq κ]
end
def hb (bits x:Int):Bool:=Builtin.bitAnd (bits / 2 ^ x.toNat) 1 != 0
abbrev HL:=List (Int×Int)
abbrev QL:=List (Int×Bool)
section
variable {T:Int->List Int} {bits:Int} {U:List Int} {Gd:Int->Prop}
abbrev w0 (T:Int->List Int) (bits g:Int):List Int:=(T g).filter (hb bits)
def MOn (T:Int->List Int) (bits:Int) (P:Int->Prop) (H:HL):Prop:=(∀x,P x->∀a,EY H x=some a->x∈w0 T bits a)/\∀x y a,P x->P y->EY H x=some a->EY H y=some a->x=y
abbrev sn (Q:QL) (x:Int):Prop:=(EY Q x).isSome=true
def Good (T:Int->List Int) (bits:Int) (H:HL) (g:Int) (Q:QL) (H':HL):Prop:=
 (∀x,sn Q x->EY H' x=EY H x)/\(MOn T bits (λx=>¬sn Q x) H->(∀x,¬sn Q x->EY H x≠some g)->MOn T bits (λx=>¬sn Q x) H'/\∀a,(∃x,¬sn Q x/\EY H' x=some a)↔a=g∨∃x,¬sn Q x/\EY H x=some a)
end
section
variable {T:Int->List Int} {bits:Int} {U:List Int} {Gd:Int->Prop}
end
section
variable {α β ρ σ:Type} {A:List Sl} {enc:α->D} {ob:β->Ob}
end
section
variable {α β ρ σ:Type} {A:List Sl} {enc:α->D} {ob:β->Ob}
end
section
variable {S0 S S':Sto} {A B:List Sl} {e:Lo} {F:Fz} {α β γ ρ σ τ:Type} {enc:α->D} {xss:List (List α)} {i:Nat}
def Nst (enc:α->D) (xss:List (List α)) (L:Nat->Option Ob) (d:D):Prop:=∃n ms,d=.ref n/\L n=some (oL D.ref ms)/\ms.length=xss.length/\∀(k:Nat) (xs:List α),xss[k]?=some xs->∃m,ms[k]?=some m/\L m=some (oL enc xs)
def loF (F:Fz):Nat->Option Ob:=λn=>match F n with
 | .fz o=>some o
 | _=>none
theorem jh {n:Nat} {o:Ob} (h:F n=.fz o):loF F n=some o:=by unfold loF;rw [h]
theorem aw {n:Nat} {o:Ob} (h:loF F n=some o):F n=.fz o:=by
 unfold loF at h;split at h
 ·rename_i o' ho;cases h;exact ho
 ·cases h
theorem Vs.nst (hs:Vs S0 A e F S) (h:A[i]?=some (.q (Nst enc xss))):∃n ms,e[i]?=some (some (.ref n))/\F n=.fz (oL D.ref ms)/\ms.length=xss.length/\∀(k:Nat) (xs:List α),xss[k]?=some xs->∃m,ms[k]?=some m/\F m=.fz (oL enc xs):=by
 obtain ⟨x,h1,d,rfl,h2⟩:=hs.sl i _ h
 obtain ⟨n,ms,rfl,h3,h4,h5⟩:=h2 (loF F) λn o q=>jh q
 exact ⟨n,ms,h1,aw h3,h4,λk xs hk=>let ⟨m,h6,h7⟩:=h5 k xs hk;⟨m,h6,aw h7⟩⟩
theorem XC {ms:List Nat} (hl:ms.length=xss.length) {k:Int} {xs:List α} (h:atI xss k=some xs):∃j:Nat,xss[j]?=some xs/\∀m,ms[j]?=some m->atI ms k=some m:=by
 unfold atI at h ⊢;rw [hl]
 cases hx:ixN xss.length k with
 | none=>rw [hx] at h;cases h
 | some j=>rw [hx] at h;exact ⟨j,h,λm hm=>hm⟩
theorem iN {b:ME} {pi:Option Int} (h:A[i]?=some (.q (Nst enc xss))) (hb:VE A b (rV D.int) pi):VE A (m2 ixA (AC i) b) (rO (oL enc)) (pi.bind λk=>atI xss k):=λv hv S0 e F S hs=>by
 obtain ⟨k,h1,h2⟩:=BW hv;obtain ⟨n,ms,h3,h4,h5,h6⟩:=hs.nst h;obtain ⟨d,S1,q1,k1,rfl⟩:=hb k h1 S0 e F S hs;obtain ⟨j,h7,h8⟩:=XC h5 h2;obtain ⟨m,h9,h10⟩:=h6 j v h7
 have c1:AC i e S=.ok (.ref n) S:=by unfold AC;rw [h3]
 exact ⟨.ref m,S1,A2 c1 q1 (SD (enc:=D.ref) (l:=ms) (CC (k1.at (hs.fz _ _ h4))) (h8 m h9)),k1,m,rfl,k1.at (hs.fz _ _ h10)⟩
theorem iK {b:ME} {pi:Option Int} (h:A[i]?=some (.q (Nst enc xss))) (hb:VE A b (rV D.int) pi):VI A (E1 (m2 ixA (AC i) b)) enc (pi.bind λk=>atI xss k):=λv hv S0 e F S hs=>by
 obtain ⟨k,h1,h2⟩:=BW hv;obtain ⟨n,ms,h3,h4,h5,h6⟩:=hs.nst h;obtain ⟨d,S1,q1,k1,rfl⟩:=hb k h1 S0 e F S hs;obtain ⟨j,h7,h8⟩:=XC h5 h2;obtain ⟨m,h9,h10⟩:=h6 j v h7
 have c1:AC i e S=.ok (.ref n) S:=by unfold AC;rw [h3]
 have c2:=A2 c1 q1 (SD (enc:=D.ref) (l:=ms) (CC (k1.at (hs.fz _ _ h4))) (h8 m h9));exact ⟨_,S1,FG c2 (k1.at (hs.fz _ _ h10)),k1,λF2 S2 hF h=>C0 (h m _ (hF _ _ (by rw [IA (De (hs.fz _ _ h10))];exact h10)))⟩
theorem va_q {ml:ML} {q:Option γ} {ar:γ->List Ar} (h:A[i]?=some (.q (Nst enc xss))) (hl:VA A ml q ar):VA A (AJ (AC i) ml) (q.bind λy=>some (xss,y)) (λz=>.q (Nst enc z.1) :: ar z.2):=λv hv S0 e F S hs=>by
 obtain ⟨y,h2,h3⟩:=BW hv;cases h3;obtain ⟨x,h4,d,rfl,h5⟩:=hs.sl i _ h;obtain ⟨ds,S2,h6,h7,h8⟩:=hl y h2 S0 e F S hs;exact ⟨_,S2,Bo (show AC i e S=.ok d S by unfold AC;rw [h4]) h6,h7,λL hL=>h5 L λn o q=>hL n o (h7.at (hs.fz _ _ q)),h8⟩
theorem dB (h:A[i]?=some (.q (Nst enc xss))):VE A (Go (AC i)) (rV D.int) (some (xss.length:Int)):=λv hv S0 e F S hs=>by
 cases hv;obtain ⟨n,ms,h3,h4,h5,h6⟩:=hs.nst h;exact ⟨_,S,(KU (ds:=ms.map D.ref) (show AC i e S=.ok (.ref n) S by unfold AC;rw [h3]) (CC (hs.fz _ _ h4))).trans (by rw [AH,h5]),Keeps.refl S,rfl⟩
end
section
variable {S0 S S':Sto} {A:List Sl} {ρ σ:Type}
def whF (c:σ->Option Bool) (q:σ->Option (Fw ρ σ)):Nat->σ->Option (Fw ρ σ)
 | 0,_=>none
 | n+1,s=>(c s).bind λt=>if t=true then match q s with
   | some (.nx s')=>whF c q n s'
   | some (.ct s')=>whF c q n s'
   | some (.bk s')=>some (.nx s')
   | some (.rt r)=>some (.rt r)
   | none=>none
  else some (.nx s)
theorem Xb {t:MT} {b:MS} {R:Rk ρ} {c:σ->Option Bool} {q:σ->Option (Fw ρ σ)} {B:σ->List Sl} (hc:∀s,VB (B s) t (c s)) (hb:∀s,VS (B s) b R (q s) B):∀(n:Nat) (s:σ),VS (B s) (E8 t b n) R (whF c q n s) B:=by
 intro n
 induction n with
 | zero=>intro s f hf;cases hf
 | succ n ih=>
  intro s f hf S0 e F S hs;unfold whF at hf;obtain ⟨v,h1,h2⟩:=BW hf;obtain ⟨S1,h3,h4⟩:=hc s v h1 S0 e F S hs;have hs1:=hs.grow h4
  have run:E8 t b (n+1) e S=if v=true then (b e S1).bind λf S2=>match f with
   | .nx e2=>E8 t b n e2 S2
   | .ct e2=>E8 t b n e2 S2
   | .bk e2=>.ok (.nx e2) S2
   | .rt d=>.ok (.rt d) S2
   | .ex c e2=>.ok (.ex c e2) S2
  else .ok (.nx e) S1:=by
   show (t e S).lift e _=_;rw [h3];rfl
  cases v with
  | false=>
   rw [qY AR] at h2;cases h2;exact ⟨_,S1,run.trans (qY AR),e,_,rfl,hs1,hs.fle S1⟩
  | true=>
   rw [qX rfl] at h2;rw [run,qX rfl];split at h2
   ·rename_i s' hq
    obtain ⟨h,S2,g1,e2,F2,rfl,g2,g3⟩:=hb s _ hq S0 e _ S1 hs1;rw [g1];obtain ⟨h',S3,g4,g5⟩:=ih s' f h2 S0 e2 F2 S2 g2;exact ⟨h',S3,g4,g5.up ((hs.fle S1).trans g3)⟩
   ·rename_i s' hq
    obtain ⟨h,S2,g1,e2,F2,rfl,g2,g3⟩:=hb s _ hq S0 e _ S1 hs1;rw [g1];obtain ⟨h',S3,g4,g5⟩:=ih s' f h2 S0 e2 F2 S2 g2;exact ⟨h',S3,g4,g5.up ((hs.fle S1).trans g3)⟩
   ·rename_i s' hq
    cases h2;obtain ⟨h,S2,g1,e2,F2,rfl,g2,g3⟩:=hb s _ hq S0 e _ S1 hs1;rw [g1];exact ⟨_,S2,rfl,e2,F2,rfl,g2,(hs.fle S1).trans g3⟩
   ·rename_i r hq
    cases h2;obtain ⟨h,S2,g1,d,rfl,g2,g3⟩:=hb s _ hq S0 e _ S1 hs1;rw [g1];exact ⟨_,S2,rfl,d,rfl,g2,g3⟩
   ·cases h2
theorem ZT {t:MT} {b:MS} {R:Rk ρ} {c:σ->Option Bool} {q:σ->Option (Fw ρ σ)} {B:σ->List Sl} {n:Nat} {s0:σ} (w0:Wk A (B s0)) (hc:∀s,VB (B s) t (c s)) (hb:∀s,VS (B s) b R (q s) B):VS A (E8 t b n) R (whF c q n s0) B:=λf hf S0 e F S hs=>
 Xb hc hb n s0 f hf S0 e F S (hs.weak w0)
end
section
variable {A:List Sl} {α:Type} {enc:α->D} {a:ME}
theorem U1 {p:Option (List α)} (ha:VE A a (rO (oL enc)) p):VE A (Pf a) (rN (oL enc)) (p.bind λl=>some l.reverse):=λv hv S0 e F S hs=>by
 obtain ⟨l,h1,h2⟩:=BW hv;cases h2;obtain ⟨d,S',h3,h4,n,rfl,hn⟩:=ha l h1 S0 e F S hs;refine ⟨.ref S'.length,S'++[.lst (l.map enc).reverse],?_,h4.trans (Keeps.app _ _),_,rfl,h4.1,?_⟩
 ·show (a e S).bind _=_
  rw [h3];show (match J4 (D.ref n) S' with | some ds=>Res.ok (D.ref S'.length) (S'++[Ob.lst ds.reverse]) | none=>.bad)=_
  have:J4 (.ref n) S'=some (l.map enc):=by unfold J4;dsimp only;rw [hn];rfl
  rw [this]
 ·rw [Bn]
  show some (Ob.lst (l.map enc).reverse)=some (.lst (l.reverse.map enc));rw [ON]
theorem U2 {pl:Option (List Int)} (ha:VE A a (rO (oL D.int)) pl):VE A (OY a) (rV D.int) (pl.bind Zz):=λv hv S0 e F S hs=>by
 obtain ⟨l,h1,h2⟩:=BW hv;obtain ⟨d,S',h3,h4,n,rfl,hn⟩:=ha l h1 S0 e F S hs;unfold Zz at h2;split at h2
 ·rename_i hl
  cases h2;refine ⟨_,S',?_,h4,rfl⟩;unfold OY;rw [h3];dsimp only [Res.bind];rw [CC hn];dsimp only;rw [Pp];dsimp only;rw [qX hl]
 ·cases h2
end
section
variable {A:List Sl} {a b c:ME} {ml:ML}
def je (l:List Int):Option Int:=RS ltZ l
theorem dJ {f:Int->Int->Bool} {pl:Option (List Int)} (h:VL A ml D.int pl):VE A (mQ (RT f) ml) (rV D.int) (pl.bind λl=>RS f l):=λv hv S0 e F S hs=>by
 obtain ⟨l,h1,h2⟩:=BW hv;obtain ⟨S',h3,h4⟩:=h l h1 S0 e F S hs;refine ⟨_,S',?_,h4,rfl⟩;unfold mQ;rw [h3];dsimp only [Res.bind];unfold RT;rw [Pp];dsimp only;rw [h2];rfl
theorem dE {pl:Option (List Int)} (h:VL A ml D.int pl):VE A (mQ Nn ml) (rV D.int) (pl.bind je):=dJ h
def Ti (i j k:Int):List Int:=(AT (rpN i j k)).map λz:Nat=>i+z * k
def de (i j k:Int):Option (List Int):=if 0 < k/\k<=1000000/\-1000000<=i/\i<=1000000/\-1000000<=j/\j<=1000000 then some (Ti i j k) else none
theorem Xc {pi pj pk:Option Int} (ha:VE A a (rV D.int) pi) (hb:VE A b (rV D.int) pj) (hc:VE A c (rV D.int) pk):VI A (iRP (AJ a (AJ b (AJ c As)))) D.int (pi.bind λi=>pj.bind λj=>pk.bind λk=>de i j k):=λl hv S0 e F S hs=>by
 obtain ⟨i,h1,hv⟩:=BW hv;obtain ⟨j,h2,hv⟩:=BW hv;obtain ⟨k,h3,hv⟩:=BW hv;obtain ⟨d1,S1,q1,k1,rfl⟩:=ha i h1 S0 e F S hs;obtain ⟨d2,S2,q2,k2,rfl⟩:=hb j h2 S0 e _ S1 (hs.grow k1);obtain ⟨d3,S3,q3,k3,rfl⟩:=hc k h3 S0 e _ S2 ((hs.grow k1).grow k2);unfold de at hv;split at hv
 ·rename_i hb'
  cases hv;refine ⟨Dq (Xf i k (rpN i j k)),S3,?_,(k1.trans k2).trans k3,λF2 S2 _ _=>?_⟩
  ·unfold iRP
   rw [Bo q1 (Bo q2 (Bo q3 rfl))];dsimp only [Res.bind];rw [qX hb']
  ·show some (Xf i k (rpN i j k))=_
   unfold Xf Ti;rw [BP];rfl
 ·cases hv
end
section
variable {A:List Sl} {β σ:Type} {ob:β->Ob}
def rOL (ob:β->Ob):Rk (Option β):=λv S0 d S=>match v with
 | none=>d=.non
 | some b=>∃n,d=.ref n/\S0.length<=n/\S[n]?=some (ob b)
theorem ZU {B:σ->List Sl}:VS A (DM (mC .non)) (rOL ob) (some (.rt none)) B:=λf hf S0 e F S hs=>by
 cases hf;exact ⟨.rt .non,S,rfl,_,rfl,rfl,hs.kp⟩
theorem cu {m:ME} {p:Option β} {B:σ->List Sl} (h:VE A m (rN ob) p):VS A (DM m) (rOL ob) (p.bind λv=>some (.rt (some v))) B:=λf hf S0 e F S hs=>by
 obtain ⟨v,h1,h2⟩:=BW hf;cases h2;obtain ⟨d,S',h3,h4,n,rfl,h5,h6⟩:=h v h1 S0 e F S hs;exact ⟨_,S',FV h3,_,rfl,⟨n,rfl,Ax hs.kp.1 h5,h6⟩,hs.kp.trans h4⟩
end
end L4
namespace M
open PySem PySem.Spec PyProof.Rows L2
abbrev oN(e:L2.Lo)(S:L2.Sto):L2.Res L2.Fl:=.ok (.nx e) S
abbrev sN:Option L2.D:=some .non
abbrev sR(n:Nat):Option L2.D:=some (.ref n)
abbrev sI(i:Int):Option L2.D:=some (.int i)
abbrev sF(l:List Int):Option L2.D:=some (.fro (l.map L2.D.int))
def top (i:Nat):Cg:=iA.main.body.getD i (.Pass ⟨0,0,0,0⟩)
structure Wd where
 BadPlaces:AK
 BadTie:AK
 NoPlace:AK
 Web:AK
def Wd.excs (W:Wd):List AK:=[W.BadPlaces,W.BadTie,W.NoPlace]
abbrev Dw:Cg:=top 8
abbrev Dv:Cg:=top 9
abbrev Gi:Cg:=fJ (top 7) 0
abbrev C1:Cg:=top 10
abbrev ND:Cg:=top 11
abbrev Eu:Cg:=top 12
abbrev Gg:Cg:=top 13
abbrev EJ:Cg:=top 14
abbrev DL:Cg:=top 16
abbrev EL:Cg:=top 17
abbrev EK:Cg:=top 18
abbrev Hl:Cg:=top 20
abbrev Gh:Cg:=top 19
abbrev Dy:Cg:=top 22
abbrev Ey:Cg:=top 23
abbrev Ev:Cg:=top 24
abbrev Fg:Cg:=top 25
abbrev Fe:Cg:=top 26
abbrev EM:Cg:=top 27
abbrev Ex:Cg:=top 28
abbrev EN:Cg:=top 29
abbrev Dx:Cg:=top 30
abbrev Ew:Cg:=top 31
abbrev Db:Cg:=top 32
abbrev Dc:Cg:=top 33
abbrev Ff:Cg:=top 34
abbrev Q1:Cg:=top 35
def QC (W:Wd):MS:=
  (BM (BZ 2 au)
  (BM (HF (E1 (AC 1)) (Fx 2 (B7 (tgN 3) (B7 (tgN 4) GX)))
  (BM (BZ 5 (G6 (AJ (mQ Q8 (AJ (AC 3) (AJ (AC 4) As))) (AJ (mQ Q9 (AJ (AC 3) (AJ (AC 4) As))) As))))
  (BM (sIf (mB (m2 (eqD false) (m2 ixA (AC 5) (mC (.int 0))) (m2 ixA (AC 5) (mC (.int 1))))) (ER W.BadTie (AJ (mC (.str "a tie has one place twice")) As)) sNx)
  (BM (sIf (mOr (mB (m2 ltD (m2 ixA (AC 5) (mC (.int 0))) (mC (.int 0)))) (mB (m2 geD (m2 ixA (AC 5) (mC (.int 1))) (AC 0)))) (ER W.BadTie (AJ (mC (.str "a tie has a place that is not there")) As)) sNx)
  (BM (sIf (mB (m2 (inA false) (AC 5) (AC 2))) (ER W.BadTie (AJ (mC (.str "a tie is there twice")) As)) sNx)
  (Ii (AC 2) (AC 5) (mC (.bl true))))))))
  (DM (Gn (ET (AC 2))))))
def GM (W:Wd):List D->Sto->Res D:=EG 6 (QC W)
def Kk (W:Wd):MS:=
  (BM (BZ 2 (DB (EU 1 (iR1 (AJ (AC 0) As)) (tgN 0) Fn (DB (CN As)))))
  (BM (HF (E1 (AC 1)) (Fx 2 (B7 (tgN 3) (B7 (tgN 4) GX)))
  (BM (CD (FA (m2 ixA (AC 2) (AC 3)) (AC 4)))
  (CD (FA (m2 ixA (AC 2) (AC 4)) (AC 3)))))
  (DM (Gn (DB (EU 1 (E1 (AC 2)) (tgN 0) Fn (Gn (ET (AC 0)))))))))
def GK (W:Wd):List D->Sto->Res D:=EG 5 (Kk W)
def QD (W:Wd):MS:=
  (BM (sIf (Lk (mB (m3 leD leD (mC (.int 1)) (AC 1) (mC (.int 60))))) (ER W.BadPlaces (AJ (gk (Wr (mC (.str "a web has 1 to ")) (Wr (lu (mC (.int 60))) (Wr (mC (.str " places")) jo)))) As)) sNx)
  (BM (Q2 W.Web "places" (AC 0) (AC 1))
  (BM (Q2 W.Web "ties" (AC 0) (BB 2 (GM W) (AJ (AC 1) (AJ (AC 2) As))))
  (Q2 W.Web "near_sets" (AC 0) (BB 2 (GK W) (AJ (AC 1) (AJ (Hu W.Web "ties" (AC 0)) As)))))))
def Hz (W:Wd):List D->Sto->Res D:=EG 3 (QD W)
def Mh (W:Wd):MS:=
  (sIf (Lk (mB (m3 leD ltD (mC (.int 0)) (AC 1) (Hu W.Web "places" (AC 0))))) (ER W.NoPlace (AJ (mC (.str "the web has no such place")) As)) sNx)
def CK (W:Wd):List D->Sto->Res D:=EG 2 (Mh W)
def bv (W:Wd):MS:=
  (BM (CD (BB 2 (CK W) (AJ (AC 0) (AJ (AC 1) As))))
  (DM (m2 ixA (Hu W.Web "near_sets" (AC 0)) (AC 1))))
def Kd (W:Wd):List D->Sto->Res D:=EG 2 (bv W)
def Jq (W:Wd):MS:=
  (BM (BZ 2 (Pg (AC 1) (mC (.int 0))))
  (BM (BZ 3 (DB (CN (AJ (AC 1) As))))
  (BM (E8 (Pc (AC 3)) (BM (BZ 4 (DB (CN As)))
  (BM (HF (E1 (AC 3)) (tgN 5)
  (HF (E1 (BB 2 (Kd W) (AJ (AC 0) (AJ (AC 5) As)))) (tgN 6)
  (sIf (mB (m2 (inA true) (AC 6) (AC 2))) (BM (Ii (AC 2) (AC 6) (m2 Do (m2 ixA (AC 2) (AC 5)) (mC (.int 1))))
  (CD (FA (AC 4) (AC 6)))) sNx)))
  (BZ 3 (AC 4)))) wN)
  (DM (AC 2)))))
def Cc (W:Wd):List D->Sto->Res D:=EG 7 (Jq W)
def Ls (W:Wd):MS:=
  (BM (BZ 1 (DB (CN As)))
  (BM (BZ 2 Ph)
  (BM (HF (iR1 (AJ (Hu W.Web "places" (AC 0)) As)) (tgN 3)
  (sIf (mB (m2 (inA true) (AC 3) (AC 2))) (BM (BZ 4 (BB 2 (Cc W) (AJ (AC 0) (AJ (AC 3) As))))
  (BM (CD (LQ (AC 2) (AC 4)))
  (CD (FA (AC 1) (Gn (ET (AC 4))))))) sNx))
  (DM (AC 1)))))
def FZ (W:Wd):List D->Sto->Res D:=EG 5 (Ls W)
def FJ (W:Wd):MS:=
  (BM (CD (BB 2 (CK W) (AJ (AC 0) (AJ (AC 1) As))))
  (BM (CD (BB 2 (CK W) (AJ (AC 0) (AJ (AC 2) As))))
  (BM (BZ 3 (BB 2 (Cc W) (AJ (AC 0) (AJ (AC 2) As))))
  (BM (sIf (mB (m2 (inA true) (AC 1) (AC 3))) (DM (mC .non)) sNx)
  (BM (BZ 4 (DB (CN (AJ (AC 1) As))))
  (BM (E8 (mB (m2 (eqD true) (m2 ixA (AC 4) (T0 (mC (.int 1)))) (AC 2))) (BM (BZ 5 (m2 ixA (AC 4) (T0 (mC (.int 1)))))
  (CD (FA (AC 4) (mQ Nn (JN (DB (EU 1 (E1 (BB 2 (Kd W) (AJ (AC 0) (AJ (AC 5) As)))) (tgN 0) (mB (m2 ltD (m2 ixA (AC 4) (AC 0)) (m2 ixA (AC 4) (AC 6)))) (AC 0)))))))) wN)
  (DM (AC 4))))))))
def FH (W:Wd):List D->Sto->Res D:=EG 6 (FJ W)
def Gv (W:Wd):MS:=
  (BM (BZ 1 Ph)
  (BM (HF (E1 (BB 1 (FZ W) (AJ (AC 0) As))) (tgN 2)
  (CD (LQ (AC 1) (BB 2 (Cc W) (AJ (AC 0) (AJ (m2 ixA (AC 2) (mC (.int 0))) As))))))
  (DM (AC 1))))
def DO (W:Wd):List D->Sto->Res D:=EG 3 (Gv W)
def Dm (W:Wd):MS:=
  (BM (HF (E1 (Hu W.Web "ties" (AC 0))) (Fx 2 (B7 (tgN 2) (B7 (tgN 3) GX)))
  (sIf (mB (m2 (eqD false) (m2 Cw (m2 ixA (AC 1) (AC 2)) (mC (.int 2))) (m2 Cw (m2 ixA (AC 1) (AC 3)) (mC (.int 2))))) (DM (G6 (AJ (AC 2) (AJ (AC 3) As)))) sNx))
  (DM (mC .non)))
def DK (W:Wd):List D->Sto->Res D:=EG 4 (Dm W)
def FK (W:Wd):MS:=
  (BM (BZ 1 (BB 1 (DO W) (AJ (AC 0) As)))
  (BM (sIf (mB (m2 (Qj true) (BB 2 (DK W) (AJ (AC 0) (AJ (AC 1) As))) (mC .non))) (DM (mC .non)) sNx)
  (DM (Gn (DB (EU 1 (iR1 (AJ (Hu W.Web "places" (AC 0)) As)) (tgN 0) Fn (m2 Cw (m2 ixA (AC 2) (AC 0)) (mC (.int 2)))))))))
def G0 (W:Wd):List D->Sto->Res D:=EG 2 (FK W)
def NV (W:Wd):MS:=
  (BM (BZ 2 (DB (EU 2 (SG (AC 0)) (Fx 2 (B7 (tgN 0) (B7 (tgN 1) GX))) (mB (m2 (eqD false) (m2 ixA (AC 3) (AC 0)) (AC 1))) (AC 0))))
  (DM (m2 Do (Pd (AC 0) (KP (m2 ixA (AC 2) (T0 (mC (.int 1))))) PX) (Pf (Pd (AC 1) (KP (m2 Do (m2 ixA (AC 2) (T0 (mC (.int 1)))) (mC (.int 1)))) PX)))))
def NT (W:Wd):List D->Sto->Res D:=EG 3 (NV W)
def Lu (W:Wd):MS:=
  (BM (BZ 1 (BB 2 (DK W) (AJ (AC 0) (AJ (BB 1 (DO W) (AJ (AC 0) As)) As))))
  (BM (sIf (mB (m2 (Qj false) (AC 1) (mC .non))) (DM (mC .non)) sNx)
  (BM (BZ 2 (m2 ixA (DB (EU 1 (E1 (BB 1 (FZ W) (AJ (AC 0) As))) (tgN 0) (mB (m2 (inA false) (m2 ixA (AC 2) (mC (.int 0))) (AC 0))) (m2 ixA (AC 0) (mC (.int 0))))) (mC (.int 0))))
  (DM (BB 2 (NT W) (AJ (BB 3 (FH W) (AJ (AC 0) (AJ (AC 2) (AJ (m2 ixA (AC 1) (mC (.int 0))) As)))) (AJ (BB 3 (FH W) (AJ (AC 0) (AJ (AC 2) (AJ (m2 ixA (AC 1) (mC (.int 1))) As)))) As)))))))
def Gu (W:Wd):List D->Sto->Res D:=EG 3 (Lu W)
def ID (W:Wd):MS:=
  (BM (sIf (mB (m2 ltD (AC 1) (Go (AC 0)))) (DM (m2 ixA (AC 0) (AC 1))) sNx)
  (DM (mC (.int 0))))
def D4 (W:Wd):List D->Sto->Res D:=EG 2 (ID W)
def Ml (W:Wd):MS:=
  (BM (BZ 2 (m2 Cw (m2 Pb (m2 Do (m2 Cw (AC 0) (mC (.int 2147483647))) (AC 1)) (mC (.int 48271))) (mC (.int 2147483647))))
  (DM (m2 Cw (m2 Pb (AC 2) (AC 2)) (mC (.int 2147483629)))))
def B6 (W:Wd):List D->Sto->Res D:=EG 3 (Ml W)
def Jr (W:Wd):MS:=
  (DM (Jx (mIs (isB "int") (λ_=>none) (AC 0)) (Wm (mIs (isB "bool") (λ_=>none) (AC 0)))))
def Ha (W:Wd):List D->Sto->Res D:=EG 1 (Jr W)
def Nx (W:Wd):MS:=
  (BM (BZ 2 (DB (CN (AJ (Go (AC 0)) As))))
  (BM (HF (iR1 (AJ (mC (.int 24)) As)) (tgN 3)
  (BM (BZ 4 (OX (AC 0) (KP (m2 Do (AC 1) (AC 3))) PX (KP (mC (.int 24)))))
  (sIf (mB (m2 (eqD true) (AC 4) (DB (CN As)))) (CD (FA (AC 2) (Vl (AC 4)))) sNx)))
  (DM (AC 2))))
def Fm (W:Wd):List D->Sto->Res D:=EG 5 (Nx W)
def Nv (W:Wd):MS:=
  (BM (BZ 3 (DB (CN As)))
  (BM (BZ 4 (mC (.int 0)))
  (BM (HF (iR2 (AJ (mC (.int 1)) (AJ (AC 1) As))) (tgN 5)
  (HF (iR1 (AJ (AC 5) As)) (tgN 6)
  (BM (BZ 7 (m2 ixA (AC 0) (m2 Cw (AC 4) (Go (AC 0)))))
  (BM (BZ 4 (m2 Do (AC 4) (mC (.int 1))))
  (sIf (mB (m2 ltD (m2 Cw (BB 2 (B6 W) (AJ (AC 7) (AJ (m2 Do (m2 Pb (mC (.int 7)) (AC 6)) (m2 Pb (mC (.int 61)) (AC 5))) As))) (mC (.int 6))) (AC 2))) (CD (FA (AC 3) (G6 (AJ (AC 6) (AJ (AC 5) As))))) sNx)))))
  (DM (AC 3)))))
def G9 (W:Wd):List D->Sto->Res D:=EG 8 (Nv W)
def G1 (W:Wd):MS:=
  (BM (BZ 2 (DB (CN As)))
  (BM (HF (iR1 (AJ (Go (AC 0)) As)) (tgN 3)
  (sIf (mB (m2 (eqD false) (m2 Cw (BB 2 (B6 W) (AJ (AC 1) (AJ (AC 3) As))) (mC (.int 2))) (mC (.int 0)))) (CD (FA (AC 2) (m2 ixA (AC 0) (AC 3)))) (CD (FA (AC 2) (G6 (AJ (m2 ixA (m2 ixA (AC 0) (AC 3)) (mC (.int 1))) (AJ (m2 ixA (m2 ixA (AC 0) (AC 3)) (mC (.int 0))) As)))))))
  (BM (sIf (mB (m2 (eqD false) (m2 Cw (AC 1) (mC (.int 2))) (mC (.int 1)))) (CD (am (AC 2))) sNx)
  (DM (AC 2)))))
def Dk (W:Wd):List D->Sto->Res D:=EG 4 (G1 W)
def Mj (W:Wd):MS:=
  (BM (BZ 2 (DB (EU 1 (iR1 (AJ (AC 1) As)) (tgN 0) Fn (DB (CN As)))))
  (BM (HF (E1 (AC 0)) (Fx 2 (B7 (tgN 3) (B7 (tgN 4) GX)))
  (BM (CD (FA (m2 ixA (AC 2) (AC 3)) (AC 4)))
  (CD (FA (m2 ixA (AC 2) (AC 4)) (AC 3)))))
  (DM (DB (EU 1 (E1 (AC 2)) (tgN 0) Fn (ET (AC 0)))))))
def Hc (W:Wd):List D->Sto->Res D:=EG 5 (Mj W)
def Ip (W:Wd):MS:=
  (BM (BZ 1 (BB 2 (D4 W) (AJ (AC 0) (AJ (mC (.int 0)) As))))
  (BM (BZ 2 (m2 Do (mC (.int 1)) (m2 Cw (AC 1) (mC (.int 14)))))
  (BM (BZ 3 (BB 2 (Fm W) (AJ (AC 0) (AJ (mC (.int 1)) As))))
  (BM (BZ 4 (m2 Do (mC (.int 1)) (m2 Cw (m2 Fk (AC 1) (mC (.int 5))) (mC (.int 6)))))
  (BM (sIf (mB (m2 (eqD false) (m2 Cw (m2 Fk (AC 1) (mC (.int 14))) (mC (.int 8))) (mC (.int 3)))) (BM (BZ 2 (m2 Do (mC (.int 15)) (m2 Cw (m2 Fk (AC 1) (mC (.int 112))) (mC (.int 46)))))
  (BZ 4 (mC (.int 1)))) sNx)
  (BM (BZ 5 (DB (CN As)))
  (BM (HF (E1 (BB 3 (G9 W) (AJ (AC 3) (AJ (AC 2) (AJ (AC 4) As))))) (Fx 2 (B7 (tgN 6) (B7 (tgN 7) GX)))
  (sIf (mB (m2 (eqD true) (m2 Cw (BB 2 (B6 W) (AJ (AC 1) (AJ (m2 Do (mC (.int 501)) (AC 6)) As))) (mC (.int 2))) (m2 Cw (BB 2 (B6 W) (AJ (AC 1) (AJ (m2 Do (mC (.int 501)) (AC 7)) As))) (mC (.int 2))))) (CD (FA (AC 5) (G6 (AJ (AC 6) (AJ (AC 7) As))))) sNx))
  (DM (G6 (AJ (AC 2) (AJ (AC 5) As)))))))))))
def FI (W:Wd):List D->Sto->Res D:=EG 8 (Ip W)
def Em (W:Wd):MS:=
  (BM (sIf (mOr (mB (m2 gtD (m2 Cw (AC 2) (mC (.int 3))) (mC (.int 0)))) (mB (m2 ltD (AC 0) (mC (.int 2))))) (DM (AC 1)) sNx)
  (BM (BZ 3 (m2 Cw (m2 Fk (AC 2) (mC (.int 3))) (m2 Zr (AC 0) (mC (.int 1)))))
  (DM (m2 Do (AC 1) (DB (EU 1 (E1 (DB (CN (AJ (G6 (AJ (AC 3) (AJ (m2 Do (AC 3) (mC (.int 1))) As))) As)))) (tgN 0) (mB (m2 (inA true) (AC 0) (AC 2))) (AC 0)))))))
def GN (W:Wd):List D->Sto->Res D:=EG 4 (Em W)
def Mi (W:Wd):MS:=
  (DM (Jx (m2 (eqD false) (Hu W.Web "places" (AC 0)) (AC 1)) (m2 (eqD false) (Hu W.Web "ties" (AC 0)) (Gn (ET (AC 2))))))
def Hb (W:Wd):List D->Sto->Res D:=EG 3 (Mi W)
def HM (W:Wd):MS:=
  (BM (BZ 2 (DB (CN (AJ (AC 1) As))))
  (BM (BZ 3 (mC (.int 0)))
  (BM (E8 (mB (m2 ltD (AC 3) (Go (AC 2)))) (BM (CD (Mb (AC 2) (DB (EU 1 (E1 (m2 ixA (AC 0) (m2 ixA (AC 2) (AC 3)))) (tgN 0) (mB (m2 (inA true) (AC 0) (AC 3))) (AC 0)))))
  (BZ 3 (m2 Do (AC 3) (mC (.int 1))))) wN)
  (DM (mQ Nn (JN (AC 2)))))))
def HJ (W:Wd):List D->Sto->Res D:=EG 4 (HM W)
def HN (W:Wd):MS:=
  (BM (sIf (mOr (Lk (mB (mIs (isB "tuple") (λ_=>none) (AC 0)))) (mOr (mB (m2 (eqD true) (Go (AC 0)) (AC 1))) (Lk (mB (mQ Yq (JN (DB (EU 1 (E1 (AC 0)) (tgN 0) Fn (BB 1 (Ha W) (AJ (AC 0) As)))))))))) (DM (mC (.bl false))) sNx)
  (BM (sIf (mOr (Lk (mB (mQ Yq (JN (DB (EU 1 (E1 (AC 0)) (tgN 0) Fn (m2 (inA false) (AC 0) (G6 (AJ (mC (.int 0)) (AJ (mC (.int 1)) As)))))))))) (mB (mQ fw (JN (DB (EU 1 (E1 (AC 2)) (tgN 0) Fn (m2 (eqD false) (m2 ixA (AC 1) (m2 ixA (AC 0) (mC (.int 0)))) (m2 ixA (AC 1) (m2 ixA (AC 0) (mC (.int 1))))))))))) (DM (mC (.bl false))) sNx)
  (DM (mQ Yq (JN (DB (EU 1 (iRP (AJ (mC (.int 0)) (AJ (AC 1) (AJ (m2 Do (mC (.int 1)) (m2 Fk (AC 1) (mC (.int 8)))) As)))) (tgN 0) Fn (m2 (eqD false) (m2 ixA (AC 1) (BB 2 (HJ W) (AJ (AC 4) (AJ (AC 0) As)))) (mC (.int 0))))))))))
def HK (W:Wd):List D->Sto->Res D:=EG 4 (HN W)
def Kl (W:Wd):MS:=
  (BM (sIf (mOr (Lk (mB (mIs (isB "list") (λ_=>none) (AC 0)))) (mOr (mB (m2 ltD (Go (AC 0)) (mC (.int 3)))) (mOr (mB (m2 (eqD false) (m2 Cw (Go (AC 0)) (mC (.int 2))) (mC (.int 0)))) (mB (m2 (eqD true) (OY (AC 0)) (Go (AC 0))))))) (DM (mC (.bl false))) sNx)
  (BM (HF (iR1 (AJ (Go (AC 0)) As)) (tgN 2)
  (sIf (mOr (Lk (Pc (BB 1 (Ha W) (AJ (m2 ixA (AC 0) (AC 2)) As)))) (mOr (Lk (mB (m3 leD ltD (mC (.int 0)) (m2 ixA (AC 0) (AC 2)) (Go (AC 1))))) (mB (m2 (inA true) (m2 ixA (AC 0) (m2 Zr (AC 2) (mC (.int 1)))) (m2 ixA (AC 1) (m2 ixA (AC 0) (AC 2))))))) (DM (mC (.bl false))) sNx))
  (DM (mC (.bl true)))))
def HA (W:Wd):List D->Sto->Res D:=EG 3 (Kl W)
def UP (W:Wd):MS:=
  (BM (BZ 1 (BB 2 (D4 W) (AJ (AC 0) (AJ (mC (.int 0)) As))))
  (BM (Xq (BB 1 (FI W) (AJ (AC 0) As)) (Fx 2 (B7 (tgN 2) (B7 (tgN 3) GX))))
  (BM (BZ 3 (BB 3 (GN W) (AJ (AC 2) (AJ (AC 3) (AJ (m2 Fk (AC 1) (mC (.int 7))) As)))))
  (BM (sIf (T1 (mB (m2 ltD (AC 2) (mC (.int 15)))) (mB (m2 (eqD false) (m2 Cw (m2 Fk (AC 1) (mC (.int 3))) (mC (.int 4))) (mC (.int 1))))) (BZ 3 (BB 3 (G9 W) (AJ (BB 2 (Fm W) (AJ (AC 0) (AJ (mC (.int 1)) As))) (AJ (AC 2) (AJ (m2 Do (mC (.int 1)) (m2 Cw (m2 Fk (AC 1) (mC (.int 5))) (mC (.int 6)))) As))))) sNx)
  (BM (BZ 4 (Pe W.Web 3 (Hz W) (AJ (AC 2) (AJ (BB 2 (Dk W) (AJ (AC 3) (AJ (AC 1) As))) As))))
  (BM (BZ 5 (BB 2 (Hc W) (AJ (AC 3) (AJ (AC 2) As))))
  (BM (BZ 6 (BB 1 (G0 W) (AJ (AC 4) As)))
  (BM (BZ 7 (BB 1 (Gu W) (AJ (AC 4) As)))
  (BM (sIf (mB (m2 (Qj false) (AC 6) (mC .non))) (BM (sIf (Lk (Pc (BB 2 (HA W) (AJ (AC 7) (AJ (AC 5) As))))) (DM (mC (.bl false))) sNx)
  (BM (BZ 8 (DB (mN T3 (JN (AC 7)))))
  (BM (CD (FA (AC 7) (mC (.int 0))))
  (DM (Jx (m2 (eqD false) (BB 1 (Gu W) (AJ (AC 4) As)) (AC 8)) (BB 3 (Hb W) (AJ (AC 4) (AJ (AC 2) (AJ (AC 3) As))))))))) sNx)
  (DM (Jx (m2 (Qj false) (AC 7) (mC .non)) (Jx (BB 4 (HK W) (AJ (AC 6) (AJ (AC 2) (AJ (AC 3) (AJ (AC 5) As))))) (BB 3 (Hb W) (AJ (AC 4) (AJ (AC 2) (AJ (AC 3) As))))))))))))))))
def bX (W:Wd):List D->Sto->Res D:=EG 9 (UP W)
structure Txt (K:AA) (mg:Str->Option AD) (W:Wd) where
 d_checked_ties:Dfn K mg "checked_ties" "checked_ties" Dw ["places", "ties"]
 d_near_sets_of:Dfn K mg "near_sets_of" "near_sets_of" Dv ["places", "ties"]
 d_Web_init:Mtd K "__init__" "Web.__init__" Gi ["self", "places", "ties"]
 d_refuse_no_place:Dfn K mg "refuse_no_place" "refuse_no_place" C1 ["web", "place"]
 d_near:Dfn K mg "near" "near" ND ["web", "place"]
 d_steps_from:Dfn K mg "steps_from" "steps_from" Eu ["web", "start"]
 d_parts_of:Dfn K mg "parts_of" "parts_of" Gg ["web"]
 d_way_between:Dfn K mg "way_between" "way_between" EJ ["web", "one", "other"]
 d_steps_in_parts:Dfn K mg "steps_in_parts" "steps_in_parts" DL ["web"]
 d_first_clash:Dfn K mg "first_clash" "first_clash" EL ["web", "steps"]
 d_two_colours:Dfn K mg "two_colours" "two_colours" EK ["web"]
 d_ring_of:Dfn K mg "ring_of" "ring_of" Hl ["one", "other"]
 d_odd_ring:Dfn K mg "odd_ring" "odd_ring" Gh ["web"]
 d__law_cell_at:Dfn K mg "_law_cell_at" "_law_cell_at" Dy ["script", "k"]
 d__law_mixed:Dfn K mg "_law_mixed" "_law_mixed" Ey ["cell", "salt"]
 d__law_whole:Dfn K mg "_law_whole" "_law_whole" Ev ["found"]
 d__law_pool:Dfn K mg "_law_pool" "_law_pool" Fg ["script", "start"]
 d__law_ties:Dfn K mg "_law_ties" "_law_ties" Fe ["pool", "many", "thick"]
 d__law_turned:Dfn K mg "_law_turned" "_law_turned" EM ["ties", "cell"]
 d__law_nears:Dfn K mg "_law_nears" "_law_nears" Ex ["ties", "many"]
 d__law_halves:Dfn K mg "_law_halves" "_law_halves" EN ["script"]
 d__law_knotted:Dfn K mg "_law_knotted" "_law_knotted" Dx ["many", "ties", "cell"]
 d__law_stays:Dfn K mg "_law_stays" "_law_stays" Ew ["web", "many", "ties"]
 d__law_least_of:Dfn K mg "_law_least_of" "_law_least_of" Db ["nears", "place"]
 d__law_coloured:Dfn K mg "_law_coloured" "_law_coloured" Dc ["found", "many", "ties", "nears"]
 d__law_ring:Dfn K mg "_law_ring" "_law_ring" Ff ["found", "nears"]
 d_law:Dfn K mg "law" "law" Q1 ["script"]
 c_Web:Own K mg "Web" W.Web d_Web_init.f
 n_Web_places:IG K W.Web "places"
 n_Web_ties:IG K W.Web "ties"
 n_Web_near_sets:IG K W.Web "near_sets"
 x_BadPlaces:Xcl K mg "BadPlaces" W.BadPlaces
 x_BadTie:Xcl K mg "BadTie" W.BadTie
 x_NoPlace:Xcl K mg "NoPlace" W.NoPlace
 nd:W.excs.Nodup
 b_all:mg "all" = none
 b_any:mg "any" = none
 b_bool:mg "bool" = none
 b_enumerate:mg "enumerate" = none
 b_int:mg "int" = none
 b_isinstance:mg "isinstance" = none
 b_len:mg "len" = none
 b_list:mg "list" = none
 b_max:mg "max" = none
 b_min:mg "min" = none
 b_range:mg "range" = none
 b_reversed:mg "reversed" = none
 b_set:mg "set" = none
 b_sorted:mg "sorted" = none
 b_sum:mg "sum" = none
 b_tuple:mg "tuple" = none
 g_MOST_PLACES:∃tk,mg "MOST_PLACES" = some (.int 60 tk)
section
variable {P:Aq} {w:BF} {K:AA} {mg:Str->Option AD} {base:Bq} {W:Wd}
theorem OC:Bx ["places", "ties", "found", "one", "other", "tie"] ["places", "ties"] (An Dw):=Gm
theorem OH (T:Txt K mg W):Dp P w K mg base (CXG P w) 1 T.d_checked_ties.f T.d_checked_ties.fd ["places", "ties"] (spM K 2 (GM W)):=by
 refine CB (k:=0) T.d_checked_ties.F OC rfl λ_ _ _ _ _ _ hr O hu nd pn E'=>?_
 exact (Ad (CO 2 nd bP)
  (Ad (GC (BH O).own rfl (El (AE (pv 1))) (Lp rfl (Df (Cr 3 nd) (Df (Cr 4 nd) Jn)))
  (Ad (CO 5 nd (Ka (AQ (fP rfl rfl T.b_min (AQ (AE (pv 3)) (AQ (AE (pv 4)) A1))) (AQ (fQ rfl rfl T.b_max (AQ (AE (pv 3)) (AQ (AE (pv 4)) A1))) A1))))
  (Ad (EA (Ch (JL hu) (CF hu (AE (pv 5)) ge_int) (CF hu (AE (pv 5)) ge_int) (CM _)) (Av (KY (BH O) rfl T.x_BadTie.xc rfl T.x_BadTie.m (AQ NR A1))) CP)
  (Ad (EA (Vr (LR (Ch LP (CF hu (AE (pv 5)) ge_int) ge_int (CM _)) (NQ (Ch lm (CF hu (AE (pv 5)) ge_int) (AE (pv 0)) (CM _))))) (Av (KY (BH O) rfl T.x_BadTie.xc rfl T.x_BadTie.m (AQ NR A1))) CP)
  (Ad (EA (gt hu (AE (pv 5)) (AE (pv 2))) (Av (KY (BH O) rfl T.x_BadTie.xc rfl T.x_BadTie.m (AQ NR A1))) CP)
  (Av (Wt (BD (Y3 (by decide:1<=64) _) hu) (AE (pv 2)) (AE (pv 5)) Pu rfl)))))))
  (Av (B3 (JS rfl T.b_tuple (JT rfl rfl T.b_sorted (AE (pv 2))))))))
theorem OB:Bx ["places", "ties", "rows", "one", "other"] ["places", "ties"] (An Dv):=Gm
theorem OG (T:Txt K mg W):Dp P w K mg base (CXG P w) 1 T.d_near_sets_of.f T.d_near_sets_of.fd ["places", "ties"] (spM K 2 (GK W)):=by
 refine CB (k:=0) T.d_near_sets_of.F OB rfl λ_ _ _ _ _ _ hr O hu nd pn E'=>?_
 exact (Ad (SI (i:=2) (own:=["place"]) (N':=["place", "·1", "·2", "·3", "·4", "·5"]) rfl rfl nd rfl (by first | exact QG rfl | exact QF rfl) (EV (by kernel_rfl)) (Fj rfl T.b_range (AQ (AE (pv 0)) A1)) (λ_ _ _ _ _ _=>(Cr 0 (by decide +kernel:(["place", "·1", "·2", "·3", "·4", "·5"]:List Str).Nodup))) (λ_ _ _ _ _ _=>GF) (λ_ _ _ _ _ _=>(C7 (Gr A1))))
  (Ad (GC (BH O).own rfl (El (AE (pv 1))) (Lp rfl (Df (Cr 3 nd) (Df (Cr 4 nd) Jn)))
  (Ad (C4 (DN (CF hu (AE (pv 2)) (AE (pv 3))) (AE (pv 4))))
  (Av (C4 (DN (CF hu (AE (pv 2)) (AE (pv 4))) (AE (pv 3)))))))
  (Av (B3 (JS rfl T.b_tuple (C7 (GD (own:=["row"]) (N':=["row", "·1", "·2", "·3", "·4", "·5"]) rfl (EV (by kernel_rfl)) (El (AE (pv 2))) (λ_ _ _ _ _ _=>(Cr 0 (by decide +kernel:(["row", "·1", "·2", "·3", "·4", "·5"]:List Str).Nodup))) (λ_ _ _ _ _ _=>GF) (λ_ _ _ _ _ _=>(JS rfl T.b_tuple (JT rfl rfl T.b_sorted (AE (pv 0))))))))))))
theorem Tf:Bx ["self", "places", "ties"] ["self", "places", "ties"] (An Gi):=Gm
theorem Tr (T:Txt K mg W):Dp P w K mg base (CXG P w) 2 T.d_Web_init.f T.d_Web_init.fd ["self", "places", "ties"] (spM K 3 (Hz W)):=by
 refine CB (k:=1) T.d_Web_init.F Tf rfl λ_ _ _ _ _ _ hr O hu nd pn E'=>?_
 exact (Ad (EA (Jm (Ps Wh Wh ge_int (AE (pv 1)) (UC rfl T.g_MOST_PLACES.choose_spec))) (Av (KY (BH O) rfl T.x_BadPlaces.xc rfl T.x_BadPlaces.m (AQ (fU (SK NR (SK (j9 (UC rfl T.g_MOST_PLACES.choose_spec)) (SK NR jy)))) A1))) CP)
  (Ad (Vt T.c_Web.cl T.n_Web_places (AE (pv 0)) (AE (pv 1)) rfl)
  (Ad (Vt T.c_Web.cl T.n_Web_ties (AE (pv 0)) (BO (OH T) (BH O).pass (hr.mono (by decide)) rfl T.d_checked_ties.m T.d_checked_ties.kp T.d_checked_ties.b (AQ (AE (pv 1)) (AQ (AE (pv 2)) A1))) rfl)
  (Av (Vt T.c_Web.cl T.n_Web_near_sets (AE (pv 0)) (BO (OG T) (BH O).pass (hr.mono (by decide)) rfl T.d_near_sets_of.m T.d_near_sets_of.kp T.d_near_sets_of.b (AQ (AE (pv 1)) (AQ (Kc T.c_Web.cl T.n_Web_ties (AE (pv 0)) rfl) A1))) rfl)))))
theorem Lg:Bx ["web", "place"] ["web", "place"] (An C1):=Gm
theorem FX (T:Txt K mg W):Dp P w K mg base (CXG P w) 1 T.d_refuse_no_place.f T.d_refuse_no_place.fd ["web", "place"] (spM K 2 (CK W)):=by
 refine CB (k:=0) T.d_refuse_no_place.F Lg rfl λ_ _ _ _ _ _ hr O hu nd pn E'=>?_
 exact (Av (EA (Jm (Ps Wh LP ge_int (AE (pv 1)) (Kc T.c_Web.cl T.n_Web_places (AE (pv 0)) rfl))) (Av (KY (BH O) rfl T.x_NoPlace.xc rfl T.x_NoPlace.m (AQ NR A1))) CP))
theorem db:Bx ["web", "place"] ["web", "place"] (An ND):=Gm
theorem Wg (T:Txt K mg W):Dp P w K mg base (CXG P w) 2 T.d_near.f T.d_near.fd ["web", "place"] (spM K 2 (Kd W)):=by
 refine CB (k:=1) T.d_near.F db rfl λ_ _ _ _ _ _ hr O hu nd pn E'=>?_
 exact (Ad (C4 (BO (FX T) (BH O).pass (hr.mono (by decide)) rfl T.d_refuse_no_place.m T.d_refuse_no_place.kp T.d_refuse_no_place.b (AQ (AE (pv 0)) (AQ (AE (pv 1)) A1))))
  (Av (B3 (CF hu (Kc T.c_Web.cl T.n_Web_near_sets (AE (pv 0)) rfl) (AE (pv 1))))))
theorem QY:Bx ["web", "start", "steps", "layer", "further", "place", "beside"] ["web", "start"] (An Eu):=Gm
theorem Ik (T:Txt K mg W):Dp P w K mg base (CXG P w) 3 T.d_steps_from.f T.d_steps_from.fd ["web", "start"] (spM K 2 (Cc W)):=by
 refine CB (k:=2) T.d_steps_from.F QY rfl λ_ _ _ _ _ _ hr O hu nd pn E'=>?_
 exact (Ad (CO 2 nd (bQ (AE (pv 1)) ge_int))
  (Ad (CO 3 nd (C7 (Gr (AQ (AE (pv 1)) A1))))
  (Ad (Pt wN (BH O).own (Pr (AE (pv 3))) (Ad (CO 4 nd (C7 (Gr A1)))
  (Ad (GC (BH O).own rfl (El (AE (pv 3))) (Cr 5 nd)
  (Av (GC (BH O).own rfl (El (BO (Wg T) (BH O).pass (hr.mono (by decide)) rfl T.d_near.m T.d_near.kp T.d_near.b (AQ (AE (pv 0)) (AQ (AE (pv 5)) A1)))) (Cr 6 nd)
  (Av (EA (JR hu (AE (pv 6)) (AE (pv 2))) (Ad (Wt (BD (Y3 (by decide:1<=64) _) hu) (AE (pv 2)) (AE (pv 6)) (BV Ek (CF hu (AE (pv 2)) (AE (pv 5))) ge_int) rfl)
  (Av (C4 (DN (AE (pv 4)) (AE (pv 6)))))) CP)))))
  (Av (CO 3 nd (AE (pv 4)))))))
  (Av (B3 (AE (pv 2)))))))
theorem Td:Bx ["web", "parts", "seen", "place", "steps"] ["web"] (An Gg):=Gm
theorem Nj (T:Txt K mg W):Dp P w K mg base (CXG P w) 4 T.d_parts_of.f T.d_parts_of.fd ["web"] (spM K 1 (FZ W)):=by
 refine CB (k:=3) T.d_parts_of.F Td rfl λ_ _ _ _ _ _ hr O hu nd pn E'=>?_
 exact (Ad (CO 1 nd (C7 (Gr A1)))
  (Ad (CO 2 nd UD)
  (Ad (GC (BH O).own rfl (Fj rfl T.b_range (AQ (Kc T.c_Web.cl T.n_Web_places (AE (pv 0)) rfl) A1)) (Cr 3 nd)
  (Av (EA (JR hu (AE (pv 3)) (AE (pv 2))) (Ad (CO 4 nd (BO (Ik T) (BH O).pass (hr.mono (by decide)) rfl T.d_steps_from.m T.d_steps_from.kp T.d_steps_from.b (AQ (AE (pv 0)) (AQ (AE (pv 3)) A1))))
  (Ad (C4 (Wx (AE (pv 2)) (AE (pv 4))))
  (Av (C4 (DN (AE (pv 1)) (JS rfl T.b_tuple (JT rfl rfl T.b_sorted (AE (pv 4))))))))) CP)))
  (Av (B3 (AE (pv 1)))))))
theorem PF:Bx ["web", "one", "other", "steps", "way", "here"] ["web", "one", "other"] (An EJ):=Gm
theorem KN (T:Txt K mg W):Dp P w K mg base (CXG P w) 4 T.d_way_between.f T.d_way_between.fd ["web", "one", "other"] (spM K 3 (FH W)):=by
 refine CB (k:=3) T.d_way_between.F PF rfl λ_ _ _ _ _ _ hr O hu nd pn E'=>?_
 exact (Ad (C4 (BO (FX T) (BH O).pass (hr.mono (by decide)) rfl T.d_refuse_no_place.m T.d_refuse_no_place.kp T.d_refuse_no_place.b (AQ (AE (pv 0)) (AQ (AE (pv 1)) A1))))
  (Ad (C4 (BO (FX T) (BH O).pass (hr.mono (by decide)) rfl T.d_refuse_no_place.m T.d_refuse_no_place.kp T.d_refuse_no_place.b (AQ (AE (pv 0)) (AQ (AE (pv 2)) A1))))
  (Ad (CO 3 nd (BO (Ik T) (BH O).pass (hr.mono (by decide)) rfl T.d_steps_from.m T.d_steps_from.kp T.d_steps_from.b (AQ (AE (pv 0)) (AQ (AE (pv 2)) A1))))
  (Ad (EA (JR hu (AE (pv 1)) (AE (pv 3))) (Av (B3 Kb)) CP)
  (Ad (CO 4 nd (C7 (Gr (AQ (AE (pv 1)) A1))))
  (Ad (Pt wN (BH O).own (Ch (Ts hu) (CF hu (AE (pv 4)) (SM ge_int)) (AE (pv 2)) (CM _)) (Ad (CO 5 nd (CF hu (AE (pv 4)) (SM ge_int)))
  (Av (C4 (DN (AE (pv 4)) (Wv rfl rfl T.b_min (C7 (GD (own:=["place"]) (N':=["place", "·1", "·2", "·3", "steps", "·5", "here"]) rfl (EV (by kernel_rfl)) (El (BO (Wg T) (BH O).pass (hr.mono (by decide)) rfl T.d_near.m T.d_near.kp T.d_near.b (AQ (AE (pv 0)) (AQ (AE (pv 5)) A1)))) (λ_ _ _ _ _ _=>(Cr 0 (by decide +kernel:(["place", "·1", "·2", "·3", "steps", "·5", "here"]:List Str).Nodup))) (λ_ _ _ _ _ _=>(KZ (Ch LP (CF hu (AE (pv 4)) (AE (pv 0))) (CF hu (AE (pv 4)) (AE (pv 6))) (CM _)))) (λ_ _ _ _ _ _=>(AE (pv 0)))))))))))
  (Av (B3 (AE (pv 4))))))))))
theorem MP:Bx ["web", "steps", "part"] ["web"] (An DL):=Gm
theorem IW (T:Txt K mg W):Dp P w K mg base (CXG P w) 5 T.d_steps_in_parts.f T.d_steps_in_parts.fd ["web"] (spM K 1 (DO W)):=by
 refine CB (k:=4) T.d_steps_in_parts.F MP rfl λ_ _ _ _ _ _ hr O hu nd pn E'=>?_
 exact (Ad (CO 1 nd UD)
  (Ad (GC (BH O).own rfl (El (BO (Nj T) (BH O).pass (hr.mono (by decide)) rfl T.d_parts_of.m T.d_parts_of.kp T.d_parts_of.b (AQ (AE (pv 0)) A1))) (Cr 2 nd)
  (Av (C4 (Wx (AE (pv 1)) (BO (Ik T) (BH O).pass (hr.mono (by decide)) rfl T.d_steps_from.m T.d_steps_from.kp T.d_steps_from.b (AQ (AE (pv 0)) (AQ (CF hu (AE (pv 2)) ge_int) A1)))))))
  (Av (B3 (AE (pv 1))))))
theorem PJ:Bx ["web", "steps", "one", "other"] ["web", "steps"] (An EL):=Gm
theorem KO (T:Txt K mg W):Dp P w K mg base (CXG P w) 1 T.d_first_clash.f T.d_first_clash.fd ["web", "steps"] (spM K 2 (DK W)):=by
 refine CB (k:=0) T.d_first_clash.F PJ rfl λ_ _ _ _ _ _ hr O hu nd pn E'=>?_
 exact (Ad (GC (BH O).own rfl (El (Kc T.c_Web.cl T.n_Web_ties (AE (pv 0)) rfl)) (Lp rfl (Df (Cr 2 nd) (Df (Cr 3 nd) Jn)))
  (Av (EA (Ch (JL hu) (BV Dj (CF hu (AE (pv 1)) (AE (pv 2))) ge_int) (BV Dj (CF hu (AE (pv 1)) (AE (pv 3))) ge_int) (CM _)) (Av (B3 (Ka (AQ (AE (pv 2)) (AQ (AE (pv 3)) A1))))) CP)))
  (Av (B3 Kb)))
theorem PH:Bx ["web", "steps"] ["web"] (An EK):=Gm
theorem PQ (T:Txt K mg W):Dp P w K mg base (CXG P w) 6 T.d_two_colours.f T.d_two_colours.fd ["web"] (spM K 1 (G0 W)):=by
 refine CB (k:=5) T.d_two_colours.F PH rfl λ_ _ _ _ _ _ hr O hu nd pn E'=>?_
 exact (Ad (CO 1 nd (BO (IW T) (BH O).pass (hr.mono (by decide)) rfl T.d_steps_in_parts.m T.d_steps_in_parts.kp T.d_steps_in_parts.b (AQ (AE (pv 0)) A1)))
  (Ad (EA (Ch ef (BO (KO T) (BH O).pass (hr.mono (by decide)) rfl T.d_first_clash.m T.d_first_clash.kp T.d_first_clash.b (AQ (AE (pv 0)) (AQ (AE (pv 1)) A1))) Kb (CM _)) (Av (B3 Kb)) CP)
  (Av (B3 (JS rfl T.b_tuple (C7 (GD (own:=["place"]) (N':=["place", "·1", "steps"]) rfl (EV (by kernel_rfl)) (Fj rfl T.b_range (AQ (Kc T.c_Web.cl T.n_Web_places (AE (pv 0)) rfl) A1)) (λ_ _ _ _ _ _=>(Cr 0 (by decide +kernel:(["place", "·1", "steps"]:List Str).Nodup))) (λ_ _ _ _ _ _=>GF) (λ_ _ _ _ _ _=>(BV Dj (CF hu (AE (pv 2)) (AE (pv 0))) ge_int)))))))))
theorem VU:Bx ["one", "other", "shared"] ["one", "other"] (An Hl):=Gm
theorem Ve (T:Txt K mg W):Dp P w K mg base (CXG P w) 1 T.d_ring_of.f T.d_ring_of.fd ["one", "other"] (spM K 2 (NT W)):=by
 refine CB (k:=0) T.d_ring_of.F VU rfl λ_ _ _ _ _ _ hr O hu nd pn E'=>?_
 exact (Ad (SI (i:=2) (own:=["at", "place"]) (N':=["at", "place", "·2", "other", "·4"]) rfl rfl nd rfl (by first | exact QG rfl | exact QF rfl) (EV (by kernel_rfl)) (fM rfl T.b_enumerate (AE (pv 0))) (λ_ _ _ _ _ _=>(Lp rfl (Df (Cr 0 (by decide +kernel:(["at", "place", "·2", "other", "·4"]:List Str).Nodup)) (Df (Cr 1 (by decide +kernel:(["at", "place", "·2", "other", "·4"]:List Str).Nodup)) Jn)))) (λ_ _ _ _ _ _=>(KZ (Ch (JL hu) (CF hu (AE (pv 3)) (AE (pv 0))) (AE (pv 1)) (CM _)))) (λ_ _ _ _ _ _=>(AE (pv 0))))
  (Av (B3 (BV Ek (UB (AE (pv 0)) (Od (CF hu (AE (pv 2)) (SM ge_int))) SJ) (Vw rfl rfl T.b_list rfl T.b_reversed (UB (AE (pv 1)) (Od (BV Ek (CF hu (AE (pv 2)) (SM ge_int)) ge_int)) SJ))))))
theorem Te:Bx ["web", "clash", "start"] ["web"] (An Gh):=Gm
theorem Nk (T:Txt K mg W):Dp P w K mg base (CXG P w) 6 T.d_odd_ring.f T.d_odd_ring.fd ["web"] (spM K 1 (Gu W)):=by
 refine CB (k:=5) T.d_odd_ring.F Te rfl λ_ _ _ _ _ _ hr O hu nd pn E'=>?_
 exact (Ad (CO 1 nd (BO (KO T) (BH O).pass (hr.mono (by decide)) rfl T.d_first_clash.m T.d_first_clash.kp T.d_first_clash.b (AQ (AE (pv 0)) (AQ (BO (IW T) (BH O).pass (hr.mono (by decide)) rfl T.d_steps_in_parts.m T.d_steps_in_parts.kp T.d_steps_in_parts.b (AQ (AE (pv 0)) A1)) A1))))
  (Ad (EA (Ch Vf (AE (pv 1)) Kb (CM _)) (Av (B3 Kb)) CP)
  (Ad (CO 2 nd (CF hu (C7 (GD (own:=["part"]) (N':=["part", "·1", "clash", "·3"]) rfl (EV (by kernel_rfl)) (El (BO (Nj T) (BH O).pass (hr.mono (by decide)) rfl T.d_parts_of.m T.d_parts_of.kp T.d_parts_of.b (AQ (AE (pv 0)) A1))) (λ_ _ _ _ _ _=>(Cr 0 (by decide +kernel:(["part", "·1", "clash", "·3"]:List Str).Nodup))) (λ_ _ _ _ _ _=>(KZ (gt hu (CF hu (AE (pv 2)) ge_int) (AE (pv 0))))) (λ_ _ _ _ _ _=>(CF hu (AE (pv 0)) ge_int)))) ge_int))
  (Av (B3 (BO (Ve T) (BH O).pass (hr.mono (by decide)) rfl T.d_ring_of.m T.d_ring_of.kp T.d_ring_of.b (AQ (BO (KN T) (BH O).pass (hr.mono (by decide)) rfl T.d_way_between.m T.d_way_between.kp T.d_way_between.b (AQ (AE (pv 0)) (AQ (AE (pv 2)) (AQ (CF hu (AE (pv 1)) ge_int) A1)))) (AQ (BO (KN T) (BH O).pass (hr.mono (by decide)) rfl T.d_way_between.m T.d_way_between.kp T.d_way_between.b (AQ (AE (pv 0)) (AQ (AE (pv 2)) (AQ (CF hu (AE (pv 1)) ge_int) A1)))) A1))))))))
theorem OE:Bx ["script", "k"] ["script", "k"] (An Dy):=Gm
theorem Jw (T:Txt K mg W):Dp P w K mg base (CXG P w) 1 T.d__law_cell_at.f T.d__law_cell_at.fd ["script", "k"] (spM K 2 (D4 W)):=by
 refine CB (k:=0) T.d__law_cell_at.F OE rfl λ_ _ _ _ _ _ hr O hu nd pn E'=>?_
 exact (Ad (EA (Ch LP (AE (pv 1)) (Hy rfl T.b_len (AE (pv 0))) (CM _)) (Av (B3 (CF hu (AE (pv 0)) (AE (pv 1))))) CP)
  (Av (B3 ge_int)))
theorem Qc:Bx ["cell", "salt", "mixed"] ["cell", "salt"] (An Ey):=Gm
theorem Gz (T:Txt K mg W):Dp P w K mg base (CXG P w) 1 T.d__law_mixed.f T.d__law_mixed.fd ["cell", "salt"] (spM K 2 (B6 W)):=by
 refine CB (k:=0) T.d__law_mixed.F Qc rfl λ_ _ _ _ _ _ hr O hu nd pn E'=>?_
 exact (Ad (CO 2 nd (BV Dj (BV R5 (BV Ek (BV Dj (AE (pv 0)) ge_int) (AE (pv 1))) ge_int) ge_int))
  (Av (B3 (BV Dj (BV R5 (AE (pv 2)) (AE (pv 2))) ge_int))))
theorem QZ:Bx ["found"] ["found"] (An Ev):=Gm
theorem LN (T:Txt K mg W):Dp P w K mg base (CXG P w) 1 T.d__law_whole.f T.d__law_whole.fd ["found"] (spM K 1 (Ha W)):=by
 refine CB (k:=0) T.d__law_whole.F QZ rfl λ_ _ _ _ _ _ hr O hu nd pn E'=>?_
 exact (Av (B3 (L2.Pv (Ww (c:=.ty "int") (cv:=.type "int") (λ_ r=>r) fG (λ_ _ z=>nomatch z) rfl T.b_isinstance (AE (pv 0)) (OV rfl T.b_int nG rfl)) (SL (j8 (Ww (c:=.ty "bool") (cv:=.type "bool") (λ_ r=>r) bI (λ_ _ z=>nomatch z) rfl T.b_isinstance (AE (pv 0)) (OV rfl T.b_bool nH rfl)))))))
theorem R1:Bx ["script", "start", "pool", "k", "more"] ["script", "start"] (An Fg):=Gm
theorem MX (T:Txt K mg W):Dp P w K mg base (CXG P w) 1 T.d__law_pool.f T.d__law_pool.fd ["script", "start"] (spM K 2 (Fm W)):=by
 refine CB (k:=0) T.d__law_pool.F R1 rfl λ_ _ _ _ _ _ hr O hu nd pn E'=>?_
 exact (Ad (CO 2 nd (C7 (Gr (AQ (Hy rfl T.b_len (AE (pv 0))) A1))))
  (Ad (GC (BH O).own rfl (Fj rfl T.b_range (AQ ge_int A1)) (Cr 3 nd)
  (Ad (CO 4 nd (YR (AE (pv 0)) (Od (BV Ek (AE (pv 1)) (AE (pv 3)))) SJ (Od ge_int)))
  (Av (EA (Ch (Ts hu) (AE (pv 4)) (C7 (Gr A1)) (CM _)) (Av (C4 (DN (AE (pv 2)) (j7 rfl rfl T.b_sum (AE (pv 4)))))) CP))))
  (Av (B3 (AE (pv 2))))))
theorem Rz:Bx ["pool", "many", "thick", "ties", "at", "other", "one", "cell"] ["pool", "many", "thick"] (An Fe):=Gm
theorem MW (T:Txt K mg W):Dp P w K mg base (CXG P w) 2 T.d__law_ties.f T.d__law_ties.fd ["pool", "many", "thick"] (spM K 3 (G9 W)):=by
 refine CB (k:=1) T.d__law_ties.F Rz rfl λ_ _ _ _ _ _ hr O hu nd pn E'=>?_
 exact (Ad (CO 3 nd (C7 (Gr A1)))
  (Ad (CO 4 nd ge_int)
  (Ad (GC (BH O).own rfl (YQ rfl T.b_range (AQ ge_int (AQ (AE (pv 1)) A1))) (Cr 5 nd)
  (Av (GC (BH O).own rfl (Fj rfl T.b_range (AQ (AE (pv 5)) A1)) (Cr 6 nd)
  (Ad (CO 7 nd (CF hu (AE (pv 0)) (BV Dj (AE (pv 4)) (Hy rfl T.b_len (AE (pv 0))))))
  (Ad (CO 4 nd (BV Ek (AE (pv 4)) ge_int))
  (Av (EA (Ch LP (BV Dj (BO (Gz T) (BH O).pass (hr.mono (by decide)) rfl T.d__law_mixed.m T.d__law_mixed.kp T.d__law_mixed.b (AQ (AE (pv 7)) (AQ (BV Ek (BV R5 ge_int (AE (pv 6))) (BV R5 ge_int (AE (pv 5)))) A1))) ge_int) (AE (pv 2)) (CM _)) (Av (C4 (DN (AE (pv 3)) (Ka (AQ (AE (pv 6)) (AQ (AE (pv 5)) A1)))))) CP)))))))
  (Av (B3 (AE (pv 3)))))))
theorem PK:Bx ["ties", "cell", "told", "k"] ["ties", "cell"] (An EM):=Gm
theorem PR (T:Txt K mg W):Dp P w K mg base (CXG P w) 2 T.d__law_turned.f T.d__law_turned.fd ["ties", "cell"] (spM K 2 (Dk W)):=by
 refine CB (k:=1) T.d__law_turned.F PK rfl λ_ _ _ _ _ _ hr O hu nd pn E'=>?_
 exact (Ad (CO 2 nd (C7 (Gr A1)))
  (Ad (GC (BH O).own rfl (Fj rfl T.b_range (AQ (Hy rfl T.b_len (AE (pv 0))) A1)) (Cr 3 nd)
  (Av (EA (Ch (JL hu) (BV Dj (BO (Gz T) (BH O).pass (hr.mono (by decide)) rfl T.d__law_mixed.m T.d__law_mixed.kp T.d__law_mixed.b (AQ (AE (pv 1)) (AQ (AE (pv 3)) A1))) ge_int) ge_int (CM _)) (Av (C4 (DN (AE (pv 2)) (CF hu (AE (pv 0)) (AE (pv 3)))))) (Av (C4 (DN (AE (pv 2)) (Ka (AQ (CF hu (CF hu (AE (pv 0)) (AE (pv 3))) ge_int) (AQ (CF hu (CF hu (AE (pv 0)) (AE (pv 3))) ge_int) A1)))))))))
  (Ad (EA (Ch (JL hu) (BV Dj (AE (pv 1)) ge_int) ge_int (CM _)) (Av (C4 (Vv (AE (pv 2))))) CP)
  (Av (B3 (AE (pv 2)))))))
theorem Qb:Bx ["ties", "many", "nears", "one", "other"] ["ties", "many"] (An Ex):=Gm
theorem Qg (T:Txt K mg W):Dp P w K mg base (CXG P w) 1 T.d__law_nears.f T.d__law_nears.fd ["ties", "many"] (spM K 2 (Hc W)):=by
 refine CB (k:=0) T.d__law_nears.F Qb rfl λ_ _ _ _ _ _ hr O hu nd pn E'=>?_
 exact (Ad (SI (i:=2) (own:=["place"]) (N':=["place", "·1", "·2", "·3", "·4", "·5"]) rfl rfl nd rfl (by first | exact QG rfl | exact QF rfl) (EV (by kernel_rfl)) (Fj rfl T.b_range (AQ (AE (pv 1)) A1)) (λ_ _ _ _ _ _=>(Cr 0 (by decide +kernel:(["place", "·1", "·2", "·3", "·4", "·5"]:List Str).Nodup))) (λ_ _ _ _ _ _=>GF) (λ_ _ _ _ _ _=>(C7 (Gr A1))))
  (Ad (GC (BH O).own rfl (El (AE (pv 0))) (Lp rfl (Df (Cr 3 nd) (Df (Cr 4 nd) Jn)))
  (Ad (C4 (DN (CF hu (AE (pv 2)) (AE (pv 3))) (AE (pv 4))))
  (Av (C4 (DN (CF hu (AE (pv 2)) (AE (pv 4))) (AE (pv 3)))))))
  (Av (B3 (C7 (GD (own:=["some"]) (N':=["some", "·1", "·2", "·3", "·4", "·5"]) rfl (EV (by kernel_rfl)) (El (AE (pv 2))) (λ_ _ _ _ _ _=>(Cr 0 (by decide +kernel:(["some", "·1", "·2", "·3", "·4", "·5"]:List Str).Nodup))) (λ_ _ _ _ _ _=>GF) (λ_ _ _ _ _ _=>(JT rfl rfl T.b_sorted (AE (pv 0))))))))))
theorem PL:Bx ["script", "first", "many", "pool", "thick", "ties", "one", "other"] ["script"] (An EN):=Gm
theorem PU (T:Txt K mg W):Dp P w K mg base (CXG P w) 3 T.d__law_halves.f T.d__law_halves.fd ["script"] (spM K 1 (FI W)):=by
 refine CB (k:=2) T.d__law_halves.F PL rfl λ_ _ _ _ _ _ hr O hu nd pn E'=>?_
 exact (Ad (CO 1 nd (BO (Jw T) (BH O).pass (hr.mono (by decide)) rfl T.d__law_cell_at.m T.d__law_cell_at.kp T.d__law_cell_at.b (AQ (AE (pv 0)) (AQ ge_int A1))))
  (Ad (CO 2 nd (BV Ek ge_int (BV Dj (AE (pv 1)) ge_int)))
  (Ad (CO 3 nd (BO (MX T) (BH O).pass (hr.mono (by decide)) rfl T.d__law_pool.m T.d__law_pool.kp T.d__law_pool.b (AQ (AE (pv 0)) (AQ ge_int A1))))
  (Ad (CO 4 nd (BV Ek ge_int (BV Dj (BV IX (AE (pv 1)) ge_int) ge_int)))
  (Ad (EA (Ch (JL hu) (BV Dj (BV IX (AE (pv 1)) ge_int) ge_int) ge_int (CM _)) (Ad (CO 2 nd (BV Ek ge_int (BV Dj (BV IX (AE (pv 1)) ge_int) ge_int)))
  (Av (CO 4 nd ge_int))) CP)
  (Ad (CO 5 nd (C7 (Gr A1)))
  (Ad (GC (BH O).own rfl (El (BO (MW T) (BH O).pass (hr.mono (by decide)) rfl T.d__law_ties.m T.d__law_ties.kp T.d__law_ties.b (AQ (AE (pv 3)) (AQ (AE (pv 2)) (AQ (AE (pv 4)) A1))))) (Lp rfl (Df (Cr 6 nd) (Df (Cr 7 nd) Jn)))
  (Av (EA (Ch (Ts hu) (BV Dj (BO (Gz T) (BH O).pass (hr.mono (by decide)) rfl T.d__law_mixed.m T.d__law_mixed.kp T.d__law_mixed.b (AQ (AE (pv 1)) (AQ (BV Ek ge_int (AE (pv 6))) A1))) ge_int) (BV Dj (BO (Gz T) (BH O).pass (hr.mono (by decide)) rfl T.d__law_mixed.m T.d__law_mixed.kp T.d__law_mixed.b (AQ (AE (pv 1)) (AQ (BV Ek ge_int (AE (pv 7))) A1))) ge_int) (CM _)) (Av (C4 (DN (AE (pv 5)) (Ka (AQ (AE (pv 6)) (AQ (AE (pv 7)) A1)))))) CP)))
  (Av (B3 (Ka (AQ (AE (pv 2)) (AQ (AE (pv 5)) A1))))))))))))
theorem OD:Bx ["many", "ties", "cell", "at"] ["many", "ties", "cell"] (An Dx):=Gm
theorem OI (T:Txt K mg W):Dp P w K mg base (CXG P w) 1 T.d__law_knotted.f T.d__law_knotted.fd ["many", "ties", "cell"] (spM K 3 (GN W)):=by
 refine CB (k:=0) T.d__law_knotted.F OD rfl λ_ _ _ _ _ _ hr O hu nd pn E'=>?_
 exact (Ad (EA (Vr (LR (Ch ll (BV Dj (AE (pv 2)) ge_int) ge_int (CM _)) (NQ (Ch LP (AE (pv 0)) ge_int (CM _))))) (Av (B3 (AE (pv 1)))) CP)
  (Ad (CO 3 nd (BV Dj (BV IX (AE (pv 2)) ge_int) (BV aS (AE (pv 0)) ge_int)))
  (Av (B3 (BV Ek (AE (pv 1)) (C7 (GD (own:=["tie"]) (N':=["tie", "·1", "ties", "·3", "·4"]) rfl (EV (by kernel_rfl)) (El (C7 (Gr (AQ (Ka (AQ (AE (pv 3)) (AQ (BV Ek (AE (pv 3)) ge_int) A1))) A1)))) (λ_ _ _ _ _ _=>(Cr 0 (by decide +kernel:(["tie", "·1", "ties", "·3", "·4"]:List Str).Nodup))) (λ_ _ _ _ _ _=>(KZ (JR hu (AE (pv 0)) (AE (pv 2))))) (λ_ _ _ _ _ _=>(AE (pv 0))))))))))
theorem Qa:Bx ["web", "many", "ties"] ["web", "many", "ties"] (An Ew):=Gm
theorem LO (T:Txt K mg W):Dp P w K mg base (CXG P w) 1 T.d__law_stays.f T.d__law_stays.fd ["web", "many", "ties"] (spM K 3 (Hb W)):=by
 refine CB (k:=0) T.d__law_stays.F Qa rfl λ_ _ _ _ _ _ hr O hu nd pn E'=>?_
 exact (Av (B3 (L2.Pv (Lq (JL hu) (Kc T.c_Web.cl T.n_Web_places (AE (pv 0)) rfl) (AE (pv 1)) (CM _)) (SL (Lq (JL hu) (Kc T.c_Web.cl T.n_Web_ties (AE (pv 0)) rfl) (JS rfl T.b_tuple (JT rfl rfl T.b_sorted (AE (pv 2)))) (CM _))))))
theorem NB:Bx ["nears", "place", "line", "at"] ["nears", "place"] (An Db):=Gm
theorem NH (T:Txt K mg W):Dp P w K mg base (CXG P w) 1 T.d__law_least_of.f T.d__law_least_of.fd ["nears", "place"] (spM K 2 (HJ W)):=by
 refine CB (k:=0) T.d__law_least_of.F NB rfl λ_ _ _ _ _ _ hr O hu nd pn E'=>?_
 exact (Ad (CO 2 nd (C7 (Gr (AQ (AE (pv 1)) A1))))
  (Ad (CO 3 nd ge_int)
  (Ad (Pt wN (BH O).own (Ch LP (AE (pv 3)) (Hy rfl T.b_len (AE (pv 2))) (CM _)) (Ad (C4 (YT (AE (pv 2)) (C7 (GD (own:=["other"]) (N':=["other", "·1", "·2", "line", "·4"]) rfl (EV (by kernel_rfl)) (El (CF hu (AE (pv 0)) (CF hu (AE (pv 2)) (AE (pv 3))))) (λ_ _ _ _ _ _=>(Cr 0 (by decide +kernel:(["other", "·1", "·2", "line", "·4"]:List Str).Nodup))) (λ_ _ _ _ _ _=>(KZ (JR hu (AE (pv 0)) (AE (pv 3))))) (λ_ _ _ _ _ _=>(AE (pv 0)))))))
  (Av (CO 3 nd (BV Ek (AE (pv 3)) ge_int)))))
  (Av (B3 (Wv rfl rfl T.b_min (AE (pv 2))))))))
theorem NC:Bx ["found", "many", "ties", "nears"] ["found", "many", "ties", "nears"] (An Dc):=Gm
theorem NI (T:Txt K mg W):Dp P w K mg base (CXG P w) 2 T.d__law_coloured.f T.d__law_coloured.fd ["found", "many", "ties", "nears"] (spM K 4 (HK W)):=by
 refine CB (k:=1) T.d__law_coloured.F NC rfl λ_ _ _ _ _ _ hr O hu nd pn E'=>?_
 exact (Ad (EA (Vr (LR (Jm (Pq (Ww (c:=.ty "tuple") (cv:=.type "tuple") (λ_ r=>r) YH (λ_ _ z=>nomatch z) rfl T.b_isinstance (AE (pv 0)) (OV rfl T.b_tuple N5 rfl)))) (LR (Ch (Ts hu) (Hy rfl T.b_len (AE (pv 0))) (AE (pv 1)) (CM _)) (NQ (Jm (Pq (Vx rfl rfl T.b_all (C7 (GD (own:=["colour"]) (N':=["colour", "·1", "·2", "·3", "·4"]) rfl (EV (by kernel_rfl)) (El (AE (pv 0))) (λ_ _ _ _ _ _=>(Cr 0 (by decide +kernel:(["colour", "·1", "·2", "·3", "·4"]:List Str).Nodup))) (λ_ _ _ _ _ _=>GF) (λ_ _ _ _ _ _=>(BO (LN T) (good_none rfl).pass (hr.mono (by decide)) rfl T.d__law_whole.m T.d__law_whole.kp T.d__law_whole.b (AQ (AE (pv 0)) A1)))))))))))) (Av (B3 Pu)) CP)
  (Ad (EA (Vr (LR (Jm (Pq (Vx rfl rfl T.b_all (C7 (GD (own:=["colour"]) (N':=["colour", "·1", "·2", "·3", "·4"]) rfl (EV (by kernel_rfl)) (El (AE (pv 0))) (λ_ _ _ _ _ _=>(Cr 0 (by decide +kernel:(["colour", "·1", "·2", "·3", "·4"]:List Str).Nodup))) (λ_ _ _ _ _ _=>GF) (λ_ _ _ _ _ _=>(mO hu (AE (pv 0)) (Ka (AQ ge_int (AQ ge_int A1)))))))))) (NQ (Pq (kB rfl rfl T.b_any (C7 (GD (own:=["tie"]) (N':=["tie", "found", "·2", "·3", "·4"]) rfl (EV (by kernel_rfl)) (El (AE (pv 2))) (λ_ _ _ _ _ _=>(Cr 0 (by decide +kernel:(["tie", "found", "·2", "·3", "·4"]:List Str).Nodup))) (λ_ _ _ _ _ _=>GF) (λ_ _ _ _ _ _=>(Lq (JL hu) (CF hu (AE (pv 1)) (CF hu (AE (pv 0)) ge_int)) (CF hu (AE (pv 1)) (CF hu (AE (pv 0)) ge_int)) (CM _)))))))))) (Av (B3 Pu)) CP)
  (Av (B3 (Vx rfl rfl T.b_all (C7 (GD (own:=["place"]) (N':=["place", "found", "·2", "·3", "nears"]) rfl (EV (by kernel_rfl)) (YO rfl T.b_range (AQ ge_int (AQ (AE (pv 1)) (AQ (BV Ek ge_int (BV IX (AE (pv 1)) ge_int)) A1)))) (λ_ _ _ _ _ _=>(Cr 0 (by decide +kernel:(["place", "found", "·2", "·3", "nears"]:List Str).Nodup))) (λ_ _ _ _ _ _=>GF) (λ_ _ _ _ _ _=>(Lq (JL hu) (CF hu (AE (pv 1)) (BO (NH T) (good_none rfl).pass (hr.mono (by decide)) rfl T.d__law_least_of.m T.d__law_least_of.kp T.d__law_least_of.b (AQ (AE (pv 4)) (AQ (AE (pv 0)) A1)))) ge_int (CM _))))))))))
theorem R0:Bx ["found", "nears", "k"] ["found", "nears"] (An Ff):=Gm
theorem R4 (T:Txt K mg W):Dp P w K mg base (CXG P w) 2 T.d__law_ring.f T.d__law_ring.fd ["found", "nears"] (spM K 2 (HA W)):=by
 refine CB (k:=1) T.d__law_ring.F R0 rfl λ_ _ _ _ _ _ hr O hu nd pn E'=>?_
 exact (Ad (EA (Vr (LR (Jm (Pq (Ww (c:=.ty "list") (cv:=.type "list") (λ_ r=>r) bH (λ_ _ z=>nomatch z) rfl T.b_isinstance (AE (pv 0)) (OV rfl T.b_list IP rfl)))) (LR (Ch LP (Hy rfl T.b_len (AE (pv 0))) ge_int (CM _)) (LR (Ch (JL hu) (BV Dj (Hy rfl T.b_len (AE (pv 0))) ge_int) ge_int (CM _)) (NQ (Ch (Ts hu) (YS rfl rfl T.b_len rfl T.b_set (AE (pv 0))) (Hy rfl T.b_len (AE (pv 0))) (CM _))))))) (Av (B3 Pu)) CP)
  (Ad (GC (BH O).own rfl (Fj rfl T.b_range (AQ (Hy rfl T.b_len (AE (pv 0))) A1)) (Cr 2 nd)
  (Av (EA (Vr (LR (Jm (Pr (BO (LN T) (BH O).pass (hr.mono (by decide)) rfl T.d__law_whole.m T.d__law_whole.kp T.d__law_whole.b (AQ (CF hu (AE (pv 0)) (AE (pv 2))) A1)))) (LR (Jm (Ps Wh LP ge_int (CF hu (AE (pv 0)) (AE (pv 2))) (Hy rfl T.b_len (AE (pv 1))))) (NQ (JR hu (CF hu (AE (pv 0)) (BV aS (AE (pv 2)) ge_int)) (CF hu (AE (pv 1)) (CF hu (AE (pv 0)) (AE (pv 2))))))))) (Av (B3 Pu)) CP)))
  (Av (B3 Pu))))
theorem iq:Bx ["script", "first", "many", "ties", "web", "nears", "found", "ring", "held"] ["script"] (An Q1):=Gm
theorem jc (T:Txt K mg W):Dp P w K mg base (CXG P w) 7 T.d_law.f T.d_law.fd ["script"] (spM K 1 (bX W)):=by
 refine CB (k:=6) T.d_law.F iq rfl λ_ _ _ _ _ _ hr O hu nd pn E'=>?_
 exact (Ad (CO 1 nd (BO (Jw T) (BH O).pass (hr.mono (by decide)) rfl T.d__law_cell_at.m T.d__law_cell_at.kp T.d__law_cell_at.b (AQ (AE (pv 0)) (AQ ge_int A1))))
  (Ad (jx (BO (PU T) (BH O).pass (hr.mono (by decide)) rfl T.d__law_halves.m T.d__law_halves.kp T.d__law_halves.b (AQ (AE (pv 0)) A1)) (Lp rfl (Df (Cr 2 nd) (Df (Cr 3 nd) Jn))))
  (Ad (CO 3 nd (BO (OI T) (BH O).pass (hr.mono (by decide)) rfl T.d__law_knotted.m T.d__law_knotted.kp T.d__law_knotted.b (AQ (AE (pv 2)) (AQ (AE (pv 3)) (AQ (BV IX (AE (pv 1)) ge_int) A1)))))
  (Ad (EA (Vr (ju (Ch LP (AE (pv 2)) ge_int (CM _)) (fK (Ch (JL hu) (BV Dj (BV IX (AE (pv 1)) ge_int) ge_int) ge_int (CM _))))) (Av (CO 3 nd (BO (MW T) (BH O).pass (hr.mono (by decide)) rfl T.d__law_ties.m T.d__law_ties.kp T.d__law_ties.b (AQ (BO (MX T) (BH O).pass (hr.mono (by decide)) rfl T.d__law_pool.m T.d__law_pool.kp T.d__law_pool.b (AQ (AE (pv 0)) (AQ ge_int A1))) (AQ (AE (pv 2)) (AQ (BV Ek ge_int (BV Dj (BV IX (AE (pv 1)) ge_int) ge_int)) A1)))))) CP)
  (Ad (CO 4 nd (fR T.c_Web.mk' (Tr T) (BH O).pass (hr.mono (by decide)) rfl T.c_Web.m T.d_Web_init.b (AQ (AE (pv 2)) (AQ (BO (PR T) (BH O).pass (hr.mono (by decide)) rfl T.d__law_turned.m T.d__law_turned.kp T.d__law_turned.b (AQ (AE (pv 3)) (AQ (AE (pv 1)) A1))) A1))))
  (Ad (CO 5 nd (BO (Qg T) (BH O).pass (hr.mono (by decide)) rfl T.d__law_nears.m T.d__law_nears.kp T.d__law_nears.b (AQ (AE (pv 3)) (AQ (AE (pv 2)) A1))))
  (Ad (CO 6 nd (BO (PQ T) (BH O).pass (hr.mono (by decide)) rfl T.d_two_colours.m T.d_two_colours.kp T.d_two_colours.b (AQ (AE (pv 4)) A1)))
  (Ad (CO 7 nd (BO (Nk T) (BH O).pass (hr.mono (by decide)) rfl T.d_odd_ring.m T.d_odd_ring.kp T.d_odd_ring.b (AQ (AE (pv 4)) A1)))
  (Ad (EA (Ch Vf (AE (pv 6)) Kb (CM _)) (Ad (EA (Jm (Pr (BO (R4 T) (BH O).pass (hr.mono (by decide)) rfl T.d__law_ring.m T.d__law_ring.kp T.d__law_ring.b (AQ (AE (pv 7)) (AQ (AE (pv 5)) A1))))) (Av (B3 Pu)) CP)
  (Ad (CO 8 nd (fS rfl T.b_list (AE (pv 7))))
  (Ad (C4 (DN (AE (pv 7)) ge_int))
  (Av (B3 (L2.Pv (Lq (JL hu) (BO (Nk T) (BH O).pass (hr.mono (by decide)) rfl T.d_odd_ring.m T.d_odd_ring.kp T.d_odd_ring.b (AQ (AE (pv 4)) A1)) (AE (pv 8)) (CM _)) (SL (BO (LO T) (BH O).pass (hr.mono (by decide)) rfl T.d__law_stays.m T.d__law_stays.kp T.d__law_stays.b (AQ (AE (pv 4)) (AQ (AE (pv 2)) (AQ (AE (pv 3)) A1))))))))))) CP)
  (Av (B3 (L2.Pv (Lq Vf (AE (pv 7)) Kb (CM _)) (L2.Pv (BO (NI T) (BH O).pass (hr.mono (by decide)) rfl T.d__law_coloured.m T.d__law_coloured.kp T.d__law_coloured.b (AQ (AE (pv 6)) (AQ (AE (pv 2)) (AQ (AE (pv 3)) (AQ (AE (pv 5)) A1))))) (SL (BO (LO T) (BH O).pass (hr.mono (by decide)) rfl T.d__law_stays.m T.d__law_stays.kp T.d__law_stays.b (AQ (AE (pv 4)) (AQ (AE (pv 2)) (AQ (AE (pv 3)) A1))))))))))))))))))
end
end M
namespace M
open PySem L2
open Srt (ltL)
def pairD (x:Int×Int):D:=.tup [.int x.1,.int x.2]
def nrm (x:Int×Int):Int×Int:=(if x.2 < x.1 then x.2 else x.1,if x.2 > x.1 then x.2 else x.1)
def MQ (x:Int×Int):List Int:=[x.1,x.2]
def Mc (x:Int×Int):List Key:=[.inl x.1,.inl x.2]
theorem T7 {x y:Int×Int} (h:Mc x=Mc y):x=y:=by
 unfold Mc at h;simp at h;exact Qq h.1 h.2
theorem Hw:∀ns:List Int,G7 (ns.map D.int)=some ns
 | []=>rfl
 | n :: ns=>by
  rw [A5];unfold G7;rw [Hw ns];rfl
theorem PM:∀rs:List (List Int),(∀r∈rs,r≠[])->Q5 (rs.map FU)=some rs
 | [],_=>rfl
 | [] :: rs,h=>zX rfl (h [] Ag)
 | (n :: ns) :: rs,h=>by
  rw [A5];unfold FU Q5;rw [Hw,show Qt (λr:List Int=>D.tup (r.map D.int)) rs=rs.map FU from rfl,PM rs λr hr=>h r (AW _ hr)]
theorem O9 (rs:List (List Int)) (h:∀r∈rs,r≠[]):MM (rs.map FU)=some ((LL rs).map FU):=by
 unfold MM
 cases rs with
 | nil=>simp [G7,LL]
 | cons r rs=>
  have:G7 ((r :: rs).map FU)=none:=rfl;rw [this,PM _ h]
theorem Ld (ns:List Int):MM (ns.map D.int)=some ((E4 ns).map D.int):=by
 unfold MM;rw [Hw]
def LB (ps:List (Int×Int)):List (List Key×D):=ps.map λx=>(Mc (nrm x),.bl true)
theorem ah (ps:List (Int×Int)) (x:Int×Int):(EY (LB ps) (Mc (nrm x))).isSome=decide (nrm x∈ps.map nrm):=by
 unfold EY LB
 induction ps with
 | nil=>rfl
 | cons y ps ih=>
  rw [A5,BY]
  by_cases e:Mc (nrm y)=Mc (nrm x)
  ·rw [wX e]
   simp [T7 e]
  ·rw [wY e]
   have e':nrm x≠nrm y:=λz=>e (by rw [z])
   simp only [A5,Au,e',false_or];exact ih
theorem ag (ps:List (Int×Int)) (x:Int×Int) (h:nrm x∉ps.map nrm):Ij (LB ps) (Mc (nrm x)) (.bl true)=LB (ps++[x]):=by
 unfold Ij;rw [qY]
 ·simp [LB]
 ·intro z
  obtain ⟨y,hy,e⟩:=OP.mp z;obtain ⟨a,ha,rfl⟩:=A7.mp hy;exact h (by rw [<-T7 (of_decide_eq_true e)];exact XU ha)
theorem mF {S:Sto} {n:Nat} {kvs:List (List Key×D)} {x:Int×Int} (h:S[n]?=some (.dT kvs)) (neg:Bool):inA neg (pairD x) (.ref n) S=.ok (.bl (if neg then !(EY kvs (Mc x)).isSome else (EY kvs (Mc x)).isSome)) S:=by
 show FW (inD neg (pairD x) (.ref n) S) (LC neg (pairD x) (.ref n) S)=_
 have e:inD neg (pairD x) (.ref n) S=.bad:=by
  unfold inD Fy;dsimp only;rw [h]
 have e2:NU (.ref n) (pairD x) S=some (EY kvs (Mc x)):=by
  unfold NU pairD;dsimp only;rw [h];rfl
 rw [e];show LC neg (pairD x) (.ref n) S=_;unfold LC;rw [e2]
theorem bh {mo mi mv:ME} {e:Lo} {S:Sto} {d:Nat} {kvs:List (List Key×D)} {x:Int×Int} {v:D} (hv:mv e S=.ok v S) (ho:mo e S=.ok (.ref d) S) (hi:mi e S=.ok (pairD x) S) (h:S[d]?=some (.dT kvs)) (hl:kvs.length < sizeLine) :
  Ii mo mi mv e S=.ok (.nx e) (S.set d (.dT (Ij kvs (Mc x) v))):=by
 unfold Ii;rw [hv];dsimp only [Res.lift];rw [ho];dsimp only [Res.lift];rw [hi];dsimp only [Res.lift]
 have:Yf (.ref d) (pairD x) v S=some (S.set d (.dT (Ij kvs (Mc x) v))):=by
  unfold Yf pairD;dsimp only;rw [h];show (if kvs.length < sizeLine then some (S.set d (.dT (Ij kvs (Mc x) v))) else none)=_;rw [qX hl]
 rw [this]
theorem ix0 (x:Int×Int) (S:Sto):ixA (pairD x) (.int 0) S=.ok (.int x.1) S:=rfl
theorem ix1 (x:Int×Int) (S:Sto):ixA (pairD x) (.int 1) S=.ok (.int x.2) S:=rfl
def Fit (p:Int) (x:Int×Int):Prop:=(nrm x).1≠(nrm x).2/\0<=(nrm x).1/\(nrm x).2 < p
abbrev bx (W:Wd):MS:=BM (BZ 5 (G6 (AJ (mQ Q8 (AJ (AC 3) (AJ (AC 4) As))) (AJ (mQ Q9 (AJ (AC 3) (AJ (AC 4) As))) As))))
  (BM (sIf (mB (m2 (eqD false) (m2 ixA (AC 5) (mC (.int 0))) (m2 ixA (AC 5) (mC (.int 1))))) (ER W.BadTie (AJ (mC (.str "a tie has one place twice")) As)) sNx)
  (BM (sIf (mOr (mB (m2 ltD (m2 ixA (AC 5) (mC (.int 0))) (mC (.int 0)))) (mB (m2 geD (m2 ixA (AC 5) (mC (.int 1))) (AC 0)))) (ER W.BadTie (AJ (mC (.str "a tie has a place that is not there")) As)) sNx)
  (BM (sIf (mB (m2 (inA false) (AC 5) (AC 2))) (ER W.BadTie (AJ (mC (.str "a tie is there twice")) As)) sNx)
  (Ii (AC 2) (AC 5) (mC (.bl true))))))
theorem Zm {W:Wd} {p:Int} {t:D} {n:Nat} {S:Sto} {x:Int×Int} {z5:Option D} {ps:List (Int×Int)} (hn:S[n]?=some (.dT (LB ps))) (hl:ps.length<=100000) :
  (Fit p x/\nrm x∉ps.map nrm->bx W [sI p,some t,sR n,sI x.1,sI x.2,z5] S=oN [sI p,some t,sR n,sI x.1,sI x.2,some (pairD (nrm x))] (S.set n (.dT (LB (ps++[x]))))) /\
  (¬(Fit p x/\nrm x∉ps.map nrm)->bx W [sI p,some t,sR n,sI x.1,sI x.2,z5] S=.ok (.ex W.BadTie [sI p,some t,sR n,sI x.1,sI x.2,some (pairD (nrm x))]) S):=by
 have e0:BZ 5 (G6 (AJ (mQ Q8 (AJ (AC 3) (AJ (AC 4) As))) (AJ (mQ Q9 (AJ (AC 3) (AJ (AC 4) As))) As))) [sI p,some t,sR n,sI x.1,sI x.2,z5] S =
   oN [sI p,some t,sR n,sI x.1,sI x.2,some (pairD (nrm x))] S:=
  Cb (i:=5) (M7 (ds:=[.int (nrm x).1,.int (nrm x).2]) (Bo (aA (ds:=[.int x.1,.int x.2]) (S1:=S) rfl rfl) (Bo (aA (ds:=[.int x.1,.int x.2]) (S1:=S) rfl rfl) rfl)) (by simp))
 have t1:=D0 (t:=mB (m2 (eqD false) (m2 ixA (AC 5) (mC (.int 0))) (m2 ixA (AC 5) (mC (.int 1))))) (a:=ER W.BadTie (AJ (mC (.str "a tie has one place twice")) As)) (b:=sNx) (e:=[sI p,some t,sR n,sI x.1,sI x.2,some (pairD (nrm x))]) (S:=S) (S1:=S)
  (En (A2 (A2 rfl rfl (ix0 _ _)) (A2 rfl rfl (ix1 _ _)) (Kf (b:=decide ((nrm x).1=(nrm x).2)) rfl)))
 have t2:mOr (mB (m2 ltD (m2 ixA (AC 5) (mC (.int 0))) (mC (.int 0)))) (mB (m2 geD (m2 ixA (AC 5) (mC (.int 1))) (AC 0))) [sI p,some t,sR n,sI x.1,sI x.2,some (pairD (nrm x))] S=.ok (decide ((nrm x).1 < 0∨p<=(nrm x).2)) S:=by
  by_cases c:(nrm x).1 < 0
  ·rw [Vc (En (A2 (A2 rfl rfl (ix0 _ _)) rfl (Im (wX c))))]
   simp [c]
  ·rw [Vb (En (A2 (A2 rfl rfl (ix0 _ _)) rfl (Im (wY c)))),En (A2 (A2 rfl rfl (ix1 _ _)) rfl (kC (b:=decide (p<=(nrm x).2)) rfl))]
   simp [c]
 have t3:mB (m2 (inA false) (AC 5) (AC 2)) [sI p,some t,sR n,sI x.1,sI x.2,some (pairD (nrm x))] S=.ok (decide (nrm x∈ps.map nrm)) S:=by
  refine En (A2 rfl rfl ?_);rw [mF hn,<-ah];rfl
 have rz:∀s:Str,ER W.BadTie (AJ (mC (.str s)) As) [sI p,some t,sR n,sI x.1,sI x.2,some (pairD (nrm x))] S=.ok (.ex W.BadTie [sI p,some t,sR n,sI x.1,sI x.2,some (pairD (nrm x))]) S:=λs=>Tn rfl (by simp)
 constructor
 ·rintro ⟨⟨f1,f2,f3⟩,f4⟩
  rw [wY f1,qY AR] at t1;have t2':=D0 (a:=ER W.BadTie (AJ (mC (.str "a tie has a place that is not there")) As)) (b:=sNx) t2;rw [wY (by lia),qY AR] at t2';have t3':=D0 (a:=ER W.BadTie (AJ (mC (.str "a tie is there twice")) As)) (b:=sNx) t3;rw [wY f4,qY AR] at t3';unfold bx;rw [At e0,At (t1.trans rfl),At (t2'.trans rfl),At (t3'.trans rfl),bh (x:=nrm x) rfl rfl rfl hn (by unfold LB;rw [AH];exact BD hl (by decide)),ag _ _ f4]
 ·intro nf
  unfold bx;rw [At e0]
  by_cases f1:(nrm x).1=(nrm x).2
  ·rw [wX f1,qX rfl] at t1
   exact VR (t1.trans (rz _))
  rw [wY f1,qY AR] at t1;rw [At (t1.trans rfl)];have t2':=D0 (a:=ER W.BadTie (AJ (mC (.str "a tie has a place that is not there")) As)) (b:=sNx) t2
  by_cases f2:(nrm x).1 < 0∨p<=(nrm x).2
  ·rw [wX f2,qX rfl] at t2'
   exact VR (t2'.trans (rz _))
  rw [wY f2,qY AR] at t2';rw [At (t2'.trans rfl)];have t3':=D0 (a:=ER W.BadTie (AJ (mC (.str "a tie is there twice")) As)) (b:=sNx) t3
  by_cases f3:nrm x∈ps.map nrm
  ·rw [wX f3,qX rfl] at t3'
   exact VR (t3'.trans (rz _))
  ·exact zX ⟨⟨f1,by lia,by lia⟩,f3⟩ nf
theorem YJ {m:ME} {e:Lo} {S S1:Sto} {d:D} {xs:List D} (h:m e S=.ok d S1) (hx:FE d S1=some xs):E1 m e S=.ok (FE d) S1:=by
 unfold E1;rw [h];dsimp only [Res.bind];rw [hx]
def D5 (p:Int) (ps:List (Int×Int)):Prop:=(∀x∈ps,Fit p x)/\(ps.map nrm).Nodup
theorem D5.snoc {p:Int} {ps:List (Int×Int)} {x:Int×Int}:D5 p (ps++[x])↔D5 p ps/\Fit p x/\nrm x∉ps.map nrm:=by
 unfold D5;rw [BC,CL]
 constructor
 ·rintro ⟨h1,h2,h3,h4⟩
  exact ⟨⟨λy hy=>h1 y (by simp [hy]),h2⟩,h1 x (by simp),λz=>h4 _ z _ (by simp) rfl⟩
 ·rintro ⟨⟨h1,h2⟩,h3,h4⟩
  refine ⟨λy hy=>?_,h2,by simp,λa ha b hb e=>?_⟩
  ·rcases Aw.mp hy with hy | hy
   ·exact h1 y hy
   ·rw [AY.mp hy];exact h3
  ·simp at hb
   subst hb;subst e;exact h4 ha
theorem D5.take {p:Int} {ps:List (Int×Int)} (h:D5 p ps) (i:Nat):D5 p (ps.take i):=by
 refine ⟨λx hx=>h.1 x (WG hx),?_⟩;rw [iB];exact h.2.sublist (ZI _ _)
theorem take_snoc {α:Type} {l:List α} {i:Nat} {x:α} (h:l[i]?=some x):l.take (i+1)=l.take i++[x]:=by
 rw [JB,h];rfl
theorem SR (W:Wd) {p:Int} {d:D} {S:Sto} {ps:List (Int×Int)} (hv:∀S',Keeps S S'->FE d S'=some (ps.map pairD)) (hl:ps.length<=100000) :
  ∃f S',HF (E1 (AC 1)) (Fx 2 (B7 (tgN 3) (B7 (tgN 4) GX))) (bx W) [sI p,some d,sR S.length,none,none,none] (S++[.dT []])=.ok f S' /\
   ((D5 p ps/\(∃z3 z4 z5,f=.nx [sI p,some d,sR S.length,z3,z4,z5])/\S'=S++[.dT (LB ps)])∨(¬D5 p ps/\∃e',f=.ex W.BadTie e'/\Keeps S S')):=by
 rw [FY (YJ (m:=AC 1) (d:=d) (S1:=S++[.dT []]) rfl (hv _ (Keeps.app _ _)))];refine Gs (xs:=ps.map pairD) (λi e S'=>(∃z3 z4 z5,e=[sI p,some d,sR S.length,z3,z4,z5])/\S'=S++[.dT (LB (ps.take i))]/\D5 p (ps.take i)) _ ⟨⟨none,none,none,rfl⟩,by simp [LB],by simp [D5]⟩ ?_ ?_ ?_
 ·rintro i e S' ⟨_,rfl,_⟩
  exact hv _ (Keeps.app _ _)
 ·rintro i y e S' hy ⟨⟨z3,z4,z5,rfl⟩,rfl,af⟩
  rw [AX] at hy
  cases hx:ps[i]? with
  | none=>rw [hx] at hy;cases hy
  | some x=>
   rw [hx] at hy;cases hy;have hlt:=(AF.mp hx).1;refine ⟨[sI p,some d,sR S.length,sI x.1,sI x.2,z5],_,rfl,?_⟩;obtain ⟨s1,s2⟩:=Zm (W:=W) (p:=p) (t:=d) (z5:=z5) (x:=x) (Bn S (.dT (LB (ps.take i)))) (by rw [CH];lia)
   by_cases c:Fit p x/\nrm x∉(ps.take i).map nrm
   ·refine ⟨_,_,s1 c,⟨⟨_,_,_,rfl⟩,?_,?_⟩⟩
    ·rw [take_snoc hx];simp
    ·rw [take_snoc hx];exact D5.snoc.mpr ⟨af,c⟩
   ·refine ⟨_,_,s2 c,.inr ⟨λa=>c ?_,_,rfl,Keeps.app _ _⟩⟩
    have:=a.take (i+1);rw [take_snoc hx] at this;exact (D5.snoc.mp this).2
 ·rintro e S' ⟨z,rfl,af⟩
  rw [AH,B5] at *
  obtain ⟨z3,z4,z5,rfl⟩:=z;exact .inl ⟨af,⟨_,_,_,rfl⟩,rfl⟩
def Ih (ps:List (Int×Int)):List (List Int):=LL (ps.map λx=>MQ (nrm x))
theorem SS (W:Wd) {p:Int} {d:D} {S:Sto} {ps:List (Int×Int)} (hv:∀S',Keeps S S'->FE d S'=some (ps.map pairD)) (hl:ps.length<=100000) (hf:D5 p ps) :
  ∃S',GM W [.int p,d] S=.ok (.tup ((Ih ps).map FU)) S'/\Keeps S S':=by
 obtain ⟨f,S1,h1,⟨_,⟨z3,z4,z5,rfl⟩,rfl⟩ | ⟨h,_⟩⟩:=SR W hv hl (p:=p)
 ·have hi:Gp (.ref S.length) (S++[.dT (LB ps)])=some ((ps.map λx=>MQ (nrm x)).map FU):=by
   unfold Gp;dsimp only;rw [Bn];dsimp only;unfold LB;rw [BP,BP];rfl
  have hs:=JJ (m:=AC 2) (e:=[sI p,some d,sR S.length,z3,z4,z5]) (S:=S++[.dT (LB ps)]) rfl hi (O9 _ (by intro r hr;obtain ⟨x,_,rfl⟩:=A7.mp hr;simp [MQ]));refine ⟨S++[.dT (LB ps)]++[.lst ((Ih ps).map FU)],Cp ?_,(Keeps.app S _).trans (Keeps.app _ _)⟩;refine C8 (At (e:=[sI p,some d,none,none,none,none]) (e1:=[sI p,some d,sR S.length,none,none,none]) (S:=S) (S1:=S++[.dT []]) rfl) ?_;refine C8 (At h1) ?_;exact FV (JI hs (CC (Bn _ _)))
 ·exact zX hf h
end M
namespace M
open PySem L2
def Bk (ts:List (Int×Int)) (x:Nat):List Int:=ts.flatMap λt=>(if t.1=(x:Int) then [t.2] else [])++(if t.2=(x:Int) then [t.1] else [])
theorem Nl (ts:List (Int×Int)) (t:Int×Int) (x:Nat):Bk (ts++[t]) x=Bk ts x++((if t.1=(x:Int) then [t.2] else [])++(if t.2=(x:Int) then [t.1] else [])):=by
 unfold Bk;rw [List.flatMap_append];simp
def E9 (p:Nat) (F:Nat->List Int):Sto:=(AT p).map λx=>Ob.lst ((F x).map D.int)
def DU (k p:Nat):List D:=(AT p).map λx=>D.ref (k+x)
def stN (S:Sto) (p:Nat) (F:Nat->List Int):Sto:=S++E9 p F++[.lst (DU S.length p)]
theorem Gj (p:Nat) (F:Nat->List Int):(E9 p F).length=p:=by simp [E9]
theorem Ru (S:Sto) (p:Nat) (F:Nat->List Int):(stN S p F).length=S.length+p+1:=by simp [stN,Gj];lia
theorem Hk (S:Sto) (p:Nat) (F:Nat->List Int):Keeps S (stN S p F):=(Keeps.app S _).trans (Keeps.app _ _)
theorem Hr (S:Sto) (p:Nat) (F:Nat->List Int):(stN S p F)[S.length+p]?=some (.lst (DU S.length p)):=by
 have:S.length+p=(S++E9 p F).length:=by simp [Gj]
 unfold stN;rw [this];exact Bn _ _
theorem IU (S:Sto) {p a:Nat} (F:Nat->List Int) (h:a < p):(stN S p F)[S.length+a]?=some (.lst ((F a).map D.int)):=by
 unfold stN;rw [BE,A9 (by lia),Ac (by rw [Gj];lia),show S.length+a - S.length=a by lia];unfold E9;rw [AX,Bg h];rfl
theorem WY (S:Sto) {p a:Nat} (F:Nat->List Int) (ys:List Int) (h:a < p):(stN S p F).set (S.length+a) (.lst (ys.map D.int))=stN S p (λx=>if x=a then ys else F x):=by
 apply Eh
 intro j
 by_cases e:S.length+a=j
 ·subst e
  rw [Az (by rw [Ru];lia),IU _ _ h,qX rfl]
 ·rw [Am e]
  by_cases h1:j < S.length
  ·rw [(Hk S p F).2 j h1,(Hk S p _).2 j h1]
  by_cases h2:j - S.length < p
  ·have e2:j=S.length+(j - S.length):=by lia
   rw [e2,IU S F h2,IU S _ h2,qY (by lia)]
  by_cases h3:j=S.length+p
  ·subst h3
   rw [Hr,Hr]
  ·rw [BX (by rw [Ru];lia),BX (by rw [Ru];lia)]
theorem Ws {S:Sto} {p a:Nat} (F:Nat->List Int) (h:a < p):ixA (.ref (S.length+p)) (.int a) (stN S p F)=.ok (.ref (S.length+a)) (stN S p F):=by
 show FW (ixD _ _ _) _=_;have e1:Fy (.ref (S.length+p)) (stN S p F)=some (DU S.length p):=CC (Hr S p F)
 have e2:atI (DU S.length p) (a:Int)=some (.ref (S.length+a)):=by
  unfold atI ixN;rw [show (DU S.length p).length=p by simp [DU],qX (by lia),qX (by lia)];simp only [Ai,BN];unfold DU;rw [AX,Bg h];rfl
 have:ixD (.ref (S.length+p)) (.int a) (stN S p F)=.ok (.ref (S.length+a)) (stN S p F):=by
  unfold ixD;rw [e1];dsimp only;rw [e2]
 rw [this];rfl
theorem Zs (S:Sto):∀p:Nat,S++E9 (p+1) (λ_=>[])=S++E9 p (λ_=>[])++[.lst []]:=λp=>by
 unfold E9;rw [Fq,BC,BE];rfl
theorem Q4 {p:Nat} (hp:p<=60) {mp:ME} {e:Lo} {S:Sto} (h0:mp e S=.ok (.int p) S) :
  EU 1 (iR1 (AJ mp As)) (tgN 0) Fn (DB (CN As)) e S=.ok (DU S.length p) (S++E9 p λ_=>[]):=by
 have hi:iR1 (AJ mp As) e S=.ok (Dq (DH 0 p)) S:=by
  have:=Ln (ml:=AJ mp As) (e:=e) (S:=S) (S1:=S) (j:=p) (Bo h0 rfl) (by lia) (by lia);simpa using this
 obtain ⟨r,S1,q1,e',⟨z,_⟩,rfl,rfl⟩:=Mf (v:=Dq (DH 0 p)) (g:=tgN 0) (c:=Fn) (m:=DB (CN As)) (xs:=DH 0 p) (e:=none :: e) (S:=S)
  (λi e' S' acc=>(∃z,e'=z :: e)/\S'=S++E9 i (λ_=>[])/\acc=DU S.length i)
  ⟨⟨none,rfl⟩,by simp [E9],rfl⟩ (λ_ _ _ _ _=>rfl)
  (by
   rintro i d e' S' acc hd ⟨⟨z,rfl⟩,rfl,rfl⟩;obtain ⟨hi,rfl⟩:=JK hd;refine ⟨by simp [DU];exact BD (m:=60) (by lia) (by decide),some (.int (0+i)) :: e,_,rfl,true,_,rfl,.inl ⟨rfl,.ref (S++E9 i λ_=>[]).length,_,rfl,⟨_,rfl⟩,(Zs S i).symm,?_⟩⟩;unfold DU;rw [Fq,BC,Ao,Gj]
   rfl)
 rw [Hm] at q1;exact (Jp hi).trans q1
abbrev RU:MS:=BM (CD (FA (m2 ixA (AC 2) (AC 3)) (AC 4))) (CD (FA (m2 ixA (AC 2) (AC 4)) (AC 3)))
def In (p:Nat) (t:Int×Int):Prop:=0<=t.1/\t.1 < p/\0<=t.2/\t.2 < p/\t.1≠t.2
theorem Q3 {p:Nat} {S:Sto} {F:Nat->List Int} {t:Int×Int} {d0 d1:D} (ht:In p t) (hF:∀x,(F x).length < 200000) :
  RU [some d0,some d1,sR (S.length+p),sI t.1,sI t.2] (stN S p F)=.ok (.nx [some d0,some d1,sR (S.length+p),sI t.1,sI t.2])
   (stN S p λx=>F x++((if t.1=(x:Int) then [t.2] else [])++(if t.2=(x:Int) then [t.1] else []))):=by
 obtain ⟨a,ha⟩:∃a:Nat,t.1=a:=⟨t.1.toNat,by have:=ht.1;lia⟩
 obtain ⟨b,hb⟩:∃b:Nat,t.2=b:=⟨t.2.toNat,by have:=ht.2.2.1;lia⟩
 obtain ⟨_,h2,_,h4,h5⟩:=ht
 have hab:a≠b:=λe=>h5 (by rw [ha,hb,e])
 rw [ha,hb]
 have hz:∀x,((F x).map D.int).length < sizeLine:=λx=>by rw [AH];exact ko (hF x) (by decide)
 have s1:=IE (mo:=m2 ixA (AC 2) (AC 3)) (ma:=AC 4) (e:=[some d0,some d1,sR (S.length+p),sI a,sI b]) (S:=stN S p F) (S1:=stN S p F) (S2:=stN S p F) (n:=S.length+a) (y:=.int b) (A2 rfl rfl (Ws F (by lia))) (IU S F (by lia)) rfl (IU S F (by lia)) (hz a);rw [show (F a).map D.int++[D.int b]=(F a++[(b:Int)]).map D.int by simp,WY S F _ (by lia)] at s1
 have hrow:(stN S p λx=>if x=a then F a++[(b:Int)] else F x)[S.length+b]?=some (.lst ((F b).map D.int)):=by
  rw [IU S _ (by lia),qY (Bw hab)]
 have s2:=IE (mo:=m2 ixA (AC 2) (AC 4)) (ma:=AC 3) (e:=[some d0,some d1,sR (S.length+p),sI a,sI b]) (S:=stN S p λx=>if x=a then F a++[(b:Int)] else F x) (S1:=stN S p λx=>if x=a then F a++[(b:Int)] else F x) (S2:=stN S p λx=>if x=a then F a++[(b:Int)] else F x) (n:=S.length+b) (y:=.int a) (A2 rfl rfl (Ws _ (by lia))) hrow rfl hrow (hz b);rw [show (F b).map D.int++[D.int a]=(F b++[(a:Int)]).map D.int by simp,WY S _ _ (by lia)] at s2;unfold RU;rw [At (C5 s1),C5 s2]
 congr 2
 funext x
 by_cases e1:x=b
 ·subst e1
  have:¬((a:Int)=(x:Int)):=by lia
  simp [this]
 ·by_cases e2:x=a
  ·subst e2
   have:¬((b:Int)=(x:Int)):=by lia
   simp [e1,this]
  ·have h1:¬((a:Int)=(x:Int)):=by lia
   have h2:¬((b:Int)=(x:Int)):=by lia
   simp [e1,e2,h1,h2]
theorem Pa (ts:List (Int×Int)) (x:Nat):(Bk ts x).length<=2 * ts.length:=by
 unfold Bk
 induction ts with
 | nil=>simp
 | cons t ts ih=>
  rw [List.flatMap_cons,Ao,A6]
  have:((if t.1=(x:Int) then [t.2] else [])++(if t.2=(x:Int) then [t.1] else [])).length<=2:=by split <;> split <;> simp
  lia
def HE (p:Nat) (ts:List (Int×Int)):List D:=(AT p).map λx=>.tup ((E4 (Bk ts x)).map D.int)
theorem em (W:Wd) {p:Nat} (hp:p<=60) {ts:List (Int×Int)} (ht:∀t∈ts,In p t) (hl:ts.length<=90000) (S:Sto) :
  ∃S',GK W [.int p,.tup (ts.map pairD)] S=.ok (.tup (HE p ts)) S'/\Keeps S S':=by
 have a1:=Cb (i:=2) (Ht (Q4 hp (mp:=AC 0) (e:=[sI p,some (.tup (ts.map pairD)),none,none,none]) (S:=S) rfl));have e1:(S++E9 p λ_=>[])++[.lst (DU S.length p)]=stN S p (Bk []):=rfl
 have e2:(S++E9 p λ_=>[]).length=S.length+p:=by simp [Gj]
 rw [e1,e2] at a1
 obtain ⟨f,S1,h1,⟨z3,z4,rfl⟩,rfl⟩:=Gs (v:=Dq (ts.map pairD)) (g:=Fx 2 (B7 (tgN 3) (B7 (tgN 4) GX))) (b:=RU) (xs:=ts.map pairD) (e:=[sI p,some (.tup (ts.map pairD)),sR (S.length+p),none,none]) (S:=stN S p (Bk []))
  (λi e S'=>(∃z3 z4,e=[sI p,some (.tup (ts.map pairD)),sR (S.length+p),z3,z4])/\S'=stN S p (Bk (ts.take i)))
  (λf S'=>(∃z3 z4,f=.nx [sI p,some (.tup (ts.map pairD)),sR (S.length+p),z3,z4])/\S'=stN S p (Bk ts))
  ⟨⟨none,none,rfl⟩,rfl⟩ (λ_ _ _ _=>rfl)
  (by
   rintro i y e S' hy ⟨⟨z3,z4,rfl⟩,rfl⟩;rw [AX] at hy
   cases hx:ts[i]? with
   | none=>rw [hx] at hy;cases hy
   | some t=>
    rw [hx] at hy;cases hy;refine ⟨[sI p,some (.tup (ts.map pairD)),sR (S.length+p),sI t.1,sI t.2],_,rfl,_,_,Q3 (ht t (A8 hx)) (λx=>?_),⟨_,_,rfl⟩,?_⟩
    ·have:=Pa (ts.take i) x
     rw [CH] at this;exact BD (Ax this (Nat.mul_le_mul_left 2 (Ax (J2 _ _) hl))) (by decide)
    ·rw [take_snoc hx,show Bk (ts.take i++[t])=_ from funext λx=>Nl _ _ x])
  (by
   rintro e S' ⟨⟨z3,z4,rfl⟩,rfl⟩;rw [AH,B5]
   exact ⟨⟨_,_,rfl⟩,rfl⟩)
 have a2:=(FY (g:=Fx 2 (B7 (tgN 3) (B7 (tgN 4) GX))) (b:=RU) (KW (m:=AC 1) (e:=[sI p,some (.tup (ts.map pairD)),sR (S.length+p),none,none]) (S:=stN S p (Bk [])) (S1:=stN S p (Bk [])) (xs:=ts.map pairD) rfl)).trans h1
 obtain ⟨r,S2,q1,e',⟨z,_⟩,K,rfl⟩:=Mf (v:=FE (.ref (S.length+p))) (g:=tgN 0) (c:=Fn) (m:=Gn (ET (AC 0))) (xs:=DU S.length p) (e:=[none,sI p,some (.tup (ts.map pairD)),sR (S.length+p),z3,z4]) (S:=stN S p (Bk ts))
  (λi e' S' acc=>(∃z,e'=[z,sI p,some (.tup (ts.map pairD)),sR (S.length+p),z3,z4])/\Keeps (stN S p (Bk ts)) S'/\acc=(AT i).map λx=>.tup ((E4 (Bk ts x)).map D.int))
  ⟨⟨none,rfl⟩,.refl _,rfl⟩ (λi e' S' acc h=>C0 (h.2.1.at (Hr S p _)))
  (by
   rintro i d e' S' acc hd ⟨⟨z,rfl⟩,K,rfl⟩
   have hi:i < p:=by
    have:=(AF.mp hd).1;simpa [DU] using this
   unfold DU at hd;rw [AX,Bg hi] at hd;cases hd;have hit:Gp (.ref (S.length+i)) S'=some ((Bk ts i).map D.int):=Lm (K.at (IU S _ hi));have hs:=JJ (m:=AC 0) (e:=[sR (S.length+i),sI p,some (.tup (ts.map pairD)),sR (S.length+p),z3,z4]) (S:=S') (S1:=S') rfl hit (Ld _);refine ⟨by simp;exact BD (m:=60) (by lia) (by decide),[sR (S.length+i),sI p,some (.tup (ts.map pairD)),sR (S.length+p),z3,z4],_,rfl,true,_,rfl,.inl ⟨rfl,_,_,JI hs (CC (Bn _ _)),⟨_,rfl⟩,K.trans (Keeps.app _ _),?_⟩⟩;rw [Fq,BC]
   rfl)
 have a3:=(Jp (n:=1) (g:=tgN 0) (c:=Fn) (m:=Gn (ET (AC 0))) (FG (m:=AC 2) (e:=[sI p,some (.tup (ts.map pairD)),sR (S.length+p),z3,z4]) (S:=stN S p (Bk ts)) (S1:=stN S p (Bk ts)) rfl (Hr S p _))).trans q1;rw [show (DU S.length p).length=p by simp [DU]] at a3;refine ⟨S2++[.lst (HE p ts)],Cp ?_,((Hk S p _).trans K).trans (Keeps.app _ _)⟩;unfold Kk;refine C8 (At a1) ?_;refine C8 (At a2) ?_;exact FV (JI (Ht a3) (CC (Bn _ _)))
end M
namespace M
open PySem L2
open Srt (ltL)
def toP (r:List Int):Int×Int:=(r.getD 0 0,r.getD 1 0)
def DT (ps:List (Int×Int)):List (Int×Int):=(Ih ps).map toP
theorem O6 {ps:List (Int×Int)} {r:List Int} (h:r∈Ih ps):∃x∈ps,r=MQ (nrm x):=by
 have:=(Hs _).mem_iff.mp h;obtain ⟨x,hx,rfl⟩:=A7.mp this;exact ⟨x,hx,rfl⟩
theorem Xj (ps:List (Int×Int)):(DT ps).map MQ=Ih ps:=by
 unfold DT;rw [BP]
 conv=>rhs;rw [<-WH (Ih ps)]
 refine FM λr hr=>?_
 obtain ⟨x,_,rfl⟩:=O6 hr;rfl
theorem O5 (ps:List (Int×Int)):(Ih ps).map FU=(DT ps).map pairD:=by
 rw [<-Xj,BP];rfl
theorem Zk {ps:List (Int×Int)} {t:Int×Int} (h:t∈DT ps):∃x∈ps,t=nrm x:=by
 obtain ⟨r,hr,rfl⟩:=A7.mp h;obtain ⟨x,hx,rfl⟩:=O6 hr;exact ⟨x,hx,rfl⟩
theorem M9 (ps:List (Int×Int)):(DT ps).Perm (ps.map nrm):=by
 unfold DT Ih;have:=(Hs (ps.map λx=>MQ (nrm x))).map toP;refine this.trans ?_;rw [BP];exact WI rfl
theorem jd (x:Int×Int):(nrm x).1<=(nrm x).2:=by
 unfold nrm;dsimp only
 split <;> split <;> lia
theorem Fit.in {p:Nat} {x:Int×Int} (h:Fit p x):In p (nrm x):=by
 obtain ⟨h1,h2,h3⟩:=h;have:=jd x;exact ⟨h2,by lia,by lia,h3,h1⟩
structure FL (W:Wd) (S:Sto) (q p:Nat) (ts:List (Int×Int)):Prop where
 at_:∃fs:List (Str×D),S[q]?=some (.ins W.Web fs)/\fs.lookup ("places" : Str)=some (.int p)/\fs.lookup ("ties" : Str)=some (.tup (ts.map pairD))/\fs.lookup ("near_sets" : Str)=some (.tup (HE p ts))
theorem FL.keeps {W:Wd} {S S':Sto} {q p:Nat} {ts:List (Int×Int)} (h:FL W S q p ts) (k:Keeps S S'):FL W S' q p ts:=by
 obtain ⟨fs,h1,h2⟩:=h.at_;exact ⟨fs,k.at h1,h2⟩
theorem FL.places {W:Wd} {S:Sto} {q p:Nat} {ts:List (Int×Int)} (h:FL W S q p ts) {m:ME} {e:Lo} {S0:Sto} (hm:m e S0=.ok (.ref q) S):Hu W.Web "places" m e S0=.ok (.int p) S:=by
 obtain ⟨fs,h1,h2,_⟩:=h.at_;exact Pw hm h1 h2
theorem FL.ties {W:Wd} {S:Sto} {q p:Nat} {ts:List (Int×Int)} (h:FL W S q p ts) {m:ME} {e:Lo} {S0:Sto} (hm:m e S0=.ok (.ref q) S):Hu W.Web "ties" m e S0=.ok (.tup (ts.map pairD)) S:=by
 obtain ⟨fs,h1,_,h2,_⟩:=h.at_;exact Pw hm h1 h2
theorem FL.sets {W:Wd} {S:Sto} {q p:Nat} {ts:List (Int×Int)} (h:FL W S q p ts) {m:ME} {e:Lo} {S0:Sto} (hm:m e S0=.ok (.ref q) S):Hu W.Web "near_sets" m e S0=.ok (.tup (HE p ts)) S:=by
 obtain ⟨fs,h1,_,_,h2⟩:=h.at_;exact Pw hm h1 h2
theorem lp:¬(("places" : Str) = "ties"):=by decide +kernel
theorem lq:¬(("places" : Str) = "near_sets"):=by decide +kernel
theorem ln:¬(("ties" : Str) = "near_sets"):=by decide +kernel
theorem put2 (a b:D):OF "ties" b [(("places" : Str),a)]=([("places",a),("ties",b)]:List (Str×D)):=by
 show (if ("places" : Str) = "ties" then _ else _)=_;rw [qY lp];rfl
theorem put3 (a b c:D):OF "near_sets" c [(("places" : Str),a),("ties",b)]=([("places",a),("ties",b),("near_sets",c)]:List (Str×D)):=by
 show (if ("places" : Str) = "near_sets" then _ else _)=_;rw [qY lq]
 have:OF "near_sets" c [(("ties" : Str),b)]=([("ties",b),("near_sets",c)]:List (Str×D)):=by
  show (if ("ties" : Str) = "near_sets" then _ else _)=_;rw [qY ln];rfl
 rw [this]
theorem lz (a b c:D):([("places",a),("ties",b),("near_sets",c)]:List (Str×D)).lookup ("ties" : Str)=some b:=by
 rw [DV,show (("ties" : Str)=="places")=false by decide +kernel];dsimp only;rw [DV,show (("ties" : Str)=="ties")=true by decide +kernel]
theorem jg (a b:D):([("places",a),("ties",b)]:List (Str×D)).lookup ("ties" : Str)=some b:=by
 rw [DV,show (("ties" : Str)=="places")=false by decide +kernel];dsimp only;rw [DV,show (("ties" : Str)=="ties")=true by decide +kernel]
end M
namespace M
open PySem L2
theorem PZ {W:Wd} {S:Sto} {q p:Nat} {ts:List (Int×Int)} (hw:FL W S q p ts) (x:Int):CK W [.ref q,.int x] S=if 0<=x/\x < p then .ok .non S else .err W.NoPlace S:=by
 have t:Lk (mB (m3 leD ltD (mC (.int 0)) (AC 1) (Hu W.Web "places" (AC 0)))) [sR q,sI x] S=.ok (decide ¬(0<=x/\x < p)) S:=by
  by_cases h1:0<=x
  ·by_cases h2:x < p
   ·rw [NK (b:=true) (En (Wo rfl rfl (Pj (wX h1)) (hw.places rfl) (Im (wX h2))))]
    simp [h1,h2]
   ·rw [NK (b:=false) (En (Wo rfl rfl (Pj (wX h1)) (hw.places rfl) (Im (wY h2))))]
    simp [h2]
  ·rw [NK (b:=false) (En (gm rfl rfl (Pj (wY h1))))]
   simp [h1]
 have t':=D0 (a:=ER W.NoPlace (AJ (mC (.str "the web has no such place")) As)) (b:=sNx) t
 by_cases c:0<=x/\x < p
 ·rw [qX c]
  rw [wY (λz=>z c),qY AR] at t';exact Z2 (t'.trans rfl)
 ·rw [qY c]
  rw [wX c,qX rfl] at t';exact iw (t'.trans (Tn rfl (by simp)))
theorem Wl {W:Wd} {S:Sto} {q p:Nat} {ts:List (Int×Int)} (hw:FL W S q p ts) {x:Nat} (hx:x < p):Kd W [.ref q,.int x] S=.ok (.tup ((E4 (Bk ts x)).map D.int)) S:=by
 refine Cp ?_;unfold bv
 have c:BB 2 (CK W) (AJ (AC 0) (AJ (AC 1) As)) [sR q,sI x] S=.ok .non S:=by
  refine (Bl (ds:=[.ref q,.int x]) (S1:=S) rfl rfl).trans ?_;rw [PZ hw,qX ⟨by lia,by lia⟩]
 refine C8 (At (e:=[sR q,sI x]) (C5 c)) ?_;refine FV (A2 (hw.sets rfl) rfl ?_);show FW (ixD _ _ _) _=_
 have e2:atI (HE p ts) (x:Int)=some (.tup ((E4 (Bk ts x)).map D.int)):=by
  unfold atI ixN;rw [show (HE p ts).length=p by simp [HE],qX (by lia),qX (by lia)];simp only [Ai,BN];unfold HE;rw [AX,Bg hx];rfl
 have:ixD (.tup (HE p ts)) (.int x) S=.ok (.tup ((E4 (Bk ts x)).map D.int)) S:=by
  show (match atI (HE p ts) (x:Int) with | some d=>Res.ok d S | none=>.bad)=_;rw [e2]
 rw [this];rfl
end M
namespace M
open PySem L2
open Srt (ltL)
theorem W9 (W:Wd) (ns:List Int) (k:Nat) (S:Sto):∃h:Int,D4 W [.fro (ns.map D.int),.int k] S=.ok (.int h) S:=by
 by_cases hk:k < ns.length
 ·refine ⟨ns[k],Cp ?_⟩
  unfold ID;have t:mB (m2 ltD (AC 1) (Go (AC 0))) (DF 2 [.fro (ns.map D.int),.int k]) S=.ok true S:=En (A2 rfl (KU (d:=.fro (ns.map D.int)) rfl rfl) (Im (wX (by simp;omega))));refine PD (C8 (D0 t) ?_);rw [qX rfl];refine FV (A2 rfl rfl (Md (ds:=ns.map D.int) rfl (by lia) ?_));simp [hk]
 ·refine ⟨0,Cp ?_⟩
  unfold ID;have t:mB (m2 ltD (AC 1) (Go (AC 0))) (DF 2 [.fro (ns.map D.int),.int k]) S=.ok false S:=En (A2 rfl (KU (d:=.fro (ns.map D.int)) rfl rfl) (Im (wY (by simp;lia))));refine C8 (At (C8 (D0 t) rfl)) ?_;rfl
theorem R9 {i j:Int} {S:Sto} (h:-1000000000000<=j) (h1:j<=1000000000000):Pb (.int i) (.int j) S=.ok (.int (i * j)) S:=by
 show (if Ys i j then _ else _)=_;rw [qX (.inr ⟨ZN (by decide) h,ZO h1 (by decide)⟩)]
theorem Ma (W:Wd) (c s:Int):∃v:Int,0<=v/\v < 2147483629/\∀S,B6 W [.int c,.int s] S=.ok (.int v) S:=by
 have h0:=Kq ((c % 2147483647+s) * 48271) (show (2147483647:Int)≠0 by decide);have h1:=Ie ((c % 2147483647+s) * 48271) (show (0:Int) < 2147483647 by decide);refine ⟨(c % 2147483647+s) * 48271 % 2147483647 * ((c % 2147483647+s) * 48271 % 2147483647) % 2147483629,Kq _ (by decide),Ie _ (by decide),λS=>Cp ?_⟩;unfold Ml
 have s1:BZ 2 (m2 Cw (m2 Pb (m2 Do (m2 Cw (AC 0) (mC (.int 2147483647))) (AC 1)) (mC (.int 48271))) (mC (.int 2147483647))) (DF 3 [.int c,.int s]) S=oN [sI c,sI s,sI ((c % 2147483647+s) * 48271 % 2147483647)] S:=
  Cb (i:=2) (A2 (A2 (A2 (A2 rfl rfl (Ck (by decide))) rfl rfl) rfl (R9 (by decide) (by decide))) rfl (Ck (by decide)))
 rw [At s1]
 generalize (c % 2147483647+s) * 48271 % 2147483647=m at *
 exact FV (A2 (A2 rfl rfl (R9 (by lia) (by lia))) rfl (Ck (by decide)))
abbrev gu:MS:=BM (BZ 4 (OX (AC 0) (KP (m2 Do (AC 1) (AC 3))) PX (KP (mC (.int 24)))))
  (sIf (mB (m2 (eqD true) (AC 4) (DB (CN As)))) (CD (FA (AC 2) (Vl (AC 4)))) sNx)
theorem im {m:ME} {e:Lo} {S S1:Sto} {n:Nat} {ns:List Int} (h:m e S=.ok (.ref n) S1) (hn:S1[n]?=some (.lst (ns.map D.int))):Vl m e S=.ok (.int (dU ns)) S1:=by
 unfold Vl;rw [h];dsimp only [Res.bind];rw [JO hn];dsimp only;rw [Hw]
theorem Xv {S:Sto} {ns ps:List Int} {n:Nat} {s k:Int} {z4:Option D} (hn:S[n]?=some (.lst (ps.map D.int))) (hl:ps.length<=1000) :
  ∃(S':Sto) (z:Option D) (qs:List Int),gu [sF ns,sI s,sR n,sI k,z4] S=oN [sF ns,sI s,sR n,sI k,z] S'/\S'[n]?=some (.lst (qs.map D.int))/\ps.length<=qs.length/\qs.length<=ps.length+1/\S.length<=S'.length/\∀j,j < S.length->j≠n->S'[j]?=S[j]?:=by
 have hlt:n < S.length:=(AF.mp hn).1
 have s1:BZ 4 (OX (AC 0) (KP (m2 Do (AC 1) (AC 3))) PX (KP (mC (.int 24)))) [sF ns,sI s,sR n,sI k,z4] S=oN [sF ns,sI s,sR n,sI k,sR S.length] (S++[.lst ((pickG ns (some (s+k)) none (some 24)).map D.int)]):=by
  refine Cb (i:=4) ?_;rw [<-Xw];rfl
 generalize pickG ns (some (s+k)) none (some 24)=cs at s1;have hc:=Bn S (.lst (cs.map D.int));have K1:Keeps S (S++[.lst (cs.map D.int)]):=Keeps.app _ _
 have e1:(S++[Ob.lst (cs.map D.int)]).length=S.length+1:=by simp
 generalize S++[Ob.lst (cs.map D.int)]=S1 at s1 hc K1 e1
 have t:mB (m2 (eqD true) (AC 4) (DB (CN As))) [sF ns,sI s,sR n,sI k,sR S.length] S1=.ok (!cs.isEmpty) (S1++[.lst []]):=by
  refine En (A2 (S2:=S1++[.lst []]) rfl rfl ?_);rw [kG true ((Keeps.app S1 _).at hc) (Bn _ _)];simp
 have K2:Keeps S (S1++[.lst []]):=K1.trans (Keeps.app _ _);have hc2:=(Keeps.app S1 [.lst []]).at hc;generalize S1++[Ob.lst []]=S2 at t K2 hc2;have hn2:=K2.at hn;have i1:=D0 (a:=CD (FA (AC 2) (Vl (AC 4)))) (b:=sNx) t
 cases hq:cs.isEmpty with
 | true=>
  rw [hq] at i1;refine ⟨S2,_,ps,(At s1).trans (i1.trans rfl),hn2,AL _,GU _,K2.1,λj h1 _=>K2.2 j h1⟩
 | false=>
  rw [hq] at i1;have a1:=IE (mo:=AC 2) (ma:=Vl (AC 4)) (e:=[sF ns,sI s,sR n,sI k,sR S.length]) (S:=S2) (n:=n) (S1:=S2) (S2:=S2) rfl hn2 (im rfl hc2) hn2 (by rw [AH];exact BD hl (by decide));refine ⟨_,_,ps++[dU cs],(At s1).trans (i1.trans (C5 a1)),?_,by simp,by simp,by simpa using K2.1,λj h1 h2=>?_⟩
  ·rw [Az (Ae hlt K2.1),BC]
   rfl
  ·rw [Am (Bw h2)]
   exact K2.2 j h1
theorem Wf (W:Wd) (ns:List Int) (S:Sto):∃(S':Sto) (ps:List Int),Fm W [.fro (ns.map D.int),.int 1] S=.ok (.ref S.length) S'/\Keeps S S'/\S'[S.length]?=some (.lst (ps.map D.int))/\1<=ps.length/\ps.length<=25:=by
 have s1:BZ 2 (DB (CN (AJ (Go (AC 0)) As))) (DF 5 [.fro (ns.map D.int),.int 1]) S=oN [sF ns,sI 1,sR S.length,none,none] (S++[.lst ([(ns.length:Int)].map D.int)]):=by
  refine Cb (i:=2) (Ht ?_);unfold CN;rw [Bo (r:=As) (KU (d:=.fro (ns.map D.int)) (S1:=S) rfl rfl) rfl,AH];rfl
 obtain ⟨f,S1,h1,⟨z3,z4,rfl⟩,K,ps,hn,hl1,hl2⟩:=Gs (v:=Dq (DH 0 24)) (g:=tgN 3) (b:=gu) (xs:=DH 0 24) (e:=[sF ns,sI 1,sR S.length,none,none]) (S:=S++[.lst ([(ns.length:Int)].map D.int)])
  (λi e S'=>(∃z3 z4,e=[sF ns,sI 1,sR S.length,z3,z4])/\Keeps S S'/\∃ps:List Int,S'[S.length]?=some (.lst (ps.map D.int))/\1<=ps.length/\ps.length<=i+1)
  (λf S'=>(∃z3 z4,f=.nx [sF ns,sI 1,sR S.length,z3,z4])/\Keeps S S'/\∃ps:List Int,S'[S.length]?=some (.lst (ps.map D.int))/\1<=ps.length/\ps.length<=25)
  ⟨⟨none,none,rfl⟩,Keeps.app _ _,[(ns.length:Int)],Bn _ _,by simp,by simp⟩ (λ_ _ _ _=>rfl)
  (by
   rintro i d e S' hd ⟨⟨z3,z4,rfl⟩,K,ps,hn,h1,h2⟩;obtain ⟨hi,rfl⟩:=JK hd;obtain ⟨S2,z,qs,q1,q2,q3,q4,q5,q6⟩:=Xv (S:=S') (ns:=ns) (s:=1) (k:=0+i) (z4:=z4) hn (by lia)
   exact ⟨_,_,rfl,_,_,q1,⟨_,_,rfl⟩,⟨Ax K.1 q5,λj hj=>(q6 j (Ae hj K.1) (by lia)).trans (K.2 j hj)⟩,qs,q2,by lia,by lia⟩)
  (by
   rintro e S' ⟨⟨z3,z4,rfl⟩,K,ps,hn,h1,h2⟩;rw [Hm] at h2
   exact ⟨⟨_,_,rfl⟩,K,ps,hn,h1,by omega⟩)
 refine ⟨S1,ps,Cp ?_,K,hn,hl1,hl2⟩;unfold Nx;rw [At s1];refine C8 (At ((FY (Ln (j:=24) rfl (by lia) (by lia))).trans h1)) ?_;rfl
end M
namespace M
open PySem L2
def Ds (o j:Nat) (ts:List (Int×Int)):Prop:=(∀x∈ts,0<=x.1/\x.1 < x.2/\(x.2 < o∨x.2=o/\x.1 < j))/\ts.Nodup
theorem Ds.nil (o j:Nat):Ds o j []:=⟨λ_ h=>zX h CG,IR⟩
theorem Ds.skip {o j:Nat} {ts:List (Int×Int)} (h:Ds o j ts):Ds o (j+1) ts:=⟨λx hx=>by
 obtain ⟨h1,h2,h3⟩:=h.1 x hx;refine ⟨h1,h2,?_⟩
 lia,h.2⟩
theorem Ds.add {o j:Nat} {ts:List (Int×Int)} (h:Ds o j ts) (hj:j < o):Ds o (j+1) (ts++[((j:Int),(o:Int))]):=by
 refine ⟨λx hx=>?_,?_⟩
 ·rcases Aw.mp hx with hx | hx
  ·exact h.skip.1 x hx
  ·rw [AY.mp hx]
   dsimp only
   lia
 ·rw [CL]
  refine ⟨h.2,by simp,λx hx y hy e=>?_⟩;rw [AY.mp hy] at e;subst e;have:=(h.1 _ hx).2.2;dsimp only at this
  lia
theorem Ds.next {o:Nat} {ts:List (Int×Int)} (h:Ds o o ts):Ds (o+1) 0 ts:=⟨λx hx=>by
 obtain ⟨h1,h2,h3⟩:=h.1 x hx;refine ⟨h1,h2,?_⟩
 lia,h.2⟩
theorem aV {x:Int×Int} (h:x.1 < x.2):nrm x=x:=by
 unfold nrm;rw [qY (by lia),qX (by omega)]
theorem Ds.nrm {o j:Nat} {ts:List (Int×Int)} (h:Ds o j ts):ts.map M.nrm=ts:=by
 conv=>rhs;rw [<-WH ts]
 exact FM λx hx=>aV (h.1 x hx).2.1
theorem Ds.fit {p:Nat} {ts:List (Int×Int)} (h:Ds p 0 ts):D5 p ts:=by
 refine ⟨λx hx=>?_,by rw [h.nrm];exact h.2⟩;obtain ⟨h1,h2,h3⟩:=h.1 x hx;unfold Fit;rw [aV h2]
 lia
theorem Oh (S:Sto) (o o':Ob):(S++[o]).set S.length o'=S++[o']:=by simp
abbrev XB (W:Wd):MS:=BM (BZ 7 (m2 ixA (AC 0) (m2 Cw (AC 4) (Go (AC 0)))))
  (BM (BZ 4 (m2 Do (AC 4) (mC (.int 1))))
  (sIf (mB (m2 ltD (m2 Cw (BB 2 (B6 W) (AJ (AC 7) (AJ (m2 Do (m2 Pb (mC (.int 7)) (AC 6)) (m2 Pb (mC (.int 61)) (AC 5))) As))) (mC (.int 6))) (AC 2))) (CD (FA (AC 3) (G6 (AJ (AC 6) (AJ (AC 5) As))))) sNx))
theorem Xk (W:Wd) {S:Sto} {a:Nat} {pool:List Int} {d1:D} {th at_:Int} {o j:Nat} {z7:Option D} {ts:List (Int×Int)} (ha:S[a]?=some (.lst (pool.map D.int))) (hp:1<=pool.length) (ho:o<=1000) (hj:j < o) (hu:Ds o j ts) (hl:ts.length<=90000) :
  ∃(c:Int) (qs:List (Int×Int)),XB W [sR a,some d1,sI th,sR S.length,sI at_,sI o,sI j,z7] (S++[.lst (ts.map pairD)])=oN [sR a,some d1,sI th,sR S.length,sI (at_+1),sI o,sI j,sI c] (S++[.lst (qs.map pairD)])/\Ds o (j+1) qs/\qs.length<=ts.length+1:=by
 have ha':=(Keeps.app S [.lst (ts.map pairD)]).at ha;have h0:=Kq at_ (show (pool.length:Int)≠0 by lia);have h1:=Ie at_ (show (0:Int) < pool.length by lia)
 have hlt:(at_ % pool.length).toNat < pool.length:=by lia
 have s1:BZ 7 (m2 ixA (AC 0) (m2 Cw (AC 4) (Go (AC 0)))) [sR a,some d1,sI th,sR S.length,sI at_,sI o,sI j,z7] (S++[.lst (ts.map pairD)])=.ok (.nx [sR a,some d1,sI th,sR S.length,sI at_,sI o,sI j,some (.int pool[(at_ % pool.length).toNat])]) (S++[.lst (ts.map pairD)]):=by
  refine Cb (i:=7) (A2 rfl (A2 rfl (KU (d:=.ref a) rfl (CC ha')) (Ck (by rw [AH];lia))) (bG ha' (by rw [AH];exact h0) ?_));rw [AH,AX,BG hlt];rfl
 generalize pool[(at_ % pool.length).toNat]=c at s1;have s2:BZ 4 (m2 Do (AC 4) (mC (.int 1))) [sR a,some d1,sI th,sR S.length,sI at_,sI o,sI j,sI c] (S++[.lst (ts.map pairD)])=oN [sR a,some d1,sI th,sR S.length,sI (at_+1),sI o,sI j,sI c] (S++[.lst (ts.map pairD)]):=rfl;obtain ⟨v,_,_,hv⟩:=Ma W c (7 * j+61 * o)
 have t:mB (m2 ltD (m2 Cw (BB 2 (B6 W) (AJ (AC 7) (AJ (m2 Do (m2 Pb (mC (.int 7)) (AC 6)) (m2 Pb (mC (.int 61)) (AC 5))) As))) (mC (.int 6))) (AC 2)) [sR a,some d1,sI th,sR S.length,sI (at_+1),sI o,sI j,sI c] (S++[.lst (ts.map pairD)])=.ok (decide (v % 6 < th)) (S++[.lst (ts.map pairD)]):=
  En (A2 (A2 ((Bl (ds:=[.int c,.int (7 * j+61 * o)]) (S1:=S++[.lst (ts.map pairD)]) (Bo rfl (Bo (A2 (A2 rfl rfl (R9 (by lia) (by lia))) (A2 rfl rfl (R9 (by lia) (by lia))) rfl) rfl)) rfl).trans (hv _)) rfl (Ck (by decide))) rfl (Im rfl))
 have i1:=D0 (a:=CD (FA (AC 3) (G6 (AJ (AC 6) (AJ (AC 5) As))))) (b:=sNx) t
 by_cases c0:v % 6 < th
 ·rw [wX c0,qX rfl] at i1
  have a1:=IE (mo:=AC 3) (ma:=G6 (AJ (AC 6) (AJ (AC 5) As))) (e:=[sR a,some d1,sI th,sR S.length,sI (at_+1),sI o,sI j,sI c]) (S:=S++[.lst (ts.map pairD)]) (n:=S.length) (S1:=S++[.lst (ts.map pairD)]) (S2:=S++[.lst (ts.map pairD)]) (y:=pairD ((j:Int),(o:Int))) rfl (Bn _ _) (M7 (ds:=[.int j,.int o]) rfl (by simp)) (Bn _ _) (by rw [AH];exact BD hl (by decide));rw [Oh,show ts.map pairD++[pairD ((j:Int),(o:Int))]=(ts++[((j:Int),(o:Int))]).map pairD by simp] at a1;exact ⟨c,_,((At s1).trans (At s2)).trans (i1.trans (C5 a1)),hu.add hj,by simp⟩
 ·rw [wY c0,qY AR] at i1
  exact ⟨c,ts,((At s1).trans (At s2)).trans (i1.trans rfl),hu.skip,by lia⟩
theorem Zl (W:Wd) {S:Sto} {a:Nat} {pool:List Int} {d1:D} {th at_:Int} {o:Nat} {z6 z7:Option D} {ts:List (Int×Int)} (ha:S[a]?=some (.lst (pool.map D.int))) (hp:1<=pool.length) (ho:o<=1000) (hu:Ds o 0 ts) (hl:ts.length<=80000) :
  ∃(at':Int) (y6 y7:Option D) (qs:List (Int×Int)),HF (iR1 (AJ (AC 5) As)) (tgN 6) (XB W) [sR a,some d1,sI th,sR S.length,sI at_,sI o,z6,z7] (S++[.lst (ts.map pairD)])=oN [sR a,some d1,sI th,sR S.length,sI at',sI o,y6,y7] (S++[.lst (qs.map pairD)])/\Ds (o+1) 0 qs/\qs.length<=ts.length+o:=by
 obtain ⟨f,S1,h1,at',y6,y7,qs,rfl,rfl,q1,q2⟩:=Gs (v:=Dq (DH 0 o)) (g:=tgN 6) (b:=XB W) (xs:=DH 0 o) (e:=[sR a,some d1,sI th,sR S.length,sI at_,sI o,z6,z7]) (S:=S++[.lst (ts.map pairD)])
  (λi e S'=>∃(at':Int) (y6 y7:Option D) (qs:List (Int×Int)),e=[sR a,some d1,sI th,sR S.length,sI at',sI o,y6,y7]/\S'=S++[.lst (qs.map pairD)]/\Ds o i qs/\qs.length<=ts.length+i)
  (λf S'=>∃(at':Int) (y6 y7:Option D) (qs:List (Int×Int)),f=.nx [sR a,some d1,sI th,sR S.length,sI at',sI o,y6,y7]/\S'=S++[.lst (qs.map pairD)]/\Ds o o qs/\qs.length<=ts.length+o)
  ⟨at_,z6,z7,ts,rfl,rfl,hu,AL _⟩ (λ_ _ _ _=>rfl)
  (by
   rintro i d e S' hd ⟨at',y6,y7,qs,rfl,rfl,q1,q2⟩;obtain ⟨hi,rfl⟩:=JK hd;obtain ⟨c,rs,k1,k2,k3⟩:=Xk W (d1:=d1) (th:=th) (at_:=at') (z7:=y7) ha hp ho hi q1 (by lia);refine ⟨[sR a,some d1,sI th,sR S.length,sI at',sI o,sI i,y7],_,?_,_,_,k1,_,_,_,rs,rfl,rfl,k2,by lia⟩;show Res.ok [sR a,some d1,sI th,sR S.length,sI at',sI o,sI (0+(i:Int)),y7] _=_
   rw [N8])
  (by
   rintro e S' ⟨at',y6,y7,qs,rfl,rfl,q1,q2⟩;rw [Hm] at q1 q2
   exact ⟨_,_,_,qs,rfl,rfl,q1,q2⟩)
 have hi:iR1 (AJ (AC 5) As) [sR a,some d1,sI th,sR S.length,sI at_,sI o,z6,z7] (S++[.lst (ts.map pairD)])=.ok (Dq (DH 0 o)) (S++[.lst (ts.map pairD)]):=by
  have:=Ln (ml:=AJ (AC 5) As) (e:=[sR a,some d1,sI th,sR S.length,sI at_,sI o,z6,z7]) (S:=S++[.lst (ts.map pairD)]) (S1:=S++[.lst (ts.map pairD)]) (j:=o) rfl (by lia) (by lia);simpa using this
 exact ⟨at',y6,y7,qs,(FY hi).trans h1,q1.next,q2⟩
theorem Nq (W:Wd) {S:Sto} {a m:Nat} {pool:List Int} (th:Int) (ha:S[a]?=some (.lst (pool.map D.int))) (hp:1<=pool.length) (hm1:1<=m) (hm:m<=60) :
  ∃ts:List (Int×Int),G9 W [.ref a,.int m,.int th] S=.ok (.ref S.length) (S++[.lst (ts.map pairD)])/\Ds m 0 ts/\ts.length<=3600:=by
 obtain ⟨f,S1,h1,at',y5,y6,y7,qs,rfl,rfl,q1,q2⟩:=Gs (v:=Dq (DH 1 (m - 1))) (g:=tgN 5) (b:=HF (iR1 (AJ (AC 5) As)) (tgN 6) (XB W)) (xs:=DH 1 (m - 1)) (e:=[sR a,sI m,sI th,sR S.length,sI 0,none,none,none]) (S:=S++[.lst []])
  (λi e S'=>∃(at':Int) (y5 y6 y7:Option D) (qs:List (Int×Int)),e=[sR a,sI m,sI th,sR S.length,sI at',y5,y6,y7]/\S'=S++[.lst (qs.map pairD)]/\Ds (1+i) 0 qs/\qs.length<=60 * i)
  (λf S'=>∃(at':Int) (y5 y6 y7:Option D) (qs:List (Int×Int)),f=.nx [sR a,sI m,sI th,sR S.length,sI at',y5,y6,y7]/\S'=S++[.lst (qs.map pairD)]/\Ds m 0 qs/\qs.length<=3600)
  ⟨0,none,none,none,[],rfl,rfl,Ds.nil _ _,by simp⟩ (λ_ _ _ _=>rfl)
  (by
   rintro i d e S' hd ⟨at',y5,y6,y7,qs,rfl,rfl,q1,q2⟩;obtain ⟨hi,rfl⟩:=JK hd;obtain ⟨at2,w6,w7,rs,k1,k2,k3⟩:=Zl W (d1:=.int m) (th:=th) (at_:=at') (o:=1+i) (z6:=y6) (z7:=y7) ha hp (by lia) q1 (by lia);refine ⟨[sR a,sI m,sI th,sR S.length,sI at',sI ((1+i:Nat):Int),y6,y7],_,?_,_,_,k1,_,_,_,_,rs,rfl,rfl,k2,by lia⟩;show Res.ok [sR a,sI m,sI th,sR S.length,sI at',sI (1+(i:Int)),y6,y7] _=_;rw [gR]
   rfl)
  (by
   rintro e S' ⟨at',y5,y6,y7,qs,rfl,rfl,q1,q2⟩;rw [Hm] at q1 q2;rw [show 1+(m - 1)=m by lia] at q1
   exact ⟨_,_,_,_,qs,rfl,rfl,q1,by lia⟩)
 have hi:iR2 (AJ (mC (.int 1)) (AJ (AC 1) As)) [sR a,sI m,sI th,sR S.length,sI 0,none,none,none] (S++[.lst []])=.ok (Dq (DH 1 (m - 1))) (S++[.lst []]):=by
  have:=jr (ml:=AJ (mC (.int 1)) (AJ (AC 1) As)) (e:=[sR a,sI m,sI th,sR S.length,sI 0,none,none,none]) (S:=S++[.lst []]) (S1:=S++[.lst []]) (i:=1) (j:=m) rfl (by lia) (by lia) (by lia) (by lia);rw [this,show ((m:Int) - 1).toNat=m - 1 by lia]
 refine ⟨qs,Cp ?_,q1,q2⟩;unfold Nv;refine C8 (At (e:=DF 8 [.ref a,.int m,.int th]) (e1:=[sR a,sI m,sI th,sR S.length,none,none,none,none]) (S1:=S++[.lst []]) rfl) ?_;refine C8 (At (e1:=[sR a,sI m,sI th,sR S.length,sI 0,none,none,none]) (S1:=S++[.lst []]) rfl) ?_;refine C8 (At ((FY hi).trans h1)) ?_;rfl
end M
namespace M
open PySem L2
open Srt (ltL)
theorem aW (x:Int×Int):nrm (x.2,x.1)=nrm x:=by
 unfold nrm;dsimp only
 congr 1
 ·split <;> split <;> lia
 ·split <;> split <;> lia
theorem i6 {mo:ME} {e:Lo} {S S1:Sto} {n:Nat} {xs:List D} (h:mo e S=.ok (.ref n) S1) (hn:S1[n]?=some (.lst xs)):am mo e S=.ok .non (S1.set n (.lst xs.reverse)):=by
 unfold am;rw [h];dsimp only [Res.bind]
 have:atL (.ref n) S1=some (n,xs):=by unfold atL;dsimp only;rw [hn]
 rw [this]
abbrev bw (W:Wd):MS:=sIf (mB (m2 (eqD false) (m2 Cw (BB 2 (B6 W) (AJ (AC 1) (AJ (AC 3) As))) (mC (.int 2))) (mC (.int 0)))) (CD (FA (AC 2) (m2 ixA (AC 0) (AC 3)))) (CD (FA (AC 2) (G6 (AJ (m2 ixA (m2 ixA (AC 0) (AC 3)) (mC (.int 1))) (AJ (m2 ixA (m2 ixA (AC 0) (AC 3)) (mC (.int 0))) As)))))
theorem Xh (W:Wd) {S:Sto} {t i:Nat} {c:Int} {ts us:List (Int×Int)} {x:Int×Int} (ht:S[t]?=some (.lst (ts.map pairD))) (hx:ts[i]?=some x) (hl:us.length<=90000) :
  ∃y:Int×Int,nrm y=nrm x/\bw W [sR t,sI c,sR S.length,sI i] (S++[.lst (us.map pairD)])=oN [sR t,sI c,sR S.length,sI i] (S++[.lst ((us++[y]).map pairD)]):=by
 have ht':=(Keeps.app S [.lst (us.map pairD)]).at ht;obtain ⟨v,_,_,hv⟩:=Ma W c i
 have tt:mB (m2 (eqD false) (m2 Cw (BB 2 (B6 W) (AJ (AC 1) (AJ (AC 3) As))) (mC (.int 2))) (mC (.int 0))) [sR t,sI c,sR S.length,sI i] (S++[.lst (us.map pairD)])=.ok (decide (v % 2=0)) (S++[.lst (us.map pairD)]):=
  En (A2 (A2 ((Bl (ds:=[.int c,.int i]) (S1:=S++[.lst (us.map pairD)]) rfl rfl).trans (hv _)) rfl (Ck (by decide))) rfl (Kf rfl))
 have gx:m2 ixA (AC 0) (AC 3) [sR t,sI c,sR S.length,sI i] (S++[.lst (us.map pairD)])=.ok (pairD x) (S++[.lst (us.map pairD)]):=A2 rfl rfl (bG ht' (by lia) (by rw [AX,BN,hx];rfl));have i1:=D0 (a:=CD (FA (AC 2) (m2 ixA (AC 0) (AC 3)))) (b:=CD (FA (AC 2) (G6 (AJ (m2 ixA (m2 ixA (AC 0) (AC 3)) (mC (.int 1))) (AJ (m2 ixA (m2 ixA (AC 0) (AC 3)) (mC (.int 0))) As))))) tt
 have hz:(us.map pairD).length < sizeLine:=by rw [AH];exact BD hl (by decide)
 by_cases c0:v % 2=0
 ·rw [wX c0,qX rfl] at i1
  have a1:=IE (mo:=AC 2) (ma:=m2 ixA (AC 0) (AC 3)) (e:=[sR t,sI c,sR S.length,sI i]) (S:=S++[.lst (us.map pairD)]) (n:=S.length) (S1:=S++[.lst (us.map pairD)]) (S2:=S++[.lst (us.map pairD)]) rfl (Bn _ _) gx (Bn _ _) hz;rw [Oh,show us.map pairD++[pairD x]=(us++[x]).map pairD by simp] at a1;exact ⟨x,rfl,i1.trans (C5 a1)⟩
 ·rw [wY c0,qY AR] at i1
  have a1:=IE (mo:=AC 2) (ma:=G6 (AJ (m2 ixA (m2 ixA (AC 0) (AC 3)) (mC (.int 1))) (AJ (m2 ixA (m2 ixA (AC 0) (AC 3)) (mC (.int 0))) As))) (e:=[sR t,sI c,sR S.length,sI i]) (S:=S++[.lst (us.map pairD)]) (n:=S.length) (S1:=S++[.lst (us.map pairD)]) (S2:=S++[.lst (us.map pairD)]) (y:=pairD (x.2,x.1)) rfl (Bn _ _) (M7 (ds:=[.int x.2,.int x.1]) (Bo (A2 gx rfl (ix1 _ _)) (Bo (A2 gx rfl (ix0 _ _)) rfl)) (by simp)) (Bn _ _) hz;rw [Oh,show us.map pairD++[pairD (x.2,x.1)]=(us++[(x.2,x.1)]).map pairD by simp] at a1;exact ⟨(x.2,x.1),aW x,i1.trans (C5 a1)⟩
theorem Xg (W:Wd) {S:Sto} {t:Nat} {ts:List (Int×Int)} (c:Int) (ht:S[t]?=some (.lst (ts.map pairD))) (hl:ts.length<=80000) :
  ∃us:List (Int×Int),Dk W [.ref t,.int c] S=.ok (.ref S.length) (S++[.lst (us.map pairD)])/\(us.map nrm).Perm (ts.map nrm)/\us.length=ts.length:=by
 obtain ⟨f,S1,h1,z3,us,rfl,rfl,q1,q2⟩:=Gs (v:=Dq (DH 0 ts.length)) (g:=tgN 3) (b:=bw W) (xs:=DH 0 ts.length) (e:=[sR t,sI c,sR S.length,none]) (S:=S++[.lst []])
  (λi e S'=>∃(z3:Option D) (us:List (Int×Int)),e=[sR t,sI c,sR S.length,z3]/\S'=S++[.lst (us.map pairD)]/\us.map nrm=(ts.take i).map nrm/\us.length=i)
  (λf S'=>∃(z3:Option D) (us:List (Int×Int)),f=.nx [sR t,sI c,sR S.length,z3]/\S'=S++[.lst (us.map pairD)]/\us.map nrm=ts.map nrm/\us.length=ts.length)
  ⟨none,[],rfl,rfl,rfl,rfl⟩ (λ_ _ _ _=>rfl)
  (by
   rintro i d e S' hd ⟨z3,us,rfl,rfl,q1,q2⟩;obtain ⟨hi,rfl⟩:=JK hd;have hx:ts[i]?=some ts[i]:=BG hi;obtain ⟨y,k1,k2⟩:=Xh W (c:=c) (us:=us) ht hx (by lia);refine ⟨[sR t,sI c,sR S.length,sI i],_,?_,_,_,k2,_,us++[y],rfl,rfl,?_,by simp [q2]⟩
   ·show Res.ok ([sR t,sI c,sR S.length,sI (0+(i:Int))]:Lo) _=_
    rw [N8]
   ·rw [take_snoc hx,BC,BC,q1]
    simp [k1])
  (by
   rintro e S' ⟨z3,us,rfl,rfl,q1,q2⟩;rw [Hm] at q1 q2;rw [B5] at q1
   exact ⟨_,us,rfl,rfl,q1,q2⟩)
 have hi:iR1 (AJ (Go (AC 0)) As) [sR t,sI c,sR S.length,none] (S++[.lst []])=.ok (Dq (DH 0 ts.length)) (S++[.lst []]):=by
  have:=Ln (ml:=AJ (Go (AC 0)) As) (e:=[sR t,sI c,sR S.length,none]) (S:=S++[.lst []]) (S1:=S++[.lst []]) (j:=((ts.map pairD).length:Nat)) (Bo (KU (d:=.ref t) rfl (CC ((Keeps.app S _).at ht))) rfl) (by lia) (by rw [AH];lia);rw [AH] at this;simpa using this
 have e0:Dk W [.ref t,.int c] S=EG 4 (G1 W) [.ref t,.int c] S:=rfl
 have b2:∀(b:MS),BM (BZ 2 (DB (CN As))) (BM (HF (iR1 (AJ (Go (AC 0)) As)) (tgN 3) (bw W)) b) (DF 4 [.ref t,.int c]) S=b [sR t,sI c,sR S.length,z3] (S++[.lst (us.map pairD)]):=λb=>by
  refine C8 (At (e1:=[sR t,sI c,sR S.length,none]) (S1:=S++[.lst []]) rfl) ?_;exact At ((FY hi).trans h1)
 have tt:mB (m2 (eqD false) (m2 Cw (AC 1) (mC (.int 2))) (mC (.int 1))) [sR t,sI c,sR S.length,z3] (S++[.lst (us.map pairD)])=.ok (decide (c % 2=1)) (S++[.lst (us.map pairD)]):=En (A2 (A2 rfl rfl (Ck (by decide))) rfl (Kf rfl));have i1:=D0 (a:=CD (am (AC 2))) (b:=sNx) tt
 by_cases c0:c % 2=1
 ·rw [wX c0,qX rfl] at i1
  have r1:=i6 (mo:=AC 2) (e:=[sR t,sI c,sR S.length,z3]) (S:=S++[.lst (us.map pairD)]) rfl (Bn _ _);rw [Oh,<-ON] at r1;refine ⟨us.reverse,Cp ?_,?_,by rw [Hq];exact q2⟩
  ·unfold G1
   rw [b2];refine C8 (At (i1.trans (C5 r1))) ?_;rfl
  ·rw [ON,q1]
   exact List.reverse_perm _
 ·rw [wY c0,qY AR] at i1
  refine ⟨us,Cp ?_,by rw [q1],q2⟩;unfold G1;rw [b2];refine C8 (At (i1.trans rfl)) ?_;rfl
theorem Zw {l l':List (List Int)} (h:l.Perm l'):LL l=LL l':=Q0 ((Hs l).trans (h.trans (Hs l').symm)) (O8 l) (O8 l')
theorem dN {ps qs:List (Int×Int)} (h:(ps.map nrm).Perm (qs.map nrm)):DT ps=DT qs:=by
 unfold DT Ih;have:=h.map MQ;rw [BP,BP] at this;rw [show (λx=>MQ (nrm x))=MQ∘nrm from rfl,Zw this]
theorem D5.of {p:Int} {ps qs:List (Int×Int)} (h:(ps.map nrm).Perm (qs.map nrm)) (f:D5 p qs):D5 p ps:=by
 refine ⟨λx hx=>?_,h.nodup_iff.mpr f.2⟩;obtain ⟨y,hy,e⟩:=A7.mp (h.mem_iff.mp (XU hx));have:=f.1 y hy;unfold Fit at this ⊢;rw [<-e];exact this
theorem fY {ds:List D} (hf:∀d∈ds,XI d) (neg:Bool) (S:Sto):eqD neg (.tup ds) (.tup ds) S=.ok (.bl (!neg)) S:=by
 unfold eqD
 have:eqB (.tup ds) (.tup ds) S=some true:=by
  show eqL (eqP 7) ds ds=some true;exact UH 6 ds hf
 rw [this]
 cases neg <;> rfl
theorem Va (ts:List (Int×Int)):∀d∈ts.map pairD,XI d:=λd hd=>by
 obtain ⟨x,_,rfl⟩:=A7.mp hd;exact ⟨[x.1,x.2],rfl⟩
theorem TY (W:Wd) {S:Sto} {q m t:Nat} {ts:List (Int×Int)} (hw:FL W S q m (DT ts)) (ht:S[t]?=some (.lst (ts.map pairD))) (hn:ts.map nrm=ts):∃S',Hb W [.ref q,.int m,.ref t] S=.ok (.bl true) S'/\Keeps S S':=by
 have hi:Gp (.ref t) S=some ((ts.map MQ).map FU):=by
  rw [Lm ht,BP];rfl
 have hs:=JJ (m:=AC 2) (e:=[sR q,sI m,sR t]) (S:=S) rfl hi (O9 _ (by intro r hr;obtain ⟨x,_,rfl⟩:=A7.mp hr;simp [MQ]))
 have e1:(LL (ts.map MQ)).map FU=(DT ts).map pairD:=by
  rw [<-O5];unfold Ih;rw [show (λx=>MQ (nrm x))=MQ∘nrm from rfl,<-BP,hn]
 rw [e1] at hs;have tt:=JI hs (CC (Bn _ _));refine ⟨S++[.lst ((DT ts).map pairD)],Cp ?_,Keeps.app _ _⟩;unfold Mi;refine FV ?_;unfold Jx;rw [A2 (hw.places rfl) rfl (Kf (wX rfl))];dsimp only [Res.bind];exact A2 (hw.ties rfl) tt (fY (Va _) false _)
end M
namespace M
open PySem L2
theorem Zv {l l':List Int} (h:l.Perm l'):E4 l=E4 l':=
 (((Di l).trans h).trans (Di l').symm).eq_of_pairwise (λa b _ _ h1 h2=>QT h1 h2) (MK l) (MK l')
theorem YV {l l':List (Int×Int)} (h:l.Perm l') (x:Nat):(Bk l x).Perm (Bk l' x):=List.Perm.flatMap_right _ h
def nr (ts:List (Int×Int)) (x:Nat):List Int:=E4 (Bk ts x)
theorem ei {o:Nat} {ts:List (Int×Int)} (hu:Ds o 0 ts) (x:Nat):nr (DT ts) x=nr ts x:=by
 have:=M9 ts;rw [hu.nrm] at this;exact Zv (YV this x)
theorem PY {ts:List (Int×Int)} {x:Nat} {z:Int}:z∈nr ts x↔((x:Int),z)∈ts∨(z,(x:Int))∈ts:=by
 unfold nr;rw [(Di _).mem_iff];unfold Bk;rw [cI]
 constructor
 ·rintro ⟨t,ht,h⟩
  rcases Aw.mp h with h | h
  ·split at h
   ·rename_i e
    rw [AY.mp h,<-e];exact .inl ht
   ·cases h
  ·split at h
   ·rename_i e
    rw [AY.mp h,<-e];exact .inr ht
   ·cases h
 ·rintro (h | h)
  ·exact ⟨_,h,A3 _ (by simp)⟩
  ·exact ⟨_,h,A4 _ (by simp)⟩
theorem ej {ts:List (Int×Int)} {x y:Nat}:(y:Int)∈nr ts x↔(x:Int)∈nr ts y:=by
 rw [PY,PY];exact Or.comm
theorem gj {o x:Nat} {ts:List (Int×Int)} (hu:Ds o 0 ts) {z:Int} (h:z∈nr ts x):0<=z/\z < o:=by
 rcases PY.mp h with h | h
 ·obtain ⟨h1,h2,h3⟩:=hu.1 _ h
  dsimp only at h1 h2 h3
  lia
 ·obtain ⟨h1,h2,h3⟩:=hu.1 _ h
  dsimp only at h1 h2 h3
  lia
def Mq (S:Sto) (n o:Nat) (ts:List (Int×Int)):Prop:=∃rs:List Nat,S[n]?=some (.lst (rs.map D.ref))/\rs.length=o/\∀x,x < o->∃r,rs[x]?=some r/\S[r]?=some (.lst ((nr ts x).map D.int))
theorem Mq.keeps {S S':Sto} {n o:Nat} {ts:List (Int×Int)} (h:Mq S n o ts) (k:Keeps S S'):Mq S' n o ts:=by
 obtain ⟨rs,h1,h2,h3⟩:=h
 exact ⟨rs,k.at h1,h2,λx hx=>by
  obtain ⟨r,q1,q2⟩:=h3 x hx
  exact ⟨r,q1,k.at q2⟩⟩
theorem aY (W:Wd) {S:Sto} {t o:Nat} {ts:List (Int×Int)} (ht:S[t]?=some (.lst (ts.map pairD))) (hu:Ds o 0 ts) (ho:o<=60) (hl:ts.length<=40000) :
  ∃n S',Hc W [.ref t,.int o] S=.ok (.ref n) S'/\Keeps S S'/\Mq S' n o ts:=by
 have a1:=Cb (i:=2) (Ht (Q4 ho (mp:=AC 1) (e:=[sR t,sI o,none,none,none]) (S:=S) rfl));have e1:(S++E9 o λ_=>[])++[.lst (DU S.length o)]=stN S o (Bk []):=rfl
 have e2:(S++E9 o λ_=>[]).length=S.length+o:=by simp [Gj]
 rw [e1,e2] at a1
 obtain ⟨f,S1,h1,⟨z3,z4,rfl⟩,rfl⟩:=Gs (v:=FE (.ref t)) (g:=Fx 2 (B7 (tgN 3) (B7 (tgN 4) GX))) (b:=RU) (xs:=ts.map pairD) (e:=[sR t,sI o,sR (S.length+o),none,none]) (S:=stN S o (Bk []))
  (λi e S'=>(∃z3 z4,e=[sR t,sI o,sR (S.length+o),z3,z4])/\S'=stN S o (Bk (ts.take i)))
  (λf S'=>(∃z3 z4,f=.nx [sR t,sI o,sR (S.length+o),z3,z4])/\S'=stN S o (Bk ts))
  ⟨⟨none,none,rfl⟩,rfl⟩ (by rintro i e S' ⟨_,rfl⟩;exact C0 ((Hk S o _).at ht))
  (by
   rintro i y e S' hy ⟨⟨z3,z4,rfl⟩,rfl⟩;rw [AX] at hy
   cases hx:ts[i]? with
   | none=>rw [hx] at hy;cases hy
   | some x=>
    rw [hx] at hy;cases hy
    have hin:In o x:=by
     obtain ⟨g1,g2,g3⟩:=hu.1 x (A8 hx);exact ⟨by omega,by lia,by lia,by lia,by lia⟩
    refine ⟨[sR t,sI o,sR (S.length+o),sI x.1,sI x.2],_,rfl,_,_,Q3 hin (λz=>?_),⟨_,_,rfl⟩,?_⟩
    ·have:=Pa (ts.take i) z
     rw [CH] at this
     lia
    ·rw [take_snoc hx,show Bk (ts.take i++[x])=_ from funext λz=>Nl _ _ z])
  (by
   rintro e S' ⟨⟨z3,z4,rfl⟩,rfl⟩;rw [AH,B5]
   exact ⟨⟨_,_,rfl⟩,rfl⟩)
 have a2:=(FY (g:=Fx 2 (B7 (tgN 3) (B7 (tgN 4) GX))) (b:=RU) (FG (m:=AC 0) (e:=[sR t,sI o,sR (S.length+o),none,none]) (S:=stN S o (Bk [])) (S1:=stN S o (Bk [])) rfl ((Hk S o _).at ht))).trans h1
 obtain ⟨r,S2,q1,e',⟨z,_⟩,K,rs,rfl,q2,q3⟩:=Mf (v:=FE (.ref (S.length+o))) (g:=tgN 0) (c:=Fn) (m:=ET (AC 0)) (xs:=DU S.length o) (e:=[none,sR t,sI o,sR (S.length+o),z3,z4]) (S:=stN S o (Bk ts))
  (λi e' S' acc=>(∃z,e'=[z,sR t,sI o,sR (S.length+o),z3,z4])/\Keeps (stN S o (Bk ts)) S'/\∃rs:List Nat,acc=rs.map D.ref/\rs.length=i/\∀x,x < i->∃r,rs[x]?=some r/\S'[r]?=some (.lst ((nr ts x).map D.int)))
  ⟨⟨none,rfl⟩,.refl _,[],rfl,rfl,λx hx=>zX hx (Ho _)⟩ (λi e' S' acc h=>C0 (h.2.1.at (Hr S o _)))
  (by
   rintro i d e' S' acc hd ⟨⟨z,rfl⟩,K,rs,rfl,k2,k3⟩
   have hi:i < o:=by
    have:=(AF.mp hd).1;simpa [DU] using this
   unfold DU at hd;rw [AX,Bg hi] at hd;cases hd;have hit:Gp (.ref (S.length+i)) S'=some ((Bk ts i).map D.int):=Lm (K.at (IU S _ hi));have hs:=JJ (m:=AC 0) (e:=[sR (S.length+i),sR t,sI o,sR (S.length+o),z3,z4]) (S:=S') (S1:=S') rfl hit (Ld _);have K2:=Keeps.app S' [.lst ((E4 (Bk ts i)).map D.int)];refine ⟨by rw [AH];exact BD (show rs.length<=1000 by lia) (by decide),[sR (S.length+i),sR t,sI o,sR (S.length+o),z3,z4],_,rfl,true,_,rfl,.inl ⟨rfl,_,_,hs,⟨_,rfl⟩,K.trans K2,rs++[S'.length],by simp,by simp [k2],λx hx=>?_⟩⟩
   by_cases c:x < i
   ·obtain ⟨r,g1,g2⟩:=k3 x c
    exact ⟨r,by rw [Ac (by lia)];exact g1,K2.at g2⟩
   ·have:x=rs.length:=by lia
    subst this
    exact ⟨S'.length,by simp,by rw [k2];exact Bn _ _⟩)
 rw [show (DU S.length o).length=o by simp [DU]] at q2 q3;have a3:=Ht ((Jp (n:=1) (g:=tgN 0) (c:=Fn) (m:=ET (AC 0)) (FG (m:=AC 2) (e:=[sR t,sI o,sR (S.length+o),z3,z4]) (S:=stN S o (Bk ts)) (S1:=stN S o (Bk ts)) rfl (Hr S o _))).trans q1);have K3:=Keeps.app S2 [.lst (rs.map D.ref)];refine ⟨_,_,Cp ?_,((Hk S o _).trans K).trans K3,rs,Bn _ _,q2,λx hx=>?_⟩
 ·unfold Mj
  refine C8 (At a1) ?_;refine C8 (At a2) ?_;exact FV a3
 ·obtain ⟨r,g1,g2⟩:=q3 x hx
  exact ⟨r,g1,K3.at g2⟩
theorem RB {α:Type} {f:α->D} {P:α->Bool} {l:List α} {v:Hf} {cd:MT} {e:Lo} {S:Sto} (hv:v S=some (l.map f)) (hl:l.length<=1000000) (hc:∀x∈l,cd (some (f x) :: e) S=.ok (P x) S) :
  E5 v (tgN 0) cd (AC 0) (Cj v S) 0 (none :: e) S []=.ok ((l.filter P).map f) S:=by
 obtain ⟨r,S1,q1,e',_,rfl,rfl⟩:=Mf (v:=v) (g:=tgN 0) (c:=cd) (m:=AC 0) (xs:=l.map f) (e:=none :: e) (S:=S)
  (λi e' S' acc=>(∃z,e'=z :: e)/\S'=S/\acc=((l.take i).filter P).map f) ⟨⟨none,rfl⟩,rfl,rfl⟩ (by rintro i e' S' acc ⟨_,rfl,_⟩;exact hv)
  (by
   rintro i d e' S' acc hd ⟨⟨z,rfl⟩,rfl,rfl⟩;rw [AX] at hd
   cases hx:l[i]? with
   | none=>rw [hx] at hd;cases hd
   | some x=>
    rw [hx] at hd;cases hd;refine ⟨?_,some (f x) :: e,S',rfl,P x,S',hc x (A8 hx),?_⟩
    ·rw [AH]
     exact BD (Ax (Kp _ _) (by rw [CH];exact Ax (J2 _ _) hl)) (by decide)
    ·cases hq:P x with
     | true=>
      refine .inl ⟨rfl,f x,S',rfl,⟨_,rfl⟩,rfl,?_⟩;rw [take_snoc hx,IT];simp [hq]
     | false=>
      refine .inr ⟨rfl,⟨_,rfl⟩,rfl,?_⟩;rw [take_snoc hx,IT]
      simp [hq])
 rw [AH,B5] at q1;exact q1
theorem aj {α:Type} {f g:α->D} {l:List α} {v:Hf} {m:ME} {e:Lo} {S:Sto} (hv:v S=some (l.map f)) (hl:l.length<=1000000) (hm:∀x∈l,m (some (f x) :: e) S=.ok (g x) S) :
  E5 v (tgN 0) Fn m (Cj v S) 0 (none :: e) S []=.ok (l.map g) S:=by
 obtain ⟨r,S1,q1,e',_,rfl,rfl⟩:=Mf (v:=v) (g:=tgN 0) (c:=Fn) (m:=m) (xs:=l.map f) (e:=none :: e) (S:=S)
  (λi e' S' acc=>(∃z,e'=z :: e)/\S'=S/\acc=(l.take i).map g) ⟨⟨none,rfl⟩,rfl,rfl⟩ (by rintro i e' S' acc ⟨_,rfl,_⟩;exact hv)
  (by
   rintro i d e' S' acc hd ⟨⟨z,rfl⟩,rfl,rfl⟩;rw [AX] at hd
   cases hx:l[i]? with
   | none=>rw [hx] at hd;cases hd
   | some x=>
    rw [hx] at hd;cases hd;refine ⟨?_,some (f x) :: e,S',rfl,true,S',rfl,.inl ⟨rfl,g x,S',hm x (A8 hx),⟨_,rfl⟩,rfl,?_⟩⟩
    ·rw [AH,CH]
     exact BD (Ax (J2 _ _) hl) (by decide)
    ·rw [take_snoc hx,BC]
     rfl)
 rw [AH,B5] at q1;exact q1
theorem fb {α:Type} {f:α->D} {l:List α} {v:Hf} {g:MG} {b:MS} {e:Lo} {S:Sto} (I:List α->Lo->Sto->Prop) (h0:I [] e S) (hv:∀t e S,I t e S->v S=some (l.map f))
  (step:∀t x e S,x∈l->t.length < l.length->I t e S->∃e1 S1,g (f x) e S=.ok e1 S1/\∃e2 S2,b e1 S1=.ok (.nx e2) S2/\I (t++[x]) e2 S2) :
  ∃e' S',JU v g b (Cj v S) 0 e S=.ok (.nx e') S'/\I l e' S':=by
 obtain ⟨f',S',h1,e',rfl,h2⟩:=Gs (v:=v) (g:=g) (b:=b) (xs:=l.map f) (e:=e) (S:=S) (λi e S=>I (l.take i) e S) (λf' S'=>∃e',f'=.nx e'/\I l e' S') h0 (λi e S h=>hv _ e S h)
  (by
   intro i d e S hd hI;rw [AX] at hd
   cases hx:l[i]? with
   | none=>rw [hx] at hd;cases hd
   | some x=>
    rw [hx] at hd;cases hd;have hlt:=(AF.mp hx).1;obtain ⟨e1,S1,q1,e2,S2,q2,q3⟩:=step (l.take i) x e S (A8 hx) (by rw [CH];lia) hI;refine ⟨e1,S1,q1,.nx e2,S2,q2,?_⟩;show I (l.take (i+1)) e2 S2;rw [take_snoc hx]
    exact q3)
  (by
   intro e S hI;rw [AH,B5] at hI
   exact ⟨e,rfl,hI⟩)
 exact ⟨e',S',h1,h2⟩
theorem Vq {t:MT} {a b:MS} {e:Lo} {S S0 S1:Sto} {d:D} (h:t e S=.ok true S0) (ha:a e S0=.ok (.rt d) S1):BM (sIf t a sNx) b e S=.ok (.rt d) S1:=PD ((D0 h).trans ((qX rfl).trans ha))
theorem Oc {t:MT} {a b:MS} {e:Lo} {S S0:Sto} (h:t e S=.ok false S0):BM (sIf t a sNx) b e S=b e S0:=At (e1:=e) ((D0 h).trans ((qY AR).trans rfl))
abbrev Met:=List (Int×Int)
def mD (L:Met):List (Key×D):=L.map λa=>(Cf a.1,D.int a.2)
def Aj (L:Met):List Int:=L.map (·.1)
def stp (L:Met) (z:Int):Int:=((L.find? λa=>decide (a.1=z)).map (·.2)).getD 0
theorem C2 (L N:Met):Aj (L++N)=Aj L++Aj N:=BC
theorem Ba {L:Met} {z:Int}:z∈Aj L↔∃d,(z,d)∈L:=by
 unfold Aj
 constructor
 ·intro h
  obtain ⟨a,ha,rfl⟩:=A7.mp h;exact ⟨a.2,ha⟩
 ·rintro ⟨d,h⟩
  exact A7.mpr ⟨_,h,rfl⟩
theorem aq (L:Met) (z:Int):EY (mD L) (Cf z)=(L.find? λa=>decide (a.1=z)).map λa=>D.int a.2:=by
 unfold EY mD
 induction L with
 | nil=>rfl
 | cons a L ih=>
  rw [A5,BY,BY]
  by_cases e:a.1=z
  ·have:decide ((Cf a.1:Key)=Cf z)=true:=wX (by rw [e])
   rw [this,wX e];rfl
  ·have:decide ((Cf a.1:Key)=Cf z)=false:=wY λq=>e (Sw q)
   rw [this,wY e];exact ih
theorem UE {L:Met} (nd:(Aj L).Nodup) {z d:Int} (h:(z,d)∈L):(L.find? λa=>decide (a.1=z))=some (z,d):=by
 induction L with
 | nil=>cases h
 | cons a L ih=>
  rw [BY];obtain ⟨n1,n2⟩:=DC.mp (show (a.1 :: Aj L).Nodup from nd)
  rcases Au.mp h with e | h'
  ·subst e
   rw [wX rfl]
  ·have:¬a.1=z:=λe=>n1 (by rw [e];exact Ba.mpr ⟨d,h'⟩)
   rw [wY this];exact ih n2 h'
theorem FT {L:Met} (nd:(Aj L).Nodup) {z d:Int} (h:(z,d)∈L):stp L z=d:=by
 unfold stp;rw [UE nd h];rfl
theorem WX {L:Met} (nd:(Aj L).Nodup) {z:Int} (h:z∈Aj L):(z,stp L z)∈L:=by
 obtain ⟨d,hd⟩:=Ba.mp h;rw [FT nd hd];exact hd
theorem jf (L:Met) (z:Int):(EY (mD L) (Cf z)).isSome=decide (z∈Aj L):=by
 rw [aq]
 induction L with
 | nil=>rfl
 | cons a L ih=>
  rw [BY]
  by_cases e:a.1=z
  ·rw [wX e]
   exact (wX (show z∈a.1 :: Aj L by rw [e];exact Ag)).symm
  ·rw [wY e]
   refine ih.trans (decide_eq_decide.mpr ?_);show z∈Aj L↔z∈a.1 :: Aj L;rw [Au];exact ⟨.inr,λh=>h.resolve_left λq=>e q.symm⟩
theorem ao {L:Met} {z:Int} (h:z∉Aj L) (v:Int):Ij (mD L) (Cf z) (.int v)=mD (L++[(z,v)]):=by
 unfold Ij;rw [qY]
 ·unfold mD
  rw [BC];rfl
 ·intro q
  obtain ⟨y,hy,e⟩:=OP.mp q;obtain ⟨a,ha,rfl⟩:=A7.mp hy;have e:=Sw (of_decide_eq_true e);exact h (Ba.mpr ⟨a.2,by rw [<-e];exact ha⟩)
theorem Vo {S:Sto} {n:Nat} {L:Met} (h:S[n]?=some (.dK (mD L))) (neg:Bool) (z:Int):inA neg (.int z) (.ref n) S=.ok (.bl (if neg then !decide (z∈Aj L) else decide (z∈Aj L))) S:=by
 show FW (inD neg (.int z) (.ref n) S) (LC neg (.int z) (.ref n) S)=_
 have e:inD neg (.int z) (.ref n) S=.bad:=by
  unfold inD Fy;dsimp only;rw [h]
 have e2:NU (.ref n) (.int z) S=some (EY (mD L) (Cf z)):=by
  unfold NU;dsimp only;rw [h];rfl
 rw [e];show LC neg (.int z) (.ref n) S=_;unfold LC;rw [e2];dsimp only;rw [jf]
theorem Kt {S:Sto} {n:Nat} {L:Met} (h:S[n]?=some (.dK (mD L))) (nd:(Aj L).Nodup) {z:Int} (hz:z∈Aj L):ixA (.ref n) (.int z) S=.ok (.int (stp L z)) S:=by
 show FW (ixD (.ref n) (.int z) S) (LS (.ref n) (.int z) S)=_
 have e:ixD (.ref n) (.int z) S=.bad:=by
  unfold ixD Fy;dsimp only;rw [h]
 have e2:NU (.ref n) (.int z) S=some (some (.int (stp L z))):=by
  unfold NU;dsimp only;rw [h];show some (EY (mD L) (Cf z))=_;rw [aq,UE nd (WX nd hz)];rfl
 rw [e];show LS (.ref n) (.int z) S=_;unfold LS;rw [e2]
theorem dk {mo mi mv:ME} {e:Lo} {S:Sto} {d:Nat} {L:Met} {z v:Int} (hv:mv e S=.ok (.int v) S) (ho:mo e S=.ok (.ref d) S) (hi:mi e S=.ok (.int z) S) (h:S[d]?=some (.dK (mD L))) (hz:z∉Aj L) (hl:L.length<=100000) :
  Ii mo mi mv e S=.ok (.nx e) (S.set d (.dK (mD (L++[(z,v)])))):=by
 unfold Ii;rw [hv];dsimp only [Res.lift];rw [ho];dsimp only [Res.lift];rw [hi];dsimp only [Res.lift]
 have:Yf (.ref d) (.int z) (.int v) S=some (S.set d (.dK (mD (L++[(z,v)])))):=by
  unfold Yf;dsimp only;rw [h];show (if (mD L).length < sizeLine then some (S.set d (.dK (Ij (mD L) (Cf z) (.int v)))) else none)=_;rw [qX (by unfold mD;rw [AH];exact BD hl (by decide)),ao hz]
 rw [this]
theorem fg {mk mv:ME} {e:Lo} {S:Sto} {z v:Int} (hk:mk e (S++[.dK []])=.ok (.int z) (S++[.dK []])) (hv:mv e (S++[.dK []])=.ok (.int v) (S++[.dK []])):Pg mk mv e S=.ok (.ref S.length) (S++[.dK (mD [(z,v)])]):=by
 unfold Pg;rw [hk];dsimp only [Res.bind];rw [hv];dsimp only [Res.bind];rw [Bn];show Res.ok (D.ref S.length) ((S++[Ob.dK []]).set S.length (.dK (Ij [] (Cf z) (.int v))))=_;have e1:Ij ([]:List (Key×D)) (Cf z) (.int v)=mD [(z,v)]:=rfl;rw [e1];simp
theorem Ov {t:MT} {b:MS} (I:Nat->Lo->Sto->Prop) (R:Lo->Sto->Prop)
  (step:∀k e S,I k e S->(∃S1,t e S=.ok false S1/\R e S1)∨∃S1 e2 S2 k',t e S=.ok true S1/\b e S1=.ok (.nx e2) S2/\k' < k/\I k' e2 S2) :
  ∀n k e S,I k e S->k < n->∃e' S',E8 t b n e S=.ok (.nx e') S'/\R e' S'
 | 0,_,_,_,_,h=>zX h (Ho _)
 | n+1,k,e,S,hI,hk=>by
  rcases step k e S hI with ⟨S1,h1,hR⟩ | ⟨S1,e2,S2,k',h1,h2,h3,h4⟩
  ·refine ⟨e,S1,?_,hR⟩
   unfold E8;rw [h1];rfl
  ·obtain ⟨e',S',h5,h6⟩:=Ov I R step n k' e2 S2 h4 (Ae h3 (Nat.le_of_lt_succ hk))
   refine ⟨e',S',?_,h6⟩;unfold E8;rw [h1];dsimp only [Res.lift];rw [qX rfl,h2];exact h5
def cD (d:Int) (L:Met) (y:Int):Met:=if y∈Aj L then L else L++[(y,d+1)]
def IF (d:Int) (ys:List Int) (L:Met):Met:=ys.foldl (cD d) L
theorem Nz (d:Int) (ys:List Int) (y:Int) (L:Met):IF d (ys++[y]) L=cD d (IF d ys L) y:=by
 unfold IF;rw [ZL];rfl
theorem IZ (d:Int):∀(ys:List Int) (L:Met),∃N,IF d ys L=L++N/\(∀a∈N,a.2=d+1/\a.1∈ys/\a.1∉Aj L)/\(∀y∈ys,y∈Aj (L++N))/\(Aj N).Nodup
 | [],L=>⟨[],(BJ L).symm,λ_ h=>zX h CG,λ_ h=>zX h CG,IR⟩
 | y :: ys,L=>by
  have e:IF d (y :: ys) L=IF d ys (cD d L y):=rfl
  by_cases c:y∈Aj L
  ·have e1:cD d L y=L:=qX c
   obtain ⟨N,h1,h2,h3,h4⟩:=IZ d ys L;refine ⟨N,by rw [e,e1,h1],λa ha=>⟨(h2 a ha).1,AW _ (h2 a ha).2.1,(h2 a ha).2.2⟩,λz hz=>?_,h4⟩
   rcases Au.mp hz with rfl | hz
   ·rw [C2];exact A3 _ c
   ·exact h3 z hz
  ·have e1:cD d L y=L++[(y,d+1)]:=qY c
   obtain ⟨N,h1,h2,h3,h4⟩:=IZ d ys (L++[(y,d+1)]);refine ⟨(y,d+1) :: N,by rw [e,e1,h1,BE];rfl,λa ha=>?_,λz hz=>?_,?_⟩
   ·rcases Au.mp ha with rfl | ha
    ·exact ⟨rfl,Ag,c⟩
    ·refine ⟨(h2 a ha).1,AW _ (h2 a ha).2.1,λz=>(h2 a ha).2.2 ?_⟩
     rw [C2];exact A3 _ z
   ·have e2:L++(y,d+1) :: N=L++[(y,d+1)]++N:=by simp
    rw [e2]
    rcases Au.mp hz with rfl | hz
    ·rw [C2,C2]
     exact A3 _ (A4 _ (by simp [Aj]))
    ·exact h3 z hz
   ·refine DC.mpr ⟨λz=>?_,h4⟩
    obtain ⟨a,ha,e3⟩:=A7.mp z;refine (h2 a ha).2.2 ?_;rw [C2];exact A4 _ (by rw [e3];simp [Aj])
section
variable (nb:Int->List Int) (s:Int)
def NG (L:Met) (i:Nat):Met:=match L[i]? with
 | some a=>IF a.2 (nb a.1) L
 | none=>L
def Rn:Nat->Met
 | 0=>[(s,0)]
 | i+1=>NG nb (Rn i) i
end
section
variable {nb:Int->List Int} {s:Int} {p:Nat}
theorem NF {L:Met} {i:Nat} {a:Int×Int} (h:L[i]?=some a):NG nb L i=IF a.2 (nb a.1) L:=by unfold NG;rw [h]
theorem aG (L:Met) (i:Nat):∃N,NG nb L i=L++N:=by
 unfold NG;split
 ·obtain ⟨N,h,_⟩:=IZ _ (nb _) L
  exact ⟨N,h⟩
 ·exact ⟨[],(BJ L).symm⟩
theorem Sf (i:Nat):∀k:Nat,∃N,Rn nb s (i+k)=Rn nb s i++N
 | 0=>⟨[],(BJ _).symm⟩
 | k+1=>by
  obtain ⟨N,h⟩:=Sf i k;obtain ⟨N',h'⟩:=aG (nb:=nb) (Rn nb s (i+k)) (i+k);refine ⟨N++N',?_⟩;show NG nb (Rn nb s (i+k)) (i+k)=_;rw [h',h,BE]
theorem kM {i j k:Nat} (h:i<=k) {a:Int×Int} (ha:(Rn nb s i)[j]?=some a):(Rn nb s k)[j]?=some a:=by
 obtain ⟨N,e⟩:=Sf (nb:=nb) (s:=s) i (k - i);rw [show i+(k - i)=k by lia] at e;rw [e,Ac (AF.mp ha).1];exact ha
theorem Se {i:Nat} (h:(Rn nb s i).length<=i):∀k,Rn nb s (i+k)=Rn nb s i
 | 0=>rfl
 | k+1=>by
  show NG nb (Rn nb s (i+k)) (i+k)=_;rw [Se h k];unfold NG;rw [BX (by lia)]
theorem V8 {i j:Nat} (hi:(Rn nb s i).length<=i) (hj:(Rn nb s j).length<=j):Rn nb s i=Rn nb s j:=by
 rcases Nat.le_total i j with h | h
 ·have:=Se hi (j - i)
  rw [show i+(j - i)=j by lia] at this;exact this.symm
 ·have:=Se hj (i - j)
  rw [show j+(i - j)=i by lia] at this;exact this
structure Bf (nb:Int->List Int) (p:Nat) (s:Int) (i:Nat) (L:Met):Prop where
 nd:(Aj L).Nodup
 rng:∀a∈L,0<=a.1/\a.1 < p
 nn:∀a∈L,0<=a.2
 up:(L.map (·.2)).Pairwise (·<=·)
 src:(s,0)∈L
 zero:∀a∈L,a.2=0->a.1=s
 cl:∀j,j < i->∀a,L[j]?=some a->∀y∈nb a.1,∃d,(y,d)∈L/\d<=a.2+1
 par:∀a∈L,0 < a.2->∃b∈L,b.2+1=a.2/\a.1∈nb b.1
 top:∀a,L[i]?=some a->∀b∈L,b.2<=a.2+1
 low:∀(j:Nat) a,L[j]?=some a->a.2<=j
theorem Bf.step (hnb:∀x:Int,0<=x->x < p->∀y∈nb x,0<=y/\y < p) {i:Nat} {L:Met} (h:Bf nb p s i L):Bf nb p s (i+1) (NG nb L i):=by
 cases hq:L[i]? with
 | none=>
  have e:NG nb L i=L:=by unfold NG;rw [hq]
  rw [e];have hl:=Bh.mp hq;refine ⟨h.nd,h.rng,h.nn,h.up,h.src,h.zero,λj hj a ha=>h.cl j ?_ a ha,h.par,λa ha=>?_,h.low⟩
  ·have:=(AF.mp ha).1;lia
  ·have:=(AF.mp ha).1;omega
 | some x=>
  rw [NF hq];have hx:=A8 hq;obtain ⟨N,h1,h2,h3,h4⟩:=IZ x.2 (nb x.1) L;rw [h1];have hxr:=h.rng x hx;refine ⟨?_,λa ha=>?_,λa ha=>?_,?_,A3 _ h.src,λa ha h0=>?_,λj hj a ha y hy=>?_,λa ha h0=>?_,λa ha b hb=>?_,λj a ha=>?_⟩
  ·rw [C2]
   refine CL.mpr ⟨h.nd,h4,λa ha b hb e=>?_⟩;obtain ⟨c,hc,rfl⟩:=A7.mp hb;exact (h2 c hc).2.2 (e▸ha)
  ·rcases Aw.mp ha with ha | ha
   ·exact h.rng a ha
   ·exact hnb x.1 hxr.1 hxr.2 a.1 (h2 a ha).2.1
  ·rcases Aw.mp ha with ha | ha
   ·exact h.nn a ha
   ·have:=(h2 a ha).1;have:=h.nn x hx;lia
  ·rw [BC]
   refine Bb.mpr ⟨h.up,?_,λa ha b hb=>?_⟩
   ·refine C9.mpr (M0 (R:=λ_ _=>True) (λ{a b} ha hb _=>?_) (List.pairwise_of_forall λ_ _=>Cv))
    have:=(h2 a ha).1;have:=(h2 b hb).1;lia
   ·obtain ⟨c,hc,rfl⟩:=A7.mp ha
    obtain ⟨d,hd,rfl⟩:=A7.mp hb;have:=h.top x hq c hc;have:=(h2 d hd).1;lia
  ·rcases Aw.mp ha with ha | ha
   ·exact h.zero a ha h0
   ·have:=(h2 a ha).1;have:=h.nn x hx;lia
  ·by_cases hji:j=i
   ·subst hji
    rw [Ac (AF.mp hq).1,hq] at ha;cases ha;obtain ⟨d,hd⟩:=Ba.mp (h3 y hy);refine ⟨d,hd,?_⟩
    rcases Aw.mp hd with hd | hd
    ·exact h.top x hq _ hd
    ·exact Int.le_of_eq (h2 _ hd).1
   ·have hlt:j < L.length:=by have:=(AF.mp hq).1;lia
    rw [Ac hlt] at ha;obtain ⟨d,hd,hle⟩:=h.cl j (by lia) a ha y hy;exact ⟨d,A3 _ hd,hle⟩
  ·rcases Aw.mp ha with ha | ha
   ·obtain ⟨b,hb,h5⟩:=h.par a ha h0
    exact ⟨b,A3 _ hb,h5⟩
   ·exact ⟨x,A3 _ hx,(h2 a ha).1.symm,(h2 a ha).2.1⟩
  ·have hax:x.2<=a.2:=by
    by_cases hlt:i+1 < L.length
    ·rw [Ac hlt] at ha
     have h5:(L.map (·.2))[i]?=some x.2:=by rw [AX,hq];rfl
     have h6:(L.map (·.2))[i+1]?=some a.2:=by rw [AX,ha];rfl
     obtain ⟨l5,e5⟩:=AF.mp h5;obtain ⟨l6,e6⟩:=AF.mp h6;have:=Rh.mp h.up i (i+1) l5 l6 (by lia);rwa [e5,e6] at this
    ·have hlt':=(AF.mp hq).1
     rw [A9 (by lia)] at ha;have:=(h2 a (A8 ha)).1
     lia
   rcases Aw.mp hb with hb | hb
   ·have:=h.top x hq b hb;lia
   ·have:=(h2 b hb).1;lia
  ·by_cases hlt:j < L.length
   ·rw [Ac hlt] at ha
    exact h.low j a ha
   ·have hlt':=(AF.mp hq).1
    rw [A9 (by lia)] at ha;have:=(h2 a (A8 ha)).1;have:=h.low i x hq
    lia
theorem N0 (hnb:∀x:Int,0<=x->x < p->∀y∈nb x,0<=y/\y < p) (hs:0<=s/\s < p):∀i,Bf nb p s i (Rn nb s i)
 | 0=>by
  refine ⟨by show [s].Nodup;simp,λa ha=>?_,λa ha=>?_,Jt _ _,AY.mpr rfl,λa ha _=>?_,λj hj=>zX hj (Ho _),λa ha h0=>?_,λa ha b hb=>?_,λj a ha=>?_⟩
  ·rw [AY.mp ha];exact hs
  ·rw [AY.mp ha];exact XX _
  ·rw [AY.mp ha]
  ·rw [AY.mp ha] at h0;exact zX h0 (Int.lt_irrefl _)
  ·cases ha;rw [AY.mp hb];exact Int.le_add_one (XX _)
  ·rw [AY.mp (A8 ha)];exact Int.natCast_nonneg j
 | i+1=>(N0 hnb hs i).step hnb
theorem Nm:∀(p:Nat) (l:List Int),l.Nodup->(∀z∈l,0<=z/\z < p)->l.length<=p
 | 0,l,_,h=>by
  cases l with
  | nil=>exact AL _
  | cons a l=>have:=h a (by simp);lia
 | p+1,l,nd,h=>by
  by_cases c:(p:Int)∈l
  ·have h1:=Sm c
   have hpos:0 < l.length:=Uc c
   have i1:=Nm p (l.erase (p:Int)) (nd.erase _) λz hz=>by
    obtain ⟨hz1,hz2⟩:=nd.mem_erase_iff.mp hz;have:=h z hz2
    lia
   lia
  ·have i1:=Nm p l nd λz hz=>by
    have:=h z hz
    have:z≠p:=λe=>c (e▸hz)
    lia
   lia
theorem Bf.len {i:Nat} {L:Met} (h:Bf nb p s i L):L.length<=p:=by
 have:=Nm p (Aj L) h.nd λz hz=>by
  obtain ⟨a,ha,rfl⟩:=A7.mp hz;exact h.rng a ha
 unfold Aj at this;rwa [AH] at this
structure Fd (nb:Int->List Int) (p:Nat) (s:Int) (L:Met):Prop where
 nd:(Aj L).Nodup
 rng:∀a∈L,0<=a.1/\a.1 < p
 nn:∀a∈L,0<=a.2
 src:(s,0)∈L
 zero:∀a∈L,a.2=0->a.1=s
 cl:∀a∈L,∀y∈nb a.1,∃d,(y,d)∈L/\d<=a.2+1
 par:∀a∈L,0 < a.2->∃b∈L,b.2+1=a.2/\a.1∈nb b.1
 len:L.length<=p
 far:∀a∈L,a.2 < p
theorem Bf.fd {i:Nat} {L:Met} (h:Bf nb p s i L) (hl:L.length<=i):Fd nb p s L:=⟨h.nd,h.rng,h.nn,h.src,h.zero,λa ha y hy=>by
 obtain ⟨j,hj,e⟩:=XV ha
 exact h.cl j (by lia) a (by rw [BG hj,e]) y hy,h.par,h.len,λa ha=>by
 obtain ⟨j,hj,e⟩:=XV ha;have:=h.low j a (by rw [BG hj,e]);have:=h.len
 lia⟩
def G5 (nb:Int->List Int) (L:Met) (x:Int):List Int:=(nb x).filter λy=>decide (stp L y < stp L x)
theorem Fd.next {L:Met} (h:Fd nb p s L) (hsym:∀x y:Int,0<=x->0<=y->y∈nb x->x∈nb y) {x d:Int} (hx:(x,d)∈L) (hd:0 < d):∃y l,G5 nb L x=y :: l/\(y,d - 1)∈L:=by
 have ex:=FT h.nd hx;obtain ⟨b,hb,e1,e2⟩:=h.par _ hx hd;have hxr:=h.rng _ hx;have hbr:=h.rng _ hb;have hbx:b.1∈nb x:=hsym b.1 x hbr.1 hxr.1 e2;have eb:stp L b.1=b.2:=FT h.nd hb;have hbn:b.1∈G5 nb L x:=Bc.mpr ⟨hbx,wX (by rw [ex,eb];dsimp only at e1;lia)⟩
 cases hq:G5 nb L x with
 | nil=>rw [hq] at hbn;cases hbn
 | cons y l=>
  refine ⟨y,l,rfl,?_⟩
  have hy:y∈G5 nb L x:=by rw [hq];exact Ag
  obtain ⟨hy1,hy2⟩:=Bc.mp hy;have hy2:=of_decide_eq_true hy2;obtain ⟨d',hd',_⟩:=h.cl _ hx y hy1;have ey:=FT h.nd hd';have hyr:=h.rng _ hd';obtain ⟨d2,hd2,hle⟩:=h.cl _ hd' x (hsym x y hxr.1 hyr.1 hy1)
  have:d2=d:=by rw [<-FT h.nd hd2,ex]
  subst this;rw [ex,ey] at hy2;dsimp only at hle
  have:d'=d2 - 1:=by lia
  rw [<-this];exact hd'
def Jv (nb:Int->List Int) (L:Met):Nat->Int->List Int
 | 0,x=>[x]
 | n+1,x=>x :: Jv nb L n ((G5 nb L x).headD 0)
theorem M4 (L:Met):∀(n:Nat) (x:Int),(Jv nb L n x).length=n+1
 | 0,_=>rfl
 | n+1,x=>by
  show (Jv nb L n _).length+1=_;rw [M4 L n]
end
theorem Tb {l:List Int} (h:l.Nodup):(E4 l).Pairwise (· < ·):=by
 have h1:(E4 l).Nodup:=(Di l).nodup_iff.mpr h
 exact ((MK l).and h1).imp λ{a b} ⟨q1,q2⟩=>by lia
abbrev bIn (g v a:Nat) (mval:ME):MS:=sIf (mB (m2 (inA true) (AC v) (AC g))) (BM (Ii (AC g) (AC v) mval) (CD (FA (AC a) (AC v)))) sNx
theorem Vg {L:Met} {y d:Int} (h:(Aj L).Nodup) (c:y∉Aj L):(Aj (L++[(y,d)])).Nodup:=by
 rw [C2];refine CL.mpr ⟨h,by simp [Aj],λa ha b hb e=>c ?_⟩
 have:b=y:=by simpa [Aj] using hb
 rw [<-this,<-e];exact ha
theorem bK {g v a:Nat} {mval:ME} {E:Option D->Lo} {dI fI:Nat} {d:Int} {L:Met} {fs:List Int} {S:Sto} {ys:List Int} {z:Option D} {vw:Hf}
  (hvw:∀S',(∀j,j≠dI->j≠fI->S'[j]?=S[j]?)->vw S'=some (ys.map D.int))
  (hv:∀x S,AC v (E (some x)) S=.ok x S) (h2:∀z S,AC g (E z) S=.ok (.ref dI) S) (ha:∀z S,AC a (E z) S=.ok (.ref fI) S) (hg:∀x z S,tgN v x (E z) S=.ok (E (some x)) S)
  (hval:∀x S' N,S'[dI]?=some (.dK (mD (L++N)))->S'[fI]?=some (.lst ((fs++Aj N).map D.int))->(Aj (L++N)).Nodup->mval (E (some x)) S'=.ok (.int (d+1)) S')
  (hD:S[dI]?=some (.dK (mD L))) (hF:S[fI]?=some (.lst (fs.map D.int))) (hne:dI≠fI) (nd:(Aj L).Nodup) (hl:L.length<=1000) (hf:fs.length<=1000) (hy:ys.length<=1000) :
  ∃z' S' N,JU vw (tgN v) (bIn g v a mval) (Cj vw S) 0 (E z) S=.ok (.nx (E z')) S'/\IF d ys L=L++N/\S'[dI]?=some (.dK (mD (L++N)))/\S'[fI]?=some (.lst ((fs++Aj N).map D.int))/\S'.length=S.length/\∀j,j≠dI->j≠fI->S'[j]?=S[j]?:=by
 obtain ⟨e',S',h1,z',N,rfl,q1,_,_,q4,q5,q6,q7⟩:=fb (f:=D.int) (l:=ys) (v:=vw) (g:=tgN v) (b:=bIn g v a mval) (e:=E z) (S:=S)
  (λt e S'=>∃z N,e=E z/\IF d t L=L++N/\(Aj (L++N)).Nodup/\N.length<=t.length/\S'[dI]?=some (.dK (mD (L++N)))/\S'[fI]?=some (.lst ((fs++Aj N).map D.int))/\S'.length=S.length/\∀j,j≠dI->j≠fI->S'[j]?=S[j]?)
  ⟨z,[],rfl,(BJ L).symm,by rw [BJ];exact nd,AL _,by rw [BJ];exact hD,by show _=some (Ob.lst ((fs++[]).map D.int));rw [BJ];exact hF,rfl,λ_ _ _=>rfl⟩ (by rintro t e S' ⟨_,_,_,_,_,_,_,_,_,h⟩;exact hvw S' h)
  (by
   rintro t y e S' hyy ht ⟨z,N,rfl,q1,q2,q3,q4,q5,q6,q7⟩;refine ⟨E (some (.int y)),S',hg _ _ _,?_⟩;have t1:mB (m2 (inA true) (AC v) (AC g)) (E (some (.int y))) S'=.ok (!decide (y∈Aj (L++N))) S':=En (A2 (hv _ _) (h2 _ _) (Vo q4 true y));have ic:=D0 (a:=BM (Ii (AC g) (AC v) mval) (CD (FA (AC a) (AC v)))) (b:=sNx) t1
   by_cases c:y∈Aj (L++N)
   ·rw [wX c] at ic
    refine ⟨E (some (.int y)),S',ic.trans rfl,_,N,rfl,?_,q2,by rw [Ao];lia,q4,q5,q6,q7⟩;rw [Nz,q1];exact qX c
   ·rw [wY c] at ic
    have p1:=dk (mo:=AC g) (mi:=AC v) (mv:=mval) (hval (.int y) S' N q4 q5 q2) (h2 _ _) (hv _ _) q4 c (by rw [Ao];lia);have hdl:dI < S'.length:=(AF.mp q4).1;have hfl:fI < S'.length:=(AF.mp q5).1
    have f1:(S'.set dI (.dK (mD (L++N++[(y,d+1)]))))[fI]?=some (.lst ((fs++Aj N).map D.int)):=by rw [Am hne];exact q5
    have a1:=IE (mo:=AC a) (ma:=AC v) (e:=E (some (.int y))) (S:=S'.set dI (.dK (mD (L++N++[(y,d+1)])))) (ha _ _) f1 (hv _ _) f1 (by
     rw [AH,Ao,show (Aj N).length=N.length from AH _]
     exact BD (show fs.length+N.length<=2000 by lia) (by decide))
    refine ⟨E (some (.int y)),_,ic.trans ((qX rfl).trans ((At p1).trans (C5 a1))),_,N++[(y,d+1)],rfl,?_,?_,?_,?_,?_,?_,?_⟩
    ·rw [Nz,q1]
     exact (qY c).trans (BE _ _ _)
    ·rw [<-BE]
     exact Vg q2 c
    ·rw [Ao,Ao,DY,DY];lia
    ·rw [Am (Bw hne),Az hdl,BE]
    ·rw [Az (by rw [Hh];exact hfl),C2]
     simp [Aj]
    ·rw [Hh,Hh];exact q6
    ·intro j h1 h2
     rw [Am (Bw h2),Am (Bw h1)]
     exact q7 j h1 h2)
 exact ⟨z',S',N,h1,q1,q4,q5,q6,q7⟩
theorem T8 {B S S':Sto} (k:Keeps B S) {dI fI:Nat} (h1:B.length<=dI) (h2:B.length<=fI) (hl:S'.length=S.length) (h:∀j,j≠dI->j≠fI->S'[j]?=S[j]?):Keeps B S':=
 ⟨by rw [hl];exact k.1,λj hj=>(h j (by lia) (by lia)).trans (k.2 j hj)⟩
theorem dO {m:ME} {e:Lo} {S:Sto} {n:Nat} {ds:List D} (h:m e S=.ok (.ref n) S) (hn:S[n]?=some (.lst ds)):Pc m e S=.ok (!ds.isEmpty) S:=by
 unfold Pc;rw [h];dsimp only [Res.bind];unfold Tz;dsimp only;rw [hn]
def nbW (ts:List (Int×Int)) (x:Int):List Int:=E4 (Bk ts x.toNat)
abbrev gv (W:Wd):MS:=HF (E1 (BB 2 (Kd W) (AJ (AC 0) (AJ (AC 5) As)))) (tgN 6) (bIn 2 6 4 (m2 Do (m2 ixA (AC 2) (AC 5)) (mC (.int 1))))
abbrev bz (W:Wd):MS:=BM (BZ 4 (DB (CN As))) (BM (HF (E1 (AC 3)) (tgN 5) (gv W)) (BZ 3 (AC 4)))
section
variable {W:Wd} {q p:Nat} {ts:List (Int×Int)} {s:Int}
theorem Z4 {B S:Sto} (hw:FL W B q p ts) (hp:p<=60) (hnb:∀x:Int,0<=x->x < p->∀y∈nbW ts x,0<=y/\y < p) (hlen:∀x,(nbW ts x).length<=1000) (hs:0<=s/\s < p) {i dI ly:Nat} {d1:D} {z4 z5 z6:Option D} (K:Keeps B S) (hdI:B.length<=dI) (hly:B.length<=ly) (hdl:dI≠ly)
  (hD:S[dI]?=some (.dK (mD (Rn (nbW ts) s i)))) (hL:S[ly]?=some (.lst ((Aj ((Rn (nbW ts) s i).drop i)).map D.int))) (hi:i<=(Rn (nbW ts) s i).length) :
  ∃y5 y6 S',bz W [sR q,some d1,sR dI,sR ly,z4,z5,z6] S=oN [sR q,some d1,sR dI,sR S.length,sR S.length,y5,y6] S'/\Keeps B S'/\S'[dI]?=some (.dK (mD (Rn (nbW ts) s (Rn (nbW ts) s i).length)))/\S'[S.length]?=some (.lst ((Aj ((Rn (nbW ts) s (Rn (nbW ts) s i).length).drop (Rn (nbW ts) s i).length)).map D.int)):=by
 have hdS:dI < S.length:=(AF.mp hD).1;have hlS:ly < S.length:=(AF.mp hL).1;have hBf:=N0 hnb hs i;have hnl:=hBf.len;generalize hn0:(Rn (nbW ts) s i).length=n0 at hnl hi ⊢;have s4:BZ 4 (DB (CN As)) [sR q,some d1,sR dI,sR ly,z4,z5,z6] S=oN [sR q,some d1,sR dI,sR ly,sR S.length,z5,z6] (S++[.lst []]):=rfl;have k0:=Keeps.app S [.lst []]
 obtain ⟨f,S1,h1,y5,y6,rfl,K1,D1,F1⟩:=Gs (v:=FE (.ref ly)) (g:=tgN 5) (b:=gv W) (xs:=(Aj ((Rn (nbW ts) s i).drop i)).map D.int) (e:=[sR q,some d1,sR dI,sR ly,sR S.length,z5,z6]) (S:=S++[.lst []])
  (λj e S'=>∃y5 y6,e=[sR q,some d1,sR dI,sR ly,sR S.length,y5,y6]/\Keeps B S'/\S'[dI]?=some (.dK (mD (Rn (nbW ts) s (i+j))))/\S'[S.length]?=some (.lst ((Aj ((Rn (nbW ts) s (i+j)).drop n0)).map D.int))/\S'[ly]?=some (.lst ((Aj ((Rn (nbW ts) s i).drop i)).map D.int)))
  (λf S'=>∃y5 y6,f=.nx [sR q,some d1,sR dI,sR ly,sR S.length,y5,y6]/\Keeps B S'/\S'[dI]?=some (.dK (mD (Rn (nbW ts) s n0)))/\S'[S.length]?=some (.lst ((Aj ((Rn (nbW ts) s n0).drop n0)).map D.int)))
  ⟨z5,z6,rfl,K.trans k0,k0.at hD,by
   rw [N7,Ud (by lia)]
   exact Bn _ _,k0.at hL⟩ (by rintro j e S' ⟨_,_,_,_,_,_,h⟩;exact C0 h)
  (by
   rintro j x e S' hx ⟨y5,y6,rfl,K',D',F',L'⟩;unfold Aj at hx;rw [AX,AX,Ft] at hx
   cases hq:(Rn (nbW ts) s i)[i+j]? with
   | none=>rw [hq] at hx;cases hx
   | some a=>
    rw [hq] at hx;cases hx;have hat:(Rn (nbW ts) s (i+j))[i+j]?=some a:=kM (by lia) hq;have hbf:=N0 hnb hs (i+j);have har:=hbf.rng a (A8 hat);have hll:=hbf.len
    obtain ⟨x,hx⟩:∃x:Nat,a.1=x:=⟨a.1.toNat,by lia⟩
    refine ⟨[sR q,some d1,sR dI,sR ly,sR S.length,sI a.1,y6],S',rfl,?_⟩
    have c1:BB 2 (Kd W) (AJ (AC 0) (AJ (AC 5) As)) [sR q,some d1,sR dI,sR ly,sR S.length,sI a.1,y6] S'=.ok (.tup ((nbW ts a.1).map D.int)) S':=by
     refine (Bl (ds:=[.ref q,.int a.1]) (S1:=S') rfl rfl).trans ?_;unfold nbW;rw [hx,BN];exact Wl (hw.keeps K') (by lia)
    have hfl:(Aj ((Rn (nbW ts) s (i+j)).drop n0)).length<=1000:=by unfold Aj;rw [AH,D8];lia
    obtain ⟨z',S2,N,h2,g1,g2,g3,g4,g5⟩:=bK (g:=2) (v:=6) (a:=4) (mval:=m2 Do (m2 ixA (AC 2) (AC 5)) (mC (.int 1))) (E:=λz=>[sR q,some d1,sR dI,sR ly,sR S.length,sI a.1,z]) (dI:=dI) (fI:=S.length) (d:=a.2) (L:=Rn (nbW ts) s (i+j)) (ys:=nbW ts a.1) (z:=y6) (S:=S') (vw:=Dq ((nbW ts a.1).map D.int)) (λ_ _=>rfl)
     (λ_ _=>rfl) (λ_ _=>rfl) (λ_ _=>rfl) (λ_ _ _=>rfl)
     (λy S2 N hd hf nd=>by
      refine A2 (A2 rfl rfl (Kt hd nd (Ba.mpr ⟨a.2,A3 _ (A8 hat)⟩))) rfl ?_;rw [FT nd (show (a.1,a.2)∈Rn (nbW ts) s (i+j)++N from A3 _ (A8 hat))]
      rfl)
     D' F' (Ak hdS) hbf.nd (by lia) hfl (hlen _)
    refine ⟨.nx [sR q,some d1,sR dI,sR ly,sR S.length,sI a.1,z'],S2,(FY (KW c1)).trans h2,_,z',rfl,T8 K' hdI (by have:=K.1;omega) g4 g5,?_,?_,?_⟩
    ·rw [g2,<-g1]
     show some (Ob.dK (mD (IF a.2 (nbW ts a.1) (Rn (nbW ts) s (i+j)))))=some (Ob.dK (mD (NG (nbW ts) (Rn (nbW ts) s (i+j)) (i+j))));rw [NF hat]
    ·have e1:Rn (nbW ts) s (i+(j+1))=Rn (nbW ts) s (i+j)++N:=by
      show NG (nbW ts) (Rn (nbW ts) s (i+j)) (i+j)=_;rw [NF hat,g1]
     have hle:n0<=(Rn (nbW ts) s (i+j)).length:=by
      obtain ⟨N',e2⟩:=Sf (nb:=nbW ts) (s:=s) i j;rw [e2,Ao]
      lia
     rw [g3,e1,List.drop_append_of_le_length hle,C2]
    ·rw [g5 ly (Bw hdl) (Ak hlS)]
     exact L')
  (by
   rintro e S' ⟨y5,y6,rfl,K',D',F',L'⟩
   have e1:i+((Aj ((Rn (nbW ts) s i).drop i)).map D.int).length=n0:=by
    unfold Aj;rw [AH,AH,D8]
    lia
   rw [e1] at D' F'
   exact ⟨_,_,rfl,K',D',F'⟩)
 exact ⟨y5,y6,S1,(At s4).trans ((At ((FY (FG (m:=AC 3) (n:=ly) rfl (k0.at hL))).trans h1)).trans rfl),K1,D1,F1⟩
theorem O7 {S:Sto} (hw:FL W S q p ts) (hp:p<=60) (hnb:∀x:Int,0<=x->x < p->∀y∈nbW ts x,0<=y/\y < p) (hlen:∀x,(nbW ts x).length<=1000) (hs:0<=s/\s < p) :
  ∃S' i,Cc W [.ref q,.int s] S=.ok (.ref S.length) S'/\Keeps S S'/\S'[S.length]?=some (.dK (mD (Rn (nbW ts) s i)))/\(Rn (nbW ts) s i).length<=i:=by
 have s2:BZ 2 (Pg (AC 1) (mC (.int 0))) (DF 7 [.ref q,.int s]) S=oN [sR q,sI s,sR S.length,none,none,none,none] (S++[.dK (mD [(s,0)])]):=Cb (i:=2) (fg rfl rfl);have s3:BZ 3 (DB (CN (AJ (AC 1) As))) [sR q,sI s,sR S.length,none,none,none,none] (S++[.dK (mD [(s,0)])])=.ok (.nx [sR q,sI s,sR S.length,some (.ref (S++[Ob.dK (mD [(s,0)])]).length),none,none,none]) (S++[.dK (mD [(s,0)])]++[.lst [.int s]]):=rfl
 obtain ⟨e',S',h,i,z3,z4,z5,z6,rfl,K,D1,hl⟩:=Ov (t:=Pc (AC 3)) (b:=bz W)
  (λk e S'=>∃(i ly:Nat) (z4 z5 z6:Option D),e=[sR q,sI s,sR S.length,sR ly,z4,z5,z6]/\Keeps S S'/\S.length < ly/\S'[S.length]?=some (.dK (mD (Rn (nbW ts) s i)))/\S'[ly]?=some (.lst ((Aj ((Rn (nbW ts) s i).drop i)).map D.int))/\i<=(Rn (nbW ts) s i).length/\k+i=p)
  (λe S'=>∃(i:Nat) (z3 z4 z5 z6:Option D),e=[sR q,sI s,sR S.length,z3,z4,z5,z6]/\Keeps S S'/\S'[S.length]?=some (.dK (mD (Rn (nbW ts) s i)))/\(Rn (nbW ts) s i).length<=i)
  (by
   rintro k e S' ⟨i,ly,z4,z5,z6,rfl,K,hly,hD,hL,hi,hk⟩;have t:=dO (m:=AC 3) (e:=[sR q,sI s,sR S.length,sR ly,z4,z5,z6]) rfl hL
   by_cases c:i < (Rn (nbW ts) s i).length
   ·refine .inr ?_
    have hne:((Aj ((Rn (nbW ts) s i).drop i)).map D.int).isEmpty=false:=by
     cases hq:(Aj ((Rn (nbW ts) s i).drop i)).map D.int with
     | nil=>
      have:=congrArg Fv hq;unfold Aj at this;rw [AH,AH,D8] at this;simp at this
      lia
     | cons _ _=>rfl
    rw [hne] at t;obtain ⟨y5,y6,S2,g1,g2,g3,g4⟩:=Z4 (d1:=.int s) (z4:=z4) (z5:=z5) (z6:=z6) hw hp hnb hlen hs K (AL _) (N6 hly) (Ak hly) hD hL hi;have hb:=(N0 hnb hs i).len;have hlS:ly < S'.length:=(AF.mp hL).1;refine ⟨S',_,S2,p - (Rn (nbW ts) s i).length,t,g1,by lia,(Rn (nbW ts) s i).length,S'.length,_,_,_,rfl,g2,by lia,g3,g4,?_,by lia⟩;obtain ⟨N,e2⟩:=Sf (nb:=nbW ts) (s:=s) i ((Rn (nbW ts) s i).length - i);rw [show i+((Rn (nbW ts) s i).length - i)=(Rn (nbW ts) s i).length by lia] at e2;rw [e2,Ao]
    lia
   ·refine .inl ⟨S',?_,i,_,_,_,_,rfl,K,hD,by lia⟩
    rw [t,Ud (by lia)]
    rfl)
  wN p [sR q,sI s,sR S.length,some (.ref (S++[Ob.dK (mD [(s,0)])]).length),none,none,none] (S++[.dK (mD [(s,0)])]++[.lst [.int s]])
  ⟨0,_,none,none,none,rfl,(Keeps.app _ _).trans (Keeps.app _ _),by simp,(Keeps.app _ _).at (Bn _ _),Bn _ _,Cm _,rfl⟩ (show p < 1000000 by lia)
 refine ⟨S',i,Cp (n:=7) (mb:=Jq W) ?_,K,D1,hl⟩;unfold Jq;exact (At s2).trans ((At s3).trans ((At h).trans rfl))
end
def ls (x:Nat):D:=.int x
theorem fA {m:ME} {e:Lo} {S S1:Sto} {d:D} {ds:List D} (h:m e S=.ok d S1) (hs:Fy d S1=some ds) (hl:ds.length<=1000000):DB (mN T3 (JN m)) e S=.ok (.ref S1.length) (S1++[.lst ds]):=by
 refine Ht ?_;unfold mN;rw [Z0 h hs];rfl
theorem Xs (n:Nat):DH 0 n=(AT n).map ls:=by
 refine Eh λi=>?_
 rw [NE,AX]
 by_cases h:i < n
 ·rw [qX h,Bg h,N8];rfl
 ·rw [qY h,BX (by simpa using h)];rfl
theorem Sa {ma mb:ME} {e:Lo} {S S1 S2:Sto} {d:D} (h1:ma e S=.ok (.bl true) S1) (h2:mb e S1=.ok d S2):Jx ma mb e S=.ok d S2:=by
 unfold Jx;rw [h1];exact h2
section
variable {nb:Int->List Int} {p:Nat}
theorem Fd.back {s:Int} {L:Met} (h:Fd nb p s L) (hsym:∀x y:Int,0<=x->0<=y->y∈nb x->x∈nb y) {C:List Int} (hC:∀x∈C,∀y∈nb x,y∈C):∀(d:Nat) (z:Int),(z,(d:Int))∈L->z∈C->s∈C
 | 0,z,hz,hc=>by
  have:z=s:=h.zero _ hz rfl;rw [<-this];exact hc
 | d+1,z,hz,hc=>by
  obtain ⟨b,hb,e1,e2⟩:=h.par _ hz (by dsimp only;lia);have hbz:b.1∈nb z:=hsym b.1 z (h.rng _ hb).1 (h.rng _ hz).1 e2
  have e3:b.2=d:=by dsimp only at e1;lia
  exact Fd.back h hsym hC d b.1 (by rw [<-e3];exact hb) (hC z hc b.1 hbz)
theorem Fd.meets {s:Int} {L:Met} (h:Fd nb p s L) (hsym:∀x y:Int,0<=x->0<=y->y∈nb x->x∈nb y) {C:List Int} (hC:∀x∈C,∀y∈nb x,y∈C) {z:Int} (hz:z∈Aj L) (hc:z∈C):s∈C:=by
 obtain ⟨d,hd⟩:=Ba.mp hz;have:=h.nn _ hd;exact h.back hsym hC d.toNat z (by dsimp only at this;rw [Ci this];exact hd) hc
theorem Fd.closed {s:Int} {L:Met} (h:Fd nb p s L):∀x∈Aj L,∀y∈nb x,y∈Aj L:=λx hx y hy=>by
 obtain ⟨d,hd⟩:=Ba.mp hx;obtain ⟨d',hd',_⟩:=h.cl _ hd y hy;exact Ba.mpr ⟨d',hd'⟩
end
def cov (nb:Int->List Int) (p:Nat) (R:List Nat):Met:=(R.map λs:Nat=>Rn nb s p).flatten
theorem Ki (nb:Int->List Int) (p:Nat) (R:List Nat) (x:Nat):cov nb p (R++[x])=cov nb p R++Rn nb x p:=by
 unfold cov;rw [BC,XW];simp
theorem Kv {nb:Int->List Int} {p:Nat} {R:List Nat} {z:Int}:z∈Aj (cov nb p R)↔∃s∈R,z∈Aj (Rn nb s p):=by
 constructor
 ·intro h
  obtain ⟨d,hd⟩:=Ba.mp h;obtain ⟨l,hl,hz⟩:=OM.mp hd;obtain ⟨s,hs,rfl⟩:=A7.mp hl;exact ⟨s,hs,Ba.mpr ⟨d,hz⟩⟩
 ·rintro ⟨s,hs,h⟩
  obtain ⟨d,hd⟩:=Ba.mp h;exact Ba.mpr ⟨d,OM.mpr ⟨_,A7.mpr ⟨s,hs,rfl⟩,hd⟩⟩
def wk (nb:Int->List Int) (p:Nat):Nat->List Nat
 | 0=>[]
 | x+1=>if (x:Int)∈Aj (cov nb p (wk nb p x)) then wk nb p x else wk nb p x++[x]
structure Wk (nb:Int->List Int) (p x:Nat) (R:List Nat):Prop where
 of:∀s∈R,s < x/\∀a∈Aj (Rn nb s p),(s:Int)<=a
 nd:(Aj (cov nb p R)).Nodup
 all:∀y:Nat,y < x->(y:Int)∈Aj (cov nb p R)
 up:R.Pairwise (· < ·)
section
variable {nb:Int->List Int} {p:Nat} (hnb:∀x:Int,0<=x->x < p->∀y∈nb x,0<=y/\y < p) (hsym:∀x y:Int,0<=x->0<=y->y∈nb x->x∈nb y)
include hnb in
theorem GH {s:Nat} (h:s < p):Fd nb p s (Rn nb s p):=(N0 hnb ⟨by lia,by lia⟩ p).fd (N0 hnb ⟨by lia,by lia⟩ p).len
include hnb hsym in
theorem Wk.step {x:Nat} (hx:x < p) {R:List Nat} (h:Wk nb p x R):Wk nb p (x+1) (if (x:Int)∈Aj (cov nb p R) then R else R++[x])/\((x:Int)∉Aj (cov nb p R)->∀z∈Aj (Rn nb x p),z∉Aj (cov nb p R)):=by
 have hF:=GH hnb hx
 have hC:∀a∈Aj (cov nb p R),∀y∈nb a,y∈Aj (cov nb p R):=λa ha y hy=>by
  obtain ⟨s,hs,ha⟩:=Kv.mp ha;exact Kv.mpr ⟨s,hs,(GH hnb (show s < p by have:=(h.of s hs).1;lia)).closed a ha y hy⟩
 have hdis:(x:Int)∉Aj (cov nb p R)->∀z∈Aj (Rn nb x p),z∉Aj (cov nb p R):=λc z hz hc=>c (hF.meets hsym hC hz hc)
 refine ⟨?_,hdis⟩
 by_cases c:(x:Int)∈Aj (cov nb p R)
 ·rw [qX c]
  refine ⟨λs hs=>⟨by have:=(h.of s hs).1;lia,(h.of s hs).2⟩,h.nd,λy hy=>?_,h.up⟩
  by_cases e:y=x
  ·rw [e];exact c
  ·exact h.all y (by lia)
 ·rw [qY c]
  have hdis:=hdis c
  have hle:∀a∈Aj (Rn nb x p),(x:Int)<=a:=λa ha=>by
   by_cases e:(x:Int)<=a
   ·exact e
   ·obtain ⟨d,hd⟩:=Ba.mp ha
    have h0:=(hF.rng _ hd).1;dsimp only at h0;have:=h.all a.toNat (by lia);rw [Ci h0] at this;exact zX this (hdis a ha)
  have hself:(x:Int)∈Aj (Rn nb x p):=Ba.mpr ⟨0,hF.src⟩;refine ⟨λs hs=>?_,?_,λy hy=>?_,?_⟩
  ·rcases Aw.mp hs with hs | hs
   ·exact ⟨by have:=(h.of s hs).1;lia,(h.of s hs).2⟩
   ·rw [AY.mp hs]
    exact ⟨by lia,hle⟩
  ·rw [Ki,C2]
   exact CL.mpr ⟨h.nd,hF.nd,λa ha b hb e=>hdis b hb (e▸ha)⟩
  ·rw [Ki,C2]
   by_cases e:y=x
   ·rw [e];exact A4 _ hself
   ·exact A3 _ (h.all y (by lia))
  ·refine Bb.mpr ⟨h.up,Jt _ _,λs hs t ht=>?_⟩
   rw [AY.mp ht];exact (h.of s hs).1
include hnb hsym in
theorem MC:∀x:Nat,x<=p->Wk nb p x (wk nb p x)
 | 0,_=>⟨λ_ h=>zX h CG,IR,λy h=>zX h (Ho _),Qv⟩
 | x+1,h=>((MC x (by lia)).step hnb hsym (by lia)).1
def FF (nb:Int->List Int) (p s:Nat):List Int:=E4 (Aj (Rn nb s p))
include hnb in
theorem aQ {s:Nat} (h:s < p):(FF nb p s).Pairwise (· < ·):=Tb (GH hnb h).nd
include hnb in
include hnb in
theorem Lh {s:Nat} (h:s < p) (hle:∀a∈Aj (Rn nb s p),(s:Int)<=a):∃l,FF nb p s=(s:Int) :: l:=by
 have hm:(s:Int)∈FF nb p s:=(Di _).mem_iff.mpr (Ba.mpr ⟨0,(GH hnb h).src⟩);have hup:=aQ hnb h
 cases hq:FF nb p s with
 | nil=>rw [hq] at hm;cases hm
 | cons a l=>
  refine ⟨l,?_⟩;rw [hq] at hm hup;have h1:=hle a ((Di _).mem_iff.mp (show a∈FF nb p s by rw [hq];exact Ag))
  rcases Au.mp hm with e | e
  ·rw [e]
  ·have:=(Mt.mp hup).1 _ e
   lia
end
theorem NM:∀(L C:Met),(Aj L).Nodup->(∀z∈Aj L,z∉Aj C)->NO (mD C) (mD L)=mD (C++L)
 | [],C,_,_=>by rw [BJ];rfl
 | a :: L,C,nd,hd=>by
  obtain ⟨n1,n2⟩:=DC.mp (show (a.1 :: Aj L).Nodup from nd);have e:NO (mD C) (mD (a :: L))=NO (Ij (mD C) (Cf a.1) (.int a.2)) (mD L):=rfl;rw [e,ao (hd a.1 Ag),NM L (C++[(a.1,a.2)]) n2 (λz hz hc=>?_),BE]
  ·rfl
  ·rw [C2] at hc
   rcases Aw.mp hc with hc | hc
   ·exact hd z (AW _ hz) hc
   ·have:z=a.1:=by simpa [Aj] using hc
    exact n1 (this▸hz)
theorem fc {mo ma:ME} {e:Lo} {S:Sto} {n m:Nat} {C L:Met} (ho:mo e S=.ok (.ref n) S) (ha:ma e S=.ok (.ref m) S) (hn:S[n]?=some (.dK (mD C))) (hm:S[m]?=some (.dK (mD L))) (hne:n≠m) (nd:(Aj L).Nodup) (hd:∀z∈Aj L,z∉Aj C) (hl:C.length+L.length<=1000) :
  LQ mo ma e S=.ok .non (S.set n (.dK (mD (C++L)))):=by
 unfold LQ;rw [ho];dsimp only [Res.bind];rw [hn];dsimp only;rw [ha];dsimp only;rw [hn,hm];dsimp only;rw [qX ⟨hne,by unfold mD;rw [AH,AH];exact Ax hl (by decide)⟩,NM L C nd hd]
theorem YF {S:Sto} {n:Nat} {L:Met} (h:S[n]?=some (.dK (mD L))):Gp (.ref n) S=some ((Aj L).map D.int):=by
 unfold Gp;dsimp only;rw [h];dsimp only;unfold mD Aj;rw [BP,BP];rfl
abbrev md (W:Wd):MS:=sIf (mB (m2 (inA true) (AC 3) (AC 2))) (BM (BZ 4 (BB 2 (Cc W) (AJ (AC 0) (AJ (AC 3) As))))
  (BM (CD (LQ (AC 2) (AC 4)))
  (CD (FA (AC 1) (Gn (ET (AC 4))))))) sNx
section
variable {W:Wd} {q p:Nat} {ts:List (Int×Int)}
theorem Tp {S:Sto} (hw:FL W S q p ts) (hp:p<=60) (hnb:∀x:Int,0<=x->x < p->∀y∈nbW ts x,0<=y/\y < p) (hlen:∀x,(nbW ts x).length<=1000) (hsym:∀x y:Int,0<=x->0<=y->y∈nbW ts x->x∈nbW ts y) :
  ∃S',FZ W [.ref q] S=.ok (.ref S.length) S'/\Keeps S S'/\S'[S.length]?=some (.lst (((wk (nbW ts) p p).map (FF (nbW ts) p)).map FU)):=by
 have s1:BZ 1 (DB (CN As)) (DF 5 [.ref q]) S=oN [sR q,sR S.length,none,none,none] (S++[.lst []]):=rfl
 have s2:BZ 2 Ph [sR q,sR S.length,none,none,none] (S++[.lst []])=oN [sR q,sR S.length,sR (S.length+1),none,none] (S++[.lst []]++[.dK []]):=by
  show Res.ok (Fl.nx [sR q,sR S.length,some (.ref (S++[Ob.lst []]).length),none,none]) (S++[.lst []]++[.dK []])=_;rw [Ao];rfl
 have K0:Keeps S (S++[.lst []]++[.dK []]):=(Keeps.app _ _).trans (Keeps.app _ _)
 have hi:iR1 (AJ (Hu W.Web "places" (AC 0)) As) [sR q,sR S.length,sR (S.length+1),none,none] (S++[.lst []]++[.dK []])=.ok (Dq (DH 0 p)) (S++[.lst []]++[.dK []]):=by
  have:=Ln (ml:=AJ (Hu W.Web "places" (AC 0)) As) (e:=[sR q,sR S.length,sR (S.length+1),none,none]) (S:=S++[.lst []]++[.dK []]) (S1:=S++[.lst []]++[.dK []]) (j:=p) (Bo ((hw.keeps K0).places rfl) rfl) (by lia) (by lia);simpa using this
 obtain ⟨f,S1,h1,z3,z4,rfl,K1,P1⟩:=Gs (v:=Dq (DH 0 p)) (g:=tgN 3) (b:=md W) (xs:=DH 0 p) (e:=[sR q,sR S.length,sR (S.length+1),none,none]) (S:=S++[.lst []]++[.dK []])
  (λx e S'=>∃z3 z4,e=[sR q,sR S.length,sR (S.length+1),z3,z4]/\Keeps S S'/\S'[S.length]?=some (.lst (((wk (nbW ts) p x).map (FF (nbW ts) p)).map FU))/\S'[S.length+1]?=some (.dK (mD (cov (nbW ts) p (wk (nbW ts) p x)))))
  (λf S'=>∃z3 z4,f=.nx [sR q,sR S.length,sR (S.length+1),z3,z4]/\Keeps S S'/\S'[S.length]?=some (.lst (((wk (nbW ts) p p).map (FF (nbW ts) p)).map FU)))
  ⟨none,none,rfl,K0,(Keeps.app _ _).at (Bn _ _),by
   have:=Bn (S++[Ob.lst []]) (.dK []);rw [Ao] at this
   exact this⟩ (λ_ _ _ _=>rfl)
  (by
   rintro x d e S' hd ⟨z3,z4,rfl,K,hP,hC⟩;obtain ⟨hx,rfl⟩:=JK hd;rw [N8];have hW:=MC hnb hsym x (by lia);obtain ⟨hW',hdis⟩:=hW.step hnb hsym hx;refine ⟨[sR q,sR S.length,sR (S.length+1),sI x,z4],S',rfl,?_⟩;have t1:mB (m2 (inA true) (AC 3) (AC 2)) [sR q,sR S.length,sR (S.length+1),sI x,z4] S'=.ok (!decide ((x:Int)∈Aj (cov (nbW ts) p (wk (nbW ts) p x)))) S':=En (A2 rfl rfl (Vo hC true x));have ic:=D0 (a:=BM (BZ 4 (BB 2 (Cc W) (AJ (AC 0) (AJ (AC 3) As)))) (BM (CD (LQ (AC 2) (AC 4))) (CD (FA (AC 1) (Gn (ET (AC 4))))))) (b:=sNx) t1
   by_cases c:(x:Int)∈Aj (cov (nbW ts) p (wk (nbW ts) p x))
   ·rw [wX c] at ic
    have e1:wk (nbW ts) p (x+1)=wk (nbW ts) p x:=qX c;refine ⟨_,S',ic.trans rfl,_,_,rfl,K,?_,?_⟩
    ·rw [e1];exact hP
    ·rw [e1];exact hC
   ·rw [wY c] at ic
    have e1:wk (nbW ts) p (x+1)=wk (nbW ts) p x++[x]:=qY c;obtain ⟨S2,i,c2,K2,D2,hi⟩:=O7 (s:=(x:Int)) (hw.keeps K) hp hnb hlen ⟨by lia,by lia⟩;have hF:=GH hnb hx;rw [V8 hi hF.len] at D2;have s4:BZ 4 (BB 2 (Cc W) (AJ (AC 0) (AJ (AC 3) As))) [sR q,sR S.length,sR (S.length+1),sI x,z4] S'=oN [sR q,sR S.length,sR (S.length+1),sI x,sR S'.length] S2:=Cb (i:=4) ((Bl (ds:=[.ref q,.int x]) (S1:=S') rfl rfl).trans c2);have hCl:S.length+1 < S'.length:=(AF.mp hC).1
    have hcov:(cov (nbW ts) p (wk (nbW ts) p x)).length<=p:=by
     have:=Nm p _ hW.nd λz hz=>by
      obtain ⟨s,hs,hz⟩:=Kv.mp hz;obtain ⟨d,hd⟩:=Ba.mp hz;exact (GH hnb (show s < p by have:=(hW.of s hs).1;lia)).rng _ hd
     unfold Aj at this;rwa [AH] at this
    have u1:=fc (mo:=AC 2) (ma:=AC 4) (e:=[sR q,sR S.length,sR (S.length+1),sI x,sR S'.length]) rfl rfl (K2.at hC) D2 (by lia) hF.nd (hdis c) (by have:=hF.len;lia);rw [<-Ki,<-e1] at u1;have hC2:=(AF.mp (K2.at hC)).1
    have P3:(S2.set (S.length+1) (.dK (mD (cov (nbW ts) p (wk (nbW ts) p (x+1))))))[S.length]?=some (.lst (((wk (nbW ts) p x).map (FF (nbW ts) p)).map FU)):=by
     rw [Am (by lia)];exact K2.at hP
    have D3:(S2.set (S.length+1) (.dK (mD (cov (nbW ts) p (wk (nbW ts) p (x+1))))))[S'.length]?=some (.dK (mD (Rn (nbW ts) x p))):=by
     rw [Am (by lia)];exact D2
    have C3:(S2.set (S.length+1) (.dK (mD (cov (nbW ts) p (wk (nbW ts) p (x+1))))))[S.length+1]?=some (.dK (mD (cov (nbW ts) p (wk (nbW ts) p (x+1))))):=Az hC2;have K3:Keeps S (S2.set (S.length+1) (.dK (mD (cov (nbW ts) p (wk (nbW ts) p (x+1)))))):=(K.trans K2).set (GU _) _;generalize S2.set (S.length+1) (Ob.dK (mD (cov (nbW ts) p (wk (nbW ts) p (x+1)))))=S3 at u1 P3 D3 C3 K3;have so:=JJ (m:=AC 4) (e:=[sR q,sR S.length,sR (S.length+1),sI x,sR S'.length]) (S:=S3) rfl (YF D3) (Ld (Aj (Rn (nbW ts) x p)));have tu:=JI so (CC (Bn _ _));have K4:=Keeps.app S3 [.lst ((E4 (Aj (Rn (nbW ts) x p))).map D.int)];have P4:=K4.at P3
    have hwl:(wk (nbW ts) p x).length<=x:=by
     have h1:=Nm x ((wk (nbW ts) p x).map λs:Nat=>(s:Int)) (C9.mpr (hW.up.imp λ{a b} h e=>by lia)) λz hz=>by
      obtain ⟨s,hs,rfl⟩:=A7.mp hz;have:=(hW.of s hs).1
      lia
     rwa [AH] at h1
    have a1:=IE (mo:=AC 1) (e:=[sR q,sR S.length,sR (S.length+1),sI x,sR S'.length]) rfl P3 tu P4 (by rw [AH,AH];exact BD (show (wk (nbW ts) p x).length<=100 by lia) (by decide));refine ⟨_,_,ic.trans ((qX rfl).trans ((At s4).trans ((At (C5 u1)).trans (C5 a1)))),_,_,rfl,(K3.trans K4).set (AL _) _,?_,?_⟩
    ·rw [Az (AF.mp P4).1,e1,BC,BC]
     rfl
    ·rw [Am (by lia)]
     exact K4.at C3)
  (by
   rintro e S' ⟨z3,z4,rfl,K,hP,_⟩;rw [Hm] at hP
   exact ⟨_,_,rfl,K,hP⟩)
 refine ⟨S1,Cp (n:=5) (mb:=Ls W) ?_,K1,P1⟩;unfold Ls;exact (At s1).trans ((At s2).trans ((At ((FY hi).trans h1)).trans rfl))
end
section
variable {nb:Int->List Int} {p:Nat}
theorem Fd.sub {s:Int} {L:Met} (h:Fd nb p s L) {C:List Int} (hC:∀x∈C,∀y∈nb x,y∈C) (hs:s∈C):∀(d:Nat) (z:Int),(z,(d:Int))∈L->z∈C
 | 0,z,hz=>by
  have:z=s:=h.zero _ hz rfl;rw [this];exact hs
 | d+1,z,hz=>by
  obtain ⟨b,hb,e1,e2⟩:=h.par _ hz (by dsimp only;lia)
  have e3:b.2=d:=by dsimp only at e1;lia
  exact hC b.1 (Fd.sub h hC hs d b.1 (by rw [<-e3];exact hb)) z e2
theorem Fd.sub' {s:Int} {L:Met} (h:Fd nb p s L) {C:List Int} (hC:∀x∈C,∀y∈nb x,y∈C) (hs:s∈C) {z:Int} (hz:z∈Aj L):z∈C:=by
 obtain ⟨d,hd⟩:=Ba.mp hz;have:=h.nn _ hd;exact h.sub hC hs d.toNat z (by dsimp only at this;rw [Ci this];exact hd)
abbrev IN (nb:Int->List Int) (p:Nat):Met:=cov nb p (wk nb p p)
abbrev col (nb:Int->List Int) (p:Nat) (x:Int):Int:=stp (IN nb p) x % 2
theorem gY:∀(x k:Nat),∀s∈wk nb p x,s∈wk nb p (x+k)
 | _,0,_,h=>h
 | x,k+1,s,h=>by
  have ih:=gY x k s h;show s∈(if ((x+k:Nat):Int)∈Aj (cov nb p (wk nb p (x+k))) then wk nb p (x+k) else wk nb p (x+k)++[x+k]);split
  ·exact ih
  ·exact A3 _ ih
variable (hnb:∀x:Int,0<=x->x < p->∀y∈nb x,0<=y/\y < p) (hsym:∀x y:Int,0<=x->0<=y->y∈nb x->x∈nb y)
include hnb hsym in
theorem Km {x:Int} (h0:0<=x) (h1:x < p):x∈Aj (IN nb p):=by
 have:=(MC hnb hsym p (AL _)).all x.toNat (by lia);rwa [Ci h0] at this
include hnb hsym in
theorem XG {s:Nat} (hs:s∈wk nb p p) {a:Int×Int} (ha:a∈Rn nb s p):a∈IN nb p:=OM.mpr ⟨_,A7.mpr ⟨s,hs,rfl⟩,ha⟩
include hnb hsym in
theorem YX {x:Nat} (hx:x < p) {C:List Int} (hC:∀x∈C,∀y∈nb x,y∈C) (hl:∀y:Nat,y < x->(y:Int)∈C) (hn:(x:Int)∉C):stp (IN nb p) x=0:=by
 have hW:=MC hnb hsym x (by lia)
 have hc:(x:Int)∉Aj (cov nb p (wk nb p x)):=λh=>by
  obtain ⟨s,hs,hz⟩:=Kv.mp h;have hsx:=(hW.of s hs).1;exact hn ((GH hnb (show s < p by lia)).sub' hC (hl s hsx) hz)
 have h1:x∈wk nb p (x+1):=by
  show x∈(if (x:Int)∈Aj (cov nb p (wk nb p x)) then wk nb p x else wk nb p x++[x]);rw [qY hc];exact A4 _ (AY.mpr rfl)
 have h2:=gY (nb:=nb) (p:=p) (x+1) (p - (x+1)) x h1;rw [show x+1+(p - (x+1))=p by omega] at h2;exact FT (MC hnb hsym p (AL _)).nd (XG hnb hsym h2 (GH hnb hx).src)
def XH (nb:Int->List Int) (p:Nat) (c:Int->Int):Prop:=∀a b:Int,0<=a->a < p->b∈nb a->c a≠c b
include hnb hsym in
end
theorem bY {n m:Nat} {S:Sto} {ns:List Int} (neg:Bool) (h1:S[n]?=some (.lst (ns.map D.int))) (h2:S[m]?=some (.lst (ns.map D.int))):eqD neg (.ref n) (.ref m) S=.ok (.bl (!neg)) S:=by
 have:eqB (.ref n) (.ref m) S=some true:=by
  unfold eqB;rw [JO h1,JO h2];dsimp only;rw [qX rfl];exact P2 _ ns
 unfold eqD;rw [this]
 cases neg <;> rfl
theorem fD {S:Sto} {a:Int} {l:List Int}:ixA (FU (a :: l)) (.int 0) S=.ok (.int a) S:=Md (d:=FU (a :: l)) (ds:=(a :: l).map D.int) (j:=0) rfl (by lia) rfl
section
variable {W:Wd} {q p:Nat} {ts:List (Int×Int)}
abbrev mZ (W:Wd):MS:=CD (LQ (AC 1) (BB 2 (Cc W) (AJ (AC 0) (AJ (m2 ixA (AC 2) (mC (.int 0))) As))))
theorem ff {mo ma:ME} {e:Lo} {S S2:Sto} {n m:Nat} {C L:Met} (ho:mo e S=.ok (.ref n) S) (hn0:S[n]?=some (.dK (mD C))) (ha:ma e S=.ok (.ref m) S2) (hn:S2[n]?=some (.dK (mD C))) (hm:S2[m]?=some (.dK (mD L))) (hne:n≠m) (nd:(Aj L).Nodup) (hd:∀z∈Aj L,z∉Aj C) (hl:C.length+L.length<=1000) :
  LQ mo ma e S=.ok .non (S2.set n (.dK (mD (C++L)))):=by
 unfold LQ;rw [ho];dsimp only [Res.bind];rw [hn0];dsimp only;rw [ha];dsimp only;rw [hn,hm];dsimp only;rw [qX ⟨hne,by unfold mD;rw [AH,AH];exact Ax hl (by decide)⟩,NM L C nd hd]
theorem Zy {S:Sto} (hw:FL W S q p ts) (hp:p<=60) (hnb:∀x:Int,0<=x->x < p->∀y∈nbW ts x,0<=y/\y < p) (hlen:∀x,(nbW ts x).length<=1000) (hsym:∀x y:Int,0<=x->0<=y->y∈nbW ts x->x∈nbW ts y) :
  ∃S',DO W [.ref q] S=.ok (.ref S.length) S'/\Keeps S S'/\S'[S.length]?=some (.dK (mD (IN (nbW ts) p))):=by
 have s1:BZ 1 Ph (DF 3 [.ref q]) S=oN [sR q,sR S.length,none] (S++[.dK []]):=rfl;have K0:=Keeps.app S [.dK []];obtain ⟨S1,c1,K1,P1⟩:=Tp (hw.keeps K0) hp hnb hlen hsym;have hW:=MC hnb hsym p (AL _);have hD1:=K1.at (Bn S (.dK []))
 have hcl:∀R:List Nat,(∀s∈R,s < p)->(Aj (cov (nbW ts) p R)).Nodup->(cov (nbW ts) p R).length<=p:=λR hR nd=>by
  have:=Nm p _ nd λz hz=>by
   obtain ⟨s,hs,hz⟩:=Kv.mp hz;obtain ⟨d,hd⟩:=Ba.mp hz;exact (GH hnb (hR s hs)).rng _ hd
  unfold Aj at this;rwa [AH] at this
 rw [BP] at P1
 obtain ⟨f,S2,h2,z2,rfl,K2,D2⟩:=Gs (v:=FE (.ref (S++[Ob.dK []]).length)) (g:=tgN 2) (b:=mZ W) (xs:=(wk (nbW ts) p p).map (FU∘FF (nbW ts) p)) (e:=[sR q,sR S.length,none]) (S:=S1)
  (λi e S'=>∃z2,e=[sR q,sR S.length,z2]/\Keeps S S'/\S'[(S++[Ob.dK []]).length]?=some (.lst ((wk (nbW ts) p p).map (FU∘FF (nbW ts) p)))/\S'[S.length]?=some (.dK (mD (cov (nbW ts) p ((wk (nbW ts) p p).take i)))))
  (λf S'=>∃z2,f=.nx [sR q,sR S.length,z2]/\Keeps S S'/\S'[S.length]?=some (.dK (mD (IN (nbW ts) p))))
  ⟨none,rfl,K0.trans K1,P1,by rw [List.take_zero];exact hD1⟩ (by rintro i e S' ⟨_,_,_,h,_⟩;exact C0 h)
  (by
   rintro i d e S' hd ⟨z2,rfl,K,hP,hD⟩;rw [AX] at hd
   cases hq:(wk (nbW ts) p p)[i]? with
   | none=>rw [hq] at hd;cases hd
   | some s=>
    rw [hq] at hd;cases hd;have hs:=A8 hq;have hsp:=(hW.of s hs).1;obtain ⟨l,e1⟩:=Lh hnb hsp (hW.of s hs).2;obtain ⟨S3,j,c3,K3,D3,hj⟩:=O7 (s:=(s:Int)) (hw.keeps K) hp hnb hlen ⟨by lia,by lia⟩;have hF:=GH hnb hsp;rw [V8 hj hF.len] at D3;have c4:BB 2 (Cc W) (AJ (AC 0) (AJ (m2 ixA (AC 2) (mC (.int 0))) As)) [sR q,sR S.length,some (FU (FF (nbW ts) p s))] S'=.ok (.ref S'.length) S3:=(Bl (ds:=[.ref q,.int s]) (S1:=S') (Bo rfl (Bo (A2 rfl rfl (by rw [e1];exact fD)) rfl)) rfl).trans c3;have etk:(wk (nbW ts) p p).take (i+1)=(wk (nbW ts) p p).take i++[s]:=take_snoc hq
    have hnd:(Aj (cov (nbW ts) p ((wk (nbW ts) p p).take (i+1)))).Nodup:=by
     have e5:wk (nbW ts) p p=(wk (nbW ts) p p).take (i+1)++(wk (nbW ts) p p).drop (i+1):=(Ec _ _).symm;have h6:=hW.nd;rw [e5] at h6;unfold cov at h6;rw [BC,XW,C2] at h6;exact (CL.mp h6).1
    rw [etk,Ki,C2] at hnd;obtain ⟨n1,n2,n3⟩:=CL.mp hnd;have hSl:S.length < S'.length:=(AF.mp hD).1;have hPl:(S++[Ob.dK []]).length < S'.length:=(AF.mp hP).1
    have u1:=ff (mo:=AC 1) (e:=[sR q,sR S.length,some (FU (FF (nbW ts) p s))]) rfl hD c4 (K3.at hD) D3 (by lia) hF.nd (λz hz hc=>n3 z hc z hz rfl) (by
     have:=hcl ((wk (nbW ts) p p).take i) (λs hs=>(hW.of s (WG hs)).1) n1;have:=hF.len
     lia)
    refine ⟨[sR q,sR S.length,some (FU (FF (nbW ts) p s))],S',rfl,_,_,C5 u1,_,rfl,(K.trans K3).set (AL _) _,?_,?_⟩
    ·rw [Am (by rw [Ao];simp)]
     exact K3.at hP
    ·rw [Az (by have:=K3.1;lia),etk,Ki])
  (by
   rintro e S' ⟨z2,rfl,K,_,hD⟩;rw [AH,B5] at hD
   exact ⟨_,rfl,K,hD⟩)
 refine ⟨S2,Cp (n:=3) (mb:=Gv W) ?_,K2,D2⟩;unfold Gv;have h0:AJ (AC 0) As [sR q,sR S.length,none] (S++[Ob.dK []])=.ok [.ref q] (S++[Ob.dK []]):=rfl;have hc0:BB 1 (FZ W) (AJ (AC 0) As) [sR q,sR S.length,none] (S++[.dK []])=.ok (.ref (S++[Ob.dK []]).length) S1:=(Bl h0 rfl).trans c1;have hv0:=FG hc0 P1;have hfor:HF (E1 (BB 1 (FZ W) (AJ (AC 0) As))) (tgN 2) (mZ W) [sR q,sR S.length,none] (S++[.dK []])=oN [sR q,sR S.length,z2] S2:=(FY hv0).trans h2;have hend:DM (AC 1) [sR q,sR S.length,z2] S2=.ok (.rt (.ref S.length)) S2:=rfl;exact (At s1).trans ((At hfor).trans hend)
end
section
variable {W:Wd} {q p:Nat} {ts:List (Int×Int)}
theorem br {S:Sto} {d:Nat} {C:Met} (hw:FL W S q p ts) (hd:S[d]?=some (.dK (mD C))) (nd:(Aj C).Nodup) (hin:∀x∈ts,x.1∈Aj C/\x.2∈Aj C) :
  ∃o,DK W [.ref q,.ref d] S=.ok o S/\((o=.non/\∀x∈ts,stp C x.1 % 2≠stp C x.2 % 2)∨(∃x:Int×Int,o=pairD x/\x∈ts/\stp C x.1 % 2=stp C x.2 % 2)):=by
 obtain ⟨f,S1,h1,rfl,hf⟩:=Gs (v:=Dq (ts.map pairD)) (g:=Fx 2 (B7 (tgN 2) (B7 (tgN 3) GX))) (b:=sIf (mB (m2 (eqD false) (m2 Cw (m2 ixA (AC 1) (AC 2)) (mC (.int 2))) (m2 Cw (m2 ixA (AC 1) (AC 3)) (mC (.int 2))))) (DM (G6 (AJ (AC 2) (AJ (AC 3) As)))) sNx) (xs:=ts.map pairD) (e:=[sR q,sR d,none,none]) (S:=S)
  (λi e S'=>S'=S/\(∃z2 z3,e=[sR q,sR d,z2,z3])/\∀x∈ts.take i,stp C x.1 % 2≠stp C x.2 % 2)
  (λf S'=>S'=S/\(((∃e,f=.nx e)/\∀x∈ts,stp C x.1 % 2≠stp C x.2 % 2)∨∃x:Int×Int,f=.rt (pairD x)/\x∈ts/\stp C x.1 % 2=stp C x.2 % 2))
  ⟨rfl,⟨none,none,rfl⟩,λx h=>by simp at h⟩ (λ_ _ _ _=>rfl)
  (by
   rintro i y e S' hy ⟨rfl,⟨z2,z3,rfl⟩,hno⟩;rw [AX] at hy
   cases hx:ts[i]? with
   | none=>rw [hx] at hy;cases hy
   | some x=>
    rw [hx] at hy;cases hy;have hxm:=A8 hx;obtain ⟨i1,i2⟩:=hin x hxm;refine ⟨[sR q,sR d,sI x.1,sI x.2],S',rfl,?_⟩;have t:mB (m2 (eqD false) (m2 Cw (m2 ixA (AC 1) (AC 2)) (mC (.int 2))) (m2 Cw (m2 ixA (AC 1) (AC 3)) (mC (.int 2)))) [sR q,sR d,sI x.1,sI x.2] S'=.ok (decide (stp C x.1 % 2=stp C x.2 % 2)) S':=En (A2 (A2 (A2 rfl rfl (Kt hd nd i1)) rfl (Ck (by decide))) (A2 (A2 rfl rfl (Kt hd nd i2)) rfl (Ck (by decide))) (Kf rfl));have ic:=D0 (a:=DM (G6 (AJ (AC 2) (AJ (AC 3) As)))) (b:=sNx) t
    by_cases c:stp C x.1 % 2=stp C x.2 % 2
    ·rw [wX c] at ic
     exact ⟨.rt (pairD x),S',ic.trans rfl,rfl,.inr ⟨x,rfl,hxm,c⟩⟩
    ·rw [wY c] at ic
     refine ⟨_,S',ic.trans rfl,rfl,⟨_,_,rfl⟩,λy hy=>?_⟩;rw [take_snoc hx] at hy
     rcases Aw.mp hy with hy | hy
     ·exact hno y hy
     ·rw [AY.mp hy];exact c)
  (by
   rintro e S' ⟨rfl,_,hno⟩;rw [AH,B5] at hno
   exact ⟨rfl,.inl ⟨⟨_,rfl⟩,hno⟩⟩)
 have hi:=KW (m:=Hu W.Web "ties" (AC 0)) (e:=[sR q,sR d,none,none]) (hw.ties rfl)
 rcases hf with ⟨⟨e,rfl⟩,hno⟩ | ⟨x,rfl,hx,hc⟩
 ·refine ⟨.non,Cp (n:=4) (mb:=Dm W) ?_,.inl ⟨rfl,hno⟩⟩
  unfold Dm;exact (At ((FY hi).trans h1)).trans rfl
 ·refine ⟨pairD x,Cp (n:=4) (mb:=Dm W) ?_,.inr ⟨x,rfl,hx,hc⟩⟩
  unfold Dm;exact PD ((FY hi).trans h1)
end
section
variable {W:Wd} {q p:Nat} {ts:List (Int×Int)}
theorem iY {S:Sto} (hw:FL W S q p ts) (hp:p<=60) (hnb:∀x:Int,0<=x->x < p->∀y∈nbW ts x,0<=y/\y < p) (hlen:∀x,(nbW ts x).length<=1000) (hsym:∀x y:Int,0<=x->0<=y->y∈nbW ts x->x∈nbW ts y) (hts:∀x∈ts,(0<=x.1/\x.1 < p)/\x.2∈nbW ts x.1) (hall:∀a b:Int,0<=a->a < p->b∈nbW ts a->(a,b)∈ts∨(b,a)∈ts) :
  ∃o S',G0 W [.ref q] S=.ok o S'/\Keeps S S'/\((o=.non/\¬XH (nbW ts) p (col (nbW ts) p))∨(o=FU ((AT p).map λx:Nat=>col (nbW ts) p x)/\XH (nbW ts) p (col (nbW ts) p))):=by
 obtain ⟨S1,c1,K1,D1⟩:=Zy hw hp hnb hlen hsym;have hW:=MC hnb hsym p (AL _);have s1:BZ 1 (BB 1 (DO W) (AJ (AC 0) As)) (DF 2 [.ref q]) S=oN [sR q,sR S.length] S1:=Cb (i:=1) ((Bl (ds:=[.ref q]) (S1:=S) rfl rfl).trans c1);have w1:=hw.keeps K1
 obtain ⟨o,c2,h2⟩:=br w1 D1 hW.nd (λx hx=>by
  obtain ⟨b1,b2⟩:=hts x hx;have b3:=hnb x.1 b1.1 b1.2 x.2 b2
  exact ⟨Km hnb hsym b1.1 b1.2,Km hnb hsym b3.1 b3.2⟩)
 have c3:BB 2 (DK W) (AJ (AC 0) (AJ (AC 1) As)) [sR q,sR S.length] S1=.ok o S1:=(Bl (ds:=[.ref q,.ref S.length]) (S1:=S1) rfl rfl).trans c2
 rcases h2 with ⟨rfl,hno⟩ | ⟨x,rfl,hx,hc⟩
 ·have hprop:XH (nbW ts) p (col (nbW ts) p):=λa b ha0 ha hb=>by
   rcases hall a b ha0 ha hb with h | h
   ·exact hno _ h
   ·exact λe=>hno _ h e.symm
  have t2:mB (m2 (Qj true) (BB 2 (DK W) (AJ (AC 0) (AJ (AC 1) As))) (mC .non)) [sR q,sR S.length] S1=.ok false S1:=En (A2 c3 rfl rfl)
  have hi:iR1 (AJ (Hu W.Web "places" (AC 0)) As) [sR q,sR S.length] S1=.ok (Dq (DH 0 p)) S1:=by
   have:=Ln (ml:=AJ (Hu W.Web "places" (AC 0)) As) (e:=[sR q,sR S.length]) (S:=S1) (S1:=S1) (j:=p) (Bo (w1.places rfl) rfl) (by lia) (by lia);simpa using this
  have q3:=aj (f:=ls) (g:=λx:Nat=>D.int (col (nbW ts) p x)) (l:=AT p) (v:=Dq (DH 0 p)) (m:=m2 Cw (m2 ixA (AC 2) (AC 0)) (mC (.int 2))) (e:=[sR q,sR S.length]) (S:=S1) (by rw [Xs];rfl) (by simp;lia) (λx hx=>A2 (A2 rfl rfl (Kt D1 hW.nd (Km hnb hsym (by lia) (by have:=CQ.mp hx;lia)))) rfl (Ck (by decide)));have n3:=Ht ((Jp (n:=1) (g:=tgN 0) (c:=Fn) (m:=m2 Cw (m2 ixA (AC 2) (AC 0)) (mC (.int 2))) hi).trans q3);have tu:=JI n3 (CC (Bn _ _))
  have e4:D.tup ((AT p).map λx:Nat=>D.int (col (nbW ts) p x))=FU ((AT p).map λx:Nat=>col (nbW ts) p x):=by unfold FU;rw [BP];rfl
  rw [e4] at tu;refine ⟨_,_,Cp (n:=2) (mb:=FK W) ?_,K1.trans (Keeps.app S1 [.lst ((AT p).map λx:Nat=>D.int (col (nbW ts) p x))]),.inr ⟨rfl,hprop⟩⟩;unfold FK;exact (At s1).trans ((Oc t2).trans (FV tu))
 ·obtain ⟨b1,b2⟩:=hts x hx
  have t2:mB (m2 (Qj true) (BB 2 (DK W) (AJ (AC 0) (AJ (AC 1) As))) (mC .non)) [sR q,sR S.length] S1=.ok true S1:=En (A2 c3 rfl rfl);refine ⟨.non,S1,Cp (n:=2) (mb:=FK W) ?_,K1,.inl ⟨rfl,λh=>h x.1 x.2 b1.1 b1.2 b2 hc⟩⟩;unfold FK;exact (At s1).trans (Vq t2 rfl)
end
theorem KQ {p:Nat} {ts:List (Int×Int)} (hu:Ds p 0 ts) (x:Int):nbW (DT ts) x=nr ts x.toNat:=ei hu x.toNat
theorem R8 {p:Nat} {ts:List (Int×Int)} (hu:Ds p 0 ts):∀x:Int,0<=x->x < p->∀y∈nbW (DT ts) x,0<=y/\y < p:=λx _ _ y hy=>by
 rw [KQ hu] at hy;exact gj hu hy
theorem R7 {ts:List (Int×Int)} {p:Nat} (hu:Ds p 0 ts) (x y:Int) (hx:0<=x) (hy:0<=y) (h:y∈nbW (DT ts) x):x∈nbW (DT ts) y:=by
 rw [KQ hu] at h ⊢
 obtain ⟨a,rfl⟩:∃a:Nat,x=a:=⟨x.toNat,by lia⟩
 obtain ⟨b,rfl⟩:∃b:Nat,y=b:=⟨y.toNat,by lia⟩
 rw [BN] at h ⊢;exact ej.mp h
abbrev me (W:Wd):MS:=sIf (mB (m2 (eqD true) (m2 Cw (BB 2 (B6 W) (AJ (AC 1) (AJ (m2 Do (mC (.int 501)) (AC 6)) As))) (mC (.int 2))) (m2 Cw (BB 2 (B6 W) (AJ (AC 1) (AJ (m2 Do (mC (.int 501)) (AC 7)) As))) (mC (.int 2))))) (CD (FA (AC 5) (G6 (AJ (AC 6) (AJ (AC 7) As))))) sNx
theorem Ds.sub {p j:Nat} {ts us:List (Int×Int)} (h:Ds p j ts) (s:us.Sublist ts):Ds p j us:=⟨λx hx=>h.1 x (s.subset hx),h.2.sublist s⟩
theorem YM (W:Wd) (ns:List Int) (S:Sto):∃(m t:Nat) (us:List (Int×Int)) (S':Sto),FI W [.fro (ns.map D.int)] S=.ok (.tup [.int m,.ref t]) S'/\Keeps S S'/\S'[t]?=some (.lst (us.map pairD))/\Ds m 0 us/\us.length<=3600/\1<=m/\m<=60:=by
 obtain ⟨h,hc⟩:=W9 W ns 0 S;have s1:BZ 1 (BB 2 (D4 W) (AJ (AC 0) (AJ (mC (.int 0)) As))) (DF 8 [.fro (ns.map D.int)]) S=oN [sF ns,sI h,none,none,none,none,none,none] S:=Cb (i:=1) ((Bl (ds:=[.fro (ns.map D.int),.int 0]) (S1:=S) rfl rfl).trans hc);have s2:BZ 2 (m2 Do (mC (.int 1)) (m2 Cw (AC 1) (mC (.int 14)))) [sF ns,sI h,none,none,none,none,none,none] S=oN [sF ns,sI h,sI (1+h % 14),none,none,none,none,none] S:=Cb (i:=2) (A2 rfl (A2 rfl rfl (Ck (by decide))) rfl);obtain ⟨S1,pool,q1,K1,a1,p1,p2⟩:=Wf W ns S;have s3:BZ 3 (BB 2 (Fm W) (AJ (AC 0) (AJ (mC (.int 1)) As))) [sF ns,sI h,sI (1+h % 14),none,none,none,none,none] S=oN [sF ns,sI h,sI (1+h % 14),sR S.length,none,none,none,none] S1:=Cb (i:=3) ((Bl (ds:=[.fro (ns.map D.int),.int 1]) (S1:=S) rfl rfl).trans q1);have s4:BZ 4 (m2 Do (mC (.int 1)) (m2 Cw (m2 Fk (AC 1) (mC (.int 5))) (mC (.int 6)))) [sF ns,sI h,sI (1+h % 14),sR S.length,none,none,none,none] S1=oN [sF ns,sI h,sI (1+h % 14),sR S.length,sI (1+h / 5 % 6),none,none,none] S1:=Cb (i:=4) (A2 rfl (A2 (A2 rfl rfl (G8 (by decide) (by decide))) rfl (Ck (by decide))) rfl);have c5:m2 Cw (m2 Fk (AC 1) (mC (.int 14))) (mC (.int 8)) [sF ns,sI h,sI (1+h % 14),sR S.length,sI (1+h / 5 % 6),none,none,none] S1=.ok (.int (h / 14 % 8)) S1:=A2 (A2 rfl rfl (G8 (by decide) (by decide))) rfl (Ck (by decide))
 obtain ⟨m,th,hm1,hm2,s5⟩:∃(m:Nat) (th:Int),1<=m/\m<=60/\sIf (mB (m2 (eqD false) (m2 Cw (m2 Fk (AC 1) (mC (.int 14))) (mC (.int 8))) (mC (.int 3)))) (BM (BZ 2 (m2 Do (mC (.int 15)) (m2 Cw (m2 Fk (AC 1) (mC (.int 112))) (mC (.int 46))))) (BZ 4 (mC (.int 1)))) sNx [sF ns,sI h,sI (1+h % 14),sR S.length,sI (1+h / 5 % 6),none,none,none] S1=oN [sF ns,sI h,sI m,sR S.length,sI th,none,none,none] S1:=by
  by_cases c:h / 14 % 8=3
  ·refine ⟨(15+h / 112 % 46).toNat,1,by lia,by lia,?_⟩
   rw [show ((15+h / 112 % 46).toNat:Int)=15+h / 112 % 46 by lia];refine (D0 (En (A2 c5 rfl (Kf (wX c))))).trans ((qX rfl).trans ?_);refine (At (e1:=[sF ns,sI h,sI (15+h / 112 % 46),sR S.length,sI (1+h / 5 % 6),none,none,none]) (S1:=S1) (Cb (i:=2) (A2 rfl (A2 (A2 rfl rfl (G8 (by decide) (by decide))) rfl (Ck (by decide))) rfl))).trans rfl
  ·refine ⟨(1+h % 14).toNat,1+h / 5 % 6,by lia,by lia,?_⟩
   rw [show ((1+h % 14).toNat:Int)=1+h % 14 by lia];exact (D0 (En (A2 c5 rfl (Kf (wY c))))).trans rfl
 have s6:BZ 5 (DB (CN As)) [sF ns,sI h,sI m,sR S.length,sI th,none,none,none] S1=oN [sF ns,sI h,sI m,sR S.length,sI th,sR S1.length,none,none] (S1++[.lst []]):=rfl;obtain ⟨ts,q2,u2,l2⟩:=Nq W th ((Keeps.app S1 [.lst []]).at a1) p1 hm1 hm2;have t2:=Bn (S1++[.lst []]) (.lst (ts.map pairD));have f2:=(Keeps.app (S1++[Ob.lst []]) [.lst (ts.map pairD)]).at (Bn S1 (.lst []));have K2:Keeps S1 (S1++[.lst []]++[.lst (ts.map pairD)]):=(Keeps.app _ _).trans (Keeps.app _ _)
 have lt:S1.length < (S1++[Ob.lst []]).length:=by simp
 generalize S1++[Ob.lst []]++[Ob.lst (ts.map pairD)]=S2 at q2 t2 f2 K2;generalize (S1++[Ob.lst []]).length=t at q2 t2 lt
 obtain ⟨f,S3,h3,⟨z6,z7,rfl⟩,K3,us,su,f3⟩:=Gs (v:=FE (.ref t)) (g:=Fx 2 (B7 (tgN 6) (B7 (tgN 7) GX))) (b:=me W) (xs:=ts.map pairD) (e:=[sF ns,sI h,sI m,sR S.length,sI th,sR S1.length,none,none]) (S:=S2)
  (λi e S'=>(∃z6 z7,e=[sF ns,sI h,sI m,sR S.length,sI th,sR S1.length,z6,z7])/\(Keeps S1 S'/\S'[t]?=some (.lst (ts.map pairD)))/\∃us:List (Int×Int),us.Sublist (ts.take i)/\S'[S1.length]?=some (.lst (us.map pairD)))
  (λf S'=>(∃z6 z7,f=.nx [sF ns,sI h,sI m,sR S.length,sI th,sR S1.length,z6,z7])/\Keeps S1 S'/\∃us:List (Int×Int),us.Sublist ts/\S'[S1.length]?=some (.lst (us.map pairD)))
  ⟨⟨none,none,rfl⟩,⟨K2,t2⟩,[],List.nil_sublist _,f2⟩ (by rintro i e S' ⟨_,⟨_,h⟩,_⟩;exact C0 h)
  (by
   rintro i d e S' hd ⟨⟨z6,z7,rfl⟩,⟨K,ht⟩,us,su,hu⟩;rw [AX] at hd
   cases hq:ts[i]? with
   | none=>rw [hq] at hd;cases hd
   | some x=>
    rw [hq] at hd;cases hd;refine ⟨[sF ns,sI h,sI m,sR S.length,sI th,sR S1.length,sI x.1,sI x.2],S',rfl,?_⟩;obtain ⟨v1,_,_,m1⟩:=Ma W h (501+x.1);obtain ⟨v2,_,_,m2'⟩:=Ma W h (501+x.2)
    have tt:mB (m2 (eqD true) (m2 Cw (BB 2 (B6 W) (AJ (AC 1) (AJ (m2 Do (mC (.int 501)) (AC 6)) As))) (mC (.int 2))) (m2 Cw (BB 2 (B6 W) (AJ (AC 1) (AJ (m2 Do (mC (.int 501)) (AC 7)) As))) (mC (.int 2)))) [sF ns,sI h,sI m,sR S.length,sI th,sR S1.length,sI x.1,sI x.2] S'=.ok (decide (v1 % 2≠v2 % 2)) S':=
     En (A2 (A2 ((Bl (ds:=[.int h,.int (501+x.1)]) (S1:=S') rfl rfl).trans (m1 S')) rfl (Ck (by decide))) (A2 ((Bl (ds:=[.int h,.int (501+x.2)]) (S1:=S') rfl rfl).trans (m2' S')) rfl (Ck (by decide))) (aZ rfl))
    have ic:=D0 (a:=CD (FA (AC 5) (G6 (AJ (AC 6) (AJ (AC 7) As))))) (b:=sNx) tt;have hul:=su.length_le;rw [CH] at hul
    by_cases c:v1 % 2≠v2 % 2
    ·rw [wX c] at ic
     have ap:=IE (mo:=AC 5) (ma:=G6 (AJ (AC 6) (AJ (AC 7) As))) (e:=[sF ns,sI h,sI m,sR S.length,sI th,sR S1.length,sI x.1,sI x.2]) (S:=S') (y:=pairD x) (S2:=S') rfl hu rfl hu (by rw [AH];exact BD (show us.length<=3600 by lia) (by decide));refine ⟨_,_,ic.trans ((qX rfl).trans (C5 ap)),⟨_,_,rfl⟩,⟨K.set (AL _) _,?_⟩,us++[x],?_,?_⟩
     ·rw [Am (by lia)]
      exact ht
     ·rw [take_snoc hq]
      exact su.append (nM _)
     ·rw [Az (AF.mp hu).1,BC]
      rfl
    ·rw [wY c] at ic
     refine ⟨_,_,ic.trans rfl,⟨_,_,rfl⟩,⟨K,ht⟩,us,?_,hu⟩;rw [take_snoc hq]
     exact su.trans (List.sublist_append_left _ _))
  (by
   rintro e S' ⟨⟨z6,z7,rfl⟩,⟨K,ht⟩,us,su,hu⟩;rw [AH,B5] at su
   exact ⟨⟨_,_,rfl⟩,K,us,su,hu⟩)
 refine ⟨m,S1.length,us,S3,Cp (n:=8) (mb:=Ip W) ?_,K1.trans K3,f3,u2.sub su,Ax su.length_le l2,hm1,hm2⟩;unfold Ip;refine (At s1).trans ((At s2).trans ((At s3).trans ((At s4).trans ((At s5).trans ((At s6).trans ?_)))));have h0:AJ (AC 3) (AJ (AC 2) (AJ (AC 4) As)) [sF ns,sI h,sI m,sR S.length,sI th,sR S1.length,none,none] (S1++[Ob.lst []])=.ok [.ref S.length,.int m,.int th] (S1++[Ob.lst []]):=rfl;have hc0:=(Bl h0 rfl).trans q2;have hv0:=FG hc0 t2;refine (At ((FY hv0).trans h3)).trans (FV ?_);exact M7 (ds:=[.int m,.ref S1.length]) rfl (by simp)
theorem ba (n:Nat) (x y:Int×Int):eqP (n+1) (pairD x) (pairD y)=some (decide (x=y)):=by
 show eqL (eqP n) [.int x.1,.int x.2] [.int y.1,.int y.2]=_
 have e:∀i j:Int,eqP n (.int i) (.int j)=some (i==j):=λi j=>by cases n <;> rfl
 unfold eqL;rw [e];unfold eqL;rw [e];unfold eqL;dsimp only
 congr 1
 by_cases h1:x.1=y.1
 ·by_cases h2:x.2=y.2
  ·simp [h1,h2,Qq h1 h2]
  ·have:x≠y:=λz=>h2 (by rw [z])
   simp [h2,this]
 ·have:x≠y:=λz=>h1 (by rw [z])
  simp [h1,this]
theorem Ny (x:Int×Int):∀ps:List (Int×Int),Jy (pairD x) (ps.map pairD)=some (decide (x∈ps))
 | []=>rfl
 | y :: ps=>by
  rw [A5];unfold Jy;rw [ba 7,Ny x ps];dsimp only
  congr 1
  by_cases h:y=x
  ·simp [h]
  ·have:¬x=y:=λz=>h z.symm
   simp [h,this]
theorem Tt {S:Sto} {n:Nat} {ps:List (Int×Int)} (h:S[n]?=some (.lst (ps.map pairD))) (x:Int×Int):inA true (pairD x) (.ref n) S=.ok (.bl (decide (x∉ps))) S:=by
 show FW (inD true (pairD x) (.ref n) S) _=_
 have e:inD true (pairD x) (.ref n) S=.ok (.bl (decide (x∉ps))) S:=by
  unfold inD;rw [CC h];dsimp only;rw [Ny];simp
 rw [e];rfl
theorem Vh {ts:List (Int×Int)} {x:Nat} {z:Int}:z∈Bk ts x↔∃t∈ts,(t.1=x/\z=t.2)∨(t.2=x/\z=t.1):=by
 unfold Bk;rw [cI]
 constructor
 ·rintro ⟨t,ht,hz⟩
  refine ⟨t,ht,?_⟩
  rcases Aw.mp hz with h | h
  ·split at h
   ·rename_i e;exact .inl ⟨e,AY.mp h⟩
   ·cases h
  ·split at h
   ·rename_i e;exact .inr ⟨e,AY.mp h⟩
   ·cases h
 ·rintro ⟨t,ht,⟨h1,h2⟩ | ⟨h1,h2⟩⟩
  ·exact ⟨t,ht,by rw [qX h1];simp [h2]⟩
  ·exact ⟨t,ht,by rw [qX h1];simp [h2]⟩
theorem Jk {x:Nat}:∀ {ts:List (Int×Int)},ts.Nodup->(∀t∈ts,t.1 < t.2)->(Bk ts x).Nodup
 | [],_,_=>IR
 | t :: ts,h,hlt=>by
  obtain ⟨h1,h2⟩:=DC.mp h
  have ih:=Jk (x:=x) h2 λu hu=>hlt u (AW _ hu)
  have hl:=hlt t Ag;show (((if t.1=(x:Int) then [t.2] else [])++(if t.2=(x:Int) then [t.1] else []))++Bk ts x).Nodup;rw [CL];refine ⟨?_,ih,λa ha b hb e=>?_⟩
  ·by_cases c1:t.1=(x:Int)
   ·rw [qX c1,qY (by lia)];simp
   ·rw [qY c1];split <;> simp
  ·subst e
   obtain ⟨u,hu,hz⟩:=Vh.mp hb;have hul:=hlt u (AW _ hu)
   have:t=u:=by
    rcases Aw.mp ha with q | q
    ·split at q
     ·rename_i e1
      have:=AY.mp q
      rcases hz with ⟨z1,z2⟩ | ⟨z1,z2⟩
      ·exact Qq (by lia) (by lia)
      ·lia
     ·cases q
    ·split at q
     ·rename_i e1
      have:=AY.mp q
      rcases hz with ⟨z1,z2⟩ | ⟨z1,z2⟩
      ·lia
      ·exact Qq (by lia) (by lia)
     ·cases q
   exact h1 (this▸hu)
theorem Ds.knot {p:Nat} {ts:List (Int×Int)} (h:Ds p 0 ts) {a:Nat} (ha:a+1 < p) (hn:((a:Int),(a:Int)+1)∉ts):Ds p 0 (ts++[((a:Int),(a:Int)+1)]):=by
 refine ⟨λx hx=>?_,CL.mpr ⟨h.2,by simp,λx hx y hy e=>hn ?_⟩⟩
 ·rcases Aw.mp hx with hx | hx
  ·exact h.1 x hx
  ·rw [AY.mp hx]
   dsimp only;omega
 ·rw [<-AY.mp hy,<-e]
  exact hx
theorem fC (W:Wd) {S:Sto} {m t:Nat} {ts:List (Int×Int)} (c:Int) (ht:S[t]?=some (.lst (ts.map pairD))) (hu:Ds m 0 ts) (hl:ts.length<=3600):∃(t':Nat) (us:List (Int×Int)) (S':Sto),GN W [.int m,.ref t,.int c] S=.ok (.ref t') S'/\Keeps S S'/\S'[t']?=some (.lst (us.map pairD))/\Ds m 0 us/\us.length<=3601:=by
 have t1:∃b:Bool,mOr (mB (m2 gtD (m2 Cw (AC 2) (mC (.int 3))) (mC (.int 0)))) (mB (m2 ltD (AC 0) (mC (.int 2)))) (DF 4 [.int m,.ref t,.int c]) S=.ok b S/\(b=false->2<=m):=by
  by_cases q:0 < c % 3
  ·exact ⟨true,Vc (En (A2 (A2 rfl rfl (Ck (by decide))) rfl (bO (wX q)))),λh=>by cases h⟩
  ·refine ⟨decide ((m:Int) < 2),(Vb (En (A2 (A2 rfl rfl (Ck (by decide))) rfl (bO (wY q))))).trans (En (A2 rfl rfl (Im rfl))),λh=>?_⟩
   have:=of_decide_eq_false h
   lia
 obtain ⟨b,t1,hb⟩:=t1
 cases b with
 | true=>
  refine ⟨t,ts,S,Cp (n:=4) (mb:=Em W) ?_,Keeps.refl _,ht,hu,by lia⟩;unfold Em;exact Vq t1 rfl
 | false=>
  have hm:=hb rfl
  have hp:(0:Int) < (m:Int) - 1:=by lia
  have s3:BZ 3 (m2 Cw (m2 Fk (AC 2) (mC (.int 3))) (m2 Zr (AC 0) (mC (.int 1)))) (DF 4 [.int m,.ref t,.int c]) S=oN [sI m,sR t,sI c,some (.int (c / 3 % ((m:Int) - 1)))] S:=Cb (i:=3) (A2 (A2 rfl rfl (G8 (by decide) (by decide))) (A2 (y:=.int 1) (S2:=S) rfl rfl rfl) (Ck hp))
  obtain ⟨a,ha⟩:∃a:Nat,c / 3 % ((m:Int) - 1)=a:=⟨(c / 3 % ((m:Int) - 1)).toNat,by have:=Kq (c / 3) (show (m:Int) - 1≠0 by lia);lia⟩
  have ha2:a+1 < m:=by have:=Ie (c / 3) hp;lia
  rw [ha] at s3;have n1:DB (CN (AJ (G6 (AJ (AC 3) (AJ (m2 Do (AC 3) (mC (.int 1))) As))) As)) [sI m,sR t,sI c,sI a] S=.ok (.ref S.length) (S++[.lst ([((a:Int),(a:Int)+1)].map pairD)]):=Ht (ax (ds:=[((a:Int),(a:Int)+1)].map pairD) (S1:=S) (Bo (M7 (ds:=[.int a,.int ((a:Int)+1)]) rfl (by simp)) rfl) (by simp));have K1:=Keeps.app S [.lst ([((a:Int),(a:Int)+1)].map pairD)];have l1:=Bn S (.lst ([((a:Int),(a:Int)+1)].map pairD));generalize S++[Ob.lst ([((a:Int),(a:Int)+1)].map pairD)]=S1 at n1 K1 l1;have k1:=RB (f:=pairD) (P:=λx:Int×Int=>decide (x∉ts)) (l:=[((a:Int),(a:Int)+1)]) (v:=FE (.ref S.length)) (cd:=mB (m2 (inA true) (AC 0) (AC 2))) (e:=[sI m,sR t,sI c,sI a]) (S:=S1) (C0 l1) (by simp) (λx _=>En (A2 rfl rfl (Tt (K1.at ht) x)));have n2:=Ht ((Jp (n:=1) (g:=tgN 0) (m:=AC 0) (FG n1 l1)).trans k1);have K2:=Keeps.app S1 [.lst (([((a:Int),(a:Int)+1)].filter λx:Int×Int=>decide (x∉ts)).map pairD)];have l2:=Bn S1 (.lst (([((a:Int),(a:Int)+1)].filter λx:Int×Int=>decide (x∉ts)).map pairD));have hfl:([((a:Int),(a:Int)+1)].filter λx:Int×Int=>decide (x∉ts)).length<=1:=Kp _ _;have ad:=cC (K2.at (K1.at ht)) l2 (by rw [AH,AH];lia);rw [<-BC] at ad;refine ⟨_,ts++[((a:Int),(a:Int)+1)].filter λx:Int×Int=>decide (x∉ts),_,Cp (n:=4) (mb:=Em W) ?_,(K1.trans K2).trans (Keeps.app _ _),Bn _ _,?_,by rw [Ao];lia⟩
  ·unfold Em
   exact (Oc t1).trans ((At s3).trans (FV (A2 (x:=.ref t) (S1:=S) rfl n2 ad)))
  ·by_cases q:((a:Int),(a:Int)+1)∈ts
   ·have:[((a:Int),(a:Int)+1)].filter (λx:Int×Int=>decide (x∉ts))=[]:=by simp [q]
    rw [this,BJ];exact hu
   ·have:[((a:Int),(a:Int)+1)].filter (λx:Int×Int=>decide (x∉ts))=[((a:Int),(a:Int)+1)]:=by simp [q]
    rw [this];exact hu.knot ha2 q
theorem T9 {w:Nat} {S:Sto} {pre:List Int} {x:Int} (h:S[w]?=some (.lst ((pre++[x]).map D.int))):ixA (.ref w) (.int (-1)) S=.ok (.int x) S:=by
 show FW (ixD (.ref w) (.int (-1)) S) _=_
 have e:ixD (.ref w) (.int (-1)) S=.ok (.int x) S:=by
  unfold ixD;rw [CC h];dsimp only
  have:atI ((pre++[x]).map D.int) (-1)=some (.int x):=by
   unfold atI ixN;rw [qY (by decide),AH,Ao,DY,qX (by lia)];show ((pre++[x]).map D.int)[(-1+((pre.length+1:Nat):Int)).toNat]?=_;rw [show (-1+((pre.length+1:Nat):Int)).toNat=pre.length by lia,AX,A9 (AL _),kn];rfl
  rw [this]
 rw [e];rfl
theorem fold_min {y:Int}:∀ {l:List Int},(∀z∈l,y < z)->l.foldl (λm x=>if ltZ x m=true then x else m) y=y
 | [],_=>rfl
 | z :: l,h=>by
  have hz:=h z Ag
  have:ltZ z y=false:=by
   unfold ltZ;exact wY (by lia)
  rw [cW,this,qY AR]
  exact fold_min λx hx=>h x (AW _ hx)
theorem ae {y:Int} {l:List Int} (h:(y :: l).Pairwise (· < ·)) (S:Sto):Nn ((y :: l).map D.int) S=.ok (.int y) S:=by
 unfold Nn RT;rw [Hw];show (match some (l.foldl (λm x=>if ltZ x m=true then x else m) y) with | some b=>Res.ok (D.int b) S | none=>.bad)=_;rw [fold_min (Mt.mp h).1]
section
variable {W:Wd} {q p:Nat} {ts:List (Int×Int)} {s:Int} {L:Met}
abbrev Wn (w:Nat):ME:=m2 ixA (AC w) (T0 (mC (.int 1)))
abbrev ez (W:Wd):ME:=DB (EU 1 (E1 (BB 2 (Kd W) (AJ (AC 0) (AJ (AC 5) As)))) (tgN 0) (mB (m2 ltD (m2 ixA (AC 4) (AC 0)) (m2 ixA (AC 4) (AC 6)))) (AC 0))
abbrev mY (W:Wd):MS:=BM (BZ 5 (Wn 4)) (CD (FA (AC 4) (mQ Nn (JN (ez W)))))
theorem Fd.near_has (h:Fd (nbW ts) p s L) {x:Int} (hx:x∈Aj L) {y:Int} (hy:y∈nbW ts x):y∈Aj L:=by
 obtain ⟨d,hd⟩:=Ba.mp hx;obtain ⟨d',hd',_⟩:=h.cl _ hd y hy;exact Ba.mpr ⟨d',hd'⟩
theorem ZS {B S:Sto} (hw:FL W B q p ts) (hF:Fd (nbW ts) p s L) (hsym:∀x y:Int,0<=x->0<=y->y∈nbW ts x->x∈nbW ts y) (hup:∀x,(nbW ts x).Pairwise (· < ·)) (hlen:∀x,(nbW ts x).length<=1000) {d1:D} {dI w:Nat} {z5:Option D} {pre:List Int} {x:Int} {m:Nat} (K:Keeps B S) (hB:B.length<=w)
  (hD:S[dI]?=some (.dK (mD L))) (hwy:S[w]?=some (.lst ((pre++[x]).map D.int))) (hx:(x,((m+1:Nat):Int))∈L) (hl:pre.length<=1000) :
  ∃y z5' S',mY W [sR q,some d1,sI s,sR dI,sR w,z5] S=oN [sR q,some d1,sI s,sR dI,sR w,z5'] S'/\Keeps B S'/\(dI≠w->S'[dI]?=some (.dK (mD L)))/\S'[w]?=some (.lst ((pre++[x]++[y]).map D.int))/\(y,(m:Int))∈L/\(G5 (nbW ts) L x).headD 0=y:=by
 obtain ⟨y,l,e1,hy⟩:=hF.next hsym hx (by lia);rw [show ((m+1:Nat):Int) - 1=m by lia] at hy;have hxr:=hF.rng _ hx
 obtain ⟨xn,hxn⟩:∃n:Nat,x=n:=⟨x.toNat,by lia⟩
 have hxk:x∈Aj L:=Ba.mpr ⟨_,hx⟩;have s5:BZ 5 (Wn 4) [sR q,some d1,sI s,sR dI,sR w,z5] S=oN [sR q,some d1,sI s,sR dI,sR w,sI x] S:=Cb (i:=5) (A2 (y:=.int (-1)) (S2:=S) rfl rfl (T9 hwy))
 have c1:BB 2 (Kd W) (AJ (AC 0) (AJ (AC 5) As)) [sR q,some d1,sI s,sR dI,sR w,sI x] S=.ok (.tup ((nbW ts x).map D.int)) S:=by
  refine (Bl (ds:=[.ref q,.int x]) (S1:=S) rfl rfl).trans ?_;unfold nbW;rw [hxn,BN];exact Wl (hw.keeps K) (by lia)
 have k1:=RB (f:=D.int) (P:=λy=>decide (stp L y < stp L x)) (l:=nbW ts x) (v:=Dq ((nbW ts x).map D.int)) (cd:=mB (m2 ltD (m2 ixA (AC 4) (AC 0)) (m2 ixA (AC 4) (AC 6)))) (e:=[sR q,some d1,sI s,sR dI,sR w,sI x]) (S:=S) rfl (by have:=hlen x;lia)
  (λy hy=>En (A2 (A2 rfl rfl (Kt hD hF.nd (hF.near_has hxk hy))) (A2 rfl rfl (Kt hD hF.nd hxk)) (Im rfl)))
 have n1:=Ht ((Jp (n:=1) (g:=tgN 0) (m:=AC 0) (KW c1)).trans k1);have e2:(nbW ts x).filter (λy=>decide (stp L y < stp L x))=y :: l:=e1;rw [e2] at n1
 have hpw:(y :: l).Pairwise (· < ·):=by rw [<-e2];exact (hup x).filter _
 have m1:=aA (f:=Nn) (Z0 n1 (CC (Bn S (.lst ((y :: l).map D.int))))) (ae hpw _);have w1:=(Keeps.app S [.lst ((y :: l).map D.int)]).at hwy;have a1:=IE (mo:=AC 4) (e:=[sR q,some d1,sI s,sR dI,sR w,sI x]) rfl hwy m1 w1 (by rw [AH,Ao,DY];exact BD (show pre.length+1<=2000 by lia) (by decide));refine ⟨y,_,_,(At s5).trans (C5 a1),(K.trans (Keeps.app _ _)).set hB _,λhne=>?_,?_,hy,?_⟩
 ·rw [Am (Bw hne)]
  exact (Keeps.app S _).at hD
 ·rw [Az (AF.mp w1).1,BC (l₁:=pre++[x])]
  rfl
 ·rw [e1];rfl
theorem iG {S:Sto} (hw:FL W S q p ts) (hp:p<=60) (hnb:∀x:Int,0<=x->x < p->∀y∈nbW ts x,0<=y/\y < p) (hlen:∀x,(nbW ts x).length<=1000) (hsym:∀x y:Int,0<=x->0<=y->y∈nbW ts x->x∈nbW ts y) (hup:∀x,(nbW ts x).Pairwise (· < ·)) {one:Int} (ho:0<=one/\one < p) (hs:0<=s/\s < p) {i:Nat} (hi:(Rn (nbW ts) s i).length<=i) :
  ∃d S',FH W [.ref q,.int one,.int s] S=.ok d S'/\Keeps S S'/\((one∉Aj (Rn (nbW ts) s i)/\d=.non)∨one∈Aj (Rn (nbW ts) s i)/\∃w,d=.ref w/\S.length<=w/\S'[w]?=some (.lst ((Jv (nbW ts) (Rn (nbW ts) s i) (stp (Rn (nbW ts) s i) one).toNat one).map D.int))):=by
 obtain ⟨S1,j,c1,K1,D1,hj⟩:=O7 hw hp hnb hlen hs;rw [<-V8 hi hj] at D1;have hF:Fd (nbW ts) p s (Rn (nbW ts) s i):=(N0 hnb hs i).fd hi;generalize Rn (nbW ts) s i=L at D1 hF ⊢;have n1:BB 2 (CK W) (AJ (AC 0) (AJ (AC 1) As)) [sR q,sI one,sI s,none,none,none] S=.ok .non S:=(Bl (ds:=[.ref q,.int one]) (S1:=S) rfl rfl).trans ((PZ hw _).trans (qX ho));have n2:BB 2 (CK W) (AJ (AC 0) (AJ (AC 2) As)) [sR q,sI one,sI s,none,none,none] S=.ok .non S:=(Bl (ds:=[.ref q,.int s]) (S1:=S) rfl rfl).trans ((PZ hw _).trans (qX hs));have s3:BZ 3 (BB 2 (Cc W) (AJ (AC 0) (AJ (AC 2) As))) [sR q,sI one,sI s,none,none,none] S=oN [sR q,sI one,sI s,sR S.length,none,none] S1:=Cb (i:=3) ((Bl (ds:=[.ref q,.int s]) (S1:=S) rfl rfl).trans c1);have t4:mB (m2 (inA true) (AC 1) (AC 3)) [sR q,sI one,sI s,sR S.length,none,none] S1=.ok (!decide (one∈Aj L)) S1:=En (A2 rfl rfl (Vo D1 true one));have i4:=D0 (a:=DM (mC .non)) (b:=sNx) t4
 by_cases c:one∈Aj L
 ·rw [wX c] at i4
  have s4:BZ 4 (DB (CN (AJ (AC 1) As))) [sR q,sI one,sI s,sR S.length,none,none] S1=oN [sR q,sI one,sI s,sR S.length,sR S1.length,none] (S1++[.lst [.int one]]):=rfl;have hone:=WX hF.nd c;have hnn:=hF.nn _ hone
  obtain ⟨n,hn⟩:∃n:Nat,stp L one=n:=⟨(stp L one).toNat,by dsimp only at hnn;lia⟩
  have hD1l:S.length < S1.length:=(AF.mp D1).1;have hfar:=hF.far _ hone
  have hbig:n<=900:=by dsimp only at hfar;lia
  obtain ⟨e',S2,h2,z5,rfl,K2,w2⟩:=Ov (t:=mB (m2 (eqD true) (Wn 4) (AC 2))) (b:=mY W)
   (λk e S'=>∃(pre:List Int) (x:Int) (z5:Option D),e=[sR q,sI one,sI s,sR S.length,sR S1.length,z5]/\Keeps S1 S'/\S'[S1.length]?=some (.lst ((pre++[x]).map D.int))/\(x,(k:Int))∈L/\pre++Jv (nbW ts) L k x=Jv (nbW ts) L n one)
   (λe S'=>∃z5,e=[sR q,sI one,sI s,sR S.length,sR S1.length,z5]/\Keeps S1 S'/\S'[S1.length]?=some (.lst ((Jv (nbW ts) L n one).map D.int)))
   (by
    rintro k e S' ⟨pre,x,z5,rfl,K,hwy,hx,he⟩;have t:mB (m2 (eqD true) (Wn 4) (AC 2)) [sR q,sI one,sI s,sR S.length,sR S1.length,z5] S'=.ok (decide (x≠s)) S':=En (A2 (A2 (y:=.int (-1)) (S2:=S') rfl rfl (T9 hwy)) rfl (aZ rfl))
    cases k with
    | zero=>
     have hxs:=hF.zero _ hx rfl;refine .inl ⟨S',?_,z5,rfl,K,?_⟩
     ·rw [t,wY (λh=>h hxs)]
     ·rw [hwy,<-he];rfl
    | succ m=>
     have hxs:x≠s:=λe=>by
      have h1:=FT hF.nd hx;rw [e,FT hF.nd hF.src] at h1
      lia
     have hpl:pre.length<=1000:=by
      have h1:=congrArg Fv he;rw [Ao,M4,M4] at h1;have h2:n<=900:=hbig
      lia
     obtain ⟨y,z5',S3,g1,g2,g3,g4,g5,g6⟩:=ZS (d1:=.int one) (dI:=S.length) (w:=S1.length) (z5:=z5) (hw.keeps K1) hF hsym hup hlen K (AL _) (K.at D1) hwy hx hpl;refine .inr ⟨S',_,S3,m,?_,g1,CU m,pre++[x],y,z5',rfl,g2,g4,g5,?_⟩
     ·rw [t,wX hxs]
     ·rw [<-he,BE]
      show pre++([x]++Jv (nbW ts) L m y)=pre++(x :: Jv (nbW ts) L m ((G5 (nbW ts) L x).headD 0));rw [g6]
      rfl)
   wN n [sR q,sI one,sI s,sR S.length,sR S1.length,none] (S1++[.lst [.int one]])
   ⟨[],one,none,rfl,Keeps.app _ _,Bn _ _,by rw [<-hn];exact hone,rfl⟩ (show n < 1000000 by lia)
  refine ⟨.ref S1.length,S2,Cp (n:=6) (mb:=FJ W) ?_,K1.trans K2,.inr ⟨c,_,rfl,K1.1,?_⟩⟩
  ·unfold FJ
   exact (At (C5 n1)).trans ((At (C5 n2)).trans ((At s3).trans ((At (i4.trans rfl)).trans ((At s4).trans ((At h2).trans rfl)))))
  ·rw [hn,BN]
   exact w2
 ·rw [wY c] at i4
  refine ⟨.non,S1,Cp (n:=6) (mb:=FJ W) ?_,K1,.inl ⟨c,rfl⟩⟩;unfold FJ;exact (At (C5 n1)).trans ((At (C5 n2)).trans ((At s3).trans (PD (i4.trans rfl))))
end
end M
namespace M
open PySem L2 L4
def Li (W:Wd) (w:Nat×List (Int×Int)):Ob:=.ins W.Web [("places",.int w.1),("ties",.tup (w.2.map pairD)),("near_sets",.tup (HE w.1 w.2))]
section
variable {W:Wd} {A:List Sl} {a b m:ME} {p:Option (Nat×List (Int×Int))}
theorem dG {α:Type} {f:Str} {enc:α->D} {g:Nat×List (Int×Int)->α} (h:VE A m (rO (Li W)) p) (hl:∀w,([("places",D.int w.1),("ties",.tup (w.2.map pairD)),("near_sets",.tup (HE w.1 w.2))]:List (Str×D)).lookup f=some (enc (g w))):VE A (Hu W.Web f m) (rV enc) (p.bind λw=>some (g w)):=λv hv S0 e F S hs=>by
 obtain ⟨w,h1,h2⟩:=BW hv;cases h2;obtain ⟨d,S',h3,h4,n,rfl,hn⟩:=h w h1 S0 e F S hs;exact ⟨_,S',Pw h3 hn (hl w),h4,rfl⟩
theorem cz (h:VE A m (rO (Li W)) p):VE A (Hu W.Web "ties" m) (rV (eT (eP D.int D.int))) (p.bind λw=>some w.2):=dG h λw=>lz _ _ _
theorem iF (W:Wd) {p:Nat} (h1:1<=p) (hp:p<=60) {d:D} {S:Sto} {ps:List (Int×Int)} (hv:∀S',Keeps S S'->FE d S'=some (ps.map pairD)) (hl:ps.length<=90000) (hf:D5 p ps) {e:Lo} {ml:ML} {S0:Sto} (ha:ml e S0=.ok [.int p,d] S) :
  ∃S',Pe W.Web 3 (Hz W) ml e S0=.ok (.ref S.length) S'/\Keeps S S'/\S'[S.length]?=some (Li W (p,DT ps)):=by
 have t0:Lk (mB (m3 leD leD (mC (.int 1)) (AC 1) (mC (.int 60)))) [sR S.length,sI p,some d] (S++[.ins W.Web []])=.ok false (S++[.ins W.Web []]):=
  NK (b:=true) (En (Wo (S3:=S++[.ins W.Web []]) rfl rfl (Pj (wX (by lia))) rfl (Pj (wX (by lia)))))
 have hq0:(S++[Ob.ins W.Web []])[S.length]?=some (.ins W.Web []):=Bn _ _;have e1:=Rx (C:=W.Web) (f:="places") (mo:=AC 0) (mv:=AC 1) (e:=[sR S.length,sI p,some d]) (S:=S++[.ins W.Web []]) (v:=.int p) rfl rfl hq0 (by decide);have K1:Keeps S ((S++[Ob.ins W.Web []]).set S.length (.ins W.Web (OF "places" (.int p) []))):=(Keeps.app S _).set (AL _) _;generalize hS1:(S++[Ob.ins W.Web []]).set S.length (.ins W.Web (OF "places" (.int p) []))=S1 at e1 K1
 have hq1:S1[S.length]?=some (.ins W.Web [("places",.int p)]):=by rw [<-hS1];exact Az (by simp)
 obtain ⟨S2,c2,K2⟩:=SS W (p:=p) (d:=d) (S:=S1) (ps:=ps) (λS' k=>hv S' (K1.trans k)) (Ax hl (by decide)) hf;rw [O5] at c2;have e2:=Rx (C:=W.Web) (f:="ties") (mo:=AC 0) (mv:=BB 2 (GM W) (AJ (AC 1) (AJ (AC 2) As))) (e:=[sR S.length,sI p,some d]) (S:=S1) ((Bl rfl rfl).trans c2) rfl (K2.at hq1) (by simp);have K3:Keeps S (S2.set S.length (.ins W.Web (OF "ties" (.tup ((DT ps).map pairD)) [("places",.int p)]))):=(K1.trans K2).set (AL _) _;rw [put2] at e2 K3;have hlt2:S.length < S2.length:=(AF.mp (K2.at hq1)).1;generalize hS3:S2.set S.length (.ins W.Web [("places",.int p),("ties",.tup ((DT ps).map pairD))])=S3 at e2 K3
 have hq3:S3[S.length]?=some (.ins W.Web [("places",.int p),("ties",.tup ((DT ps).map pairD))]):=by rw [<-hS3];exact Az hlt2
 obtain ⟨S4,c4,K4⟩:=em W hp (ts:=DT ps) (λt ht=>by
  obtain ⟨x,hx,rfl⟩:=Zk ht
  exact (hf.1 x hx).in) (by rw [(M9 ps).length_eq,AH];exact hl) S3
 have e3:=Rx (C:=W.Web) (f:="near_sets") (mo:=AC 0) (mv:=BB 2 (GK W) (AJ (AC 1) (AJ (Hu W.Web "ties" (AC 0)) As))) (e:=[sR S.length,sI p,some d]) (S:=S3)
  ((Bl (Bo (S1:=S3) rfl (Bo (Pw rfl hq3 (jg _ _)) rfl)) rfl).trans c4) rfl (K4.at hq3) (by simp)
 have hlt4:S.length < S4.length:=(AF.mp (K4.at hq3)).1;rw [put3] at e3;refine ⟨_,eu ha rfl (Z2 (e:=[sR S.length,sI p,some d]) ?_),(K3.trans K4).set (AL _) _,Az hlt4⟩;unfold QD;refine C8 (At (e:=[sR S.length,sI p,some d]) (e1:=[sR S.length,sI p,some d]) (S1:=S++[.ins W.Web []]) (C8 (D0 t0) rfl)) ?_;rw [At e1,At e2];exact e3
end
def HZ (BL:Int):Option (Fw Bool Unit):=
 (((some BL).bind λx1=>some true).bind λx4=>if x4=true then ((some BL).bind λx2=>some false).bind λx3=>some (!x3) else some false).bind λx5=>some (.rt x5)
def F0 (BL:Int):Option Bool:=Qe (HZ BL)
theorem MH (W:Wd) (BL:Int):VF (Ha W) [.v (D.int BL)] (rV D.bl) (F0 BL):=by
 refine O2 (n:=1) (b:=Jr W) (p:=HZ BL) (B:=λ_=>[]) ?_;show VS [.v (D.int BL)] _ _ _ _;unfold Jr HZ;exact (Ig (dL (Zb (T:="int") (Br rfl) (λ_ _=>rfl) (by decide +kernel)) (dC (Zb (T:="int") (Br rfl) (λ_ _=>rfl) (by decide +kernel)))))
def Kr (Mo:(List Int)) (He:(List Int)):Option (Fw (List Int) Unit):=
 GY (((some (RI Mo)).bind λl8=>HU l8 (λx3=>((some He).bind λl6=>(some x3.1).bind λx7=>atI l6 x7).bind λx4=>(some x3.2).bind λx5=>some (decide (x4=x5))) (λx3=>some x3.1)).bind λx9=>some (.nx x9)) λv1=>(((some Mo).bind λl14=>(((some v1).bind λl11=>((some (1:Int)).bind λx10=>some (-x10)).bind λx12=>atI l11 x12).bind λx13=>some (some x13)).bind λx15=>(some none).bind λx16=>some (LD l14 x15 x16)).bind λx28=>(((some He).bind λl24=>((((some v1).bind λl18=>((some (1:Int)).bind λx17=>some (-x17)).bind λx19=>atI l18 x19).bind λx21=>(some (1:Int)).bind λx22=>some (x21+x22)).bind λx23=>some (some x23)).bind λx25=>(some none).bind λx26=>some (LD l24 x25 x26)).bind λx27=>some x27.reverse).bind λx29=>UF x28 x29).bind λx30=>some (.rt x30)
def Ks (Mo:(List Int)) (He:(List Int)):Option (List Int):=Qe (Kr Mo He)
theorem Xe (W:Wd) (Mo:(List Int)) (He:(List Int)):VF (NT W) [.z ((oL D.int) Mo),.z ((oL D.int) He)] (rN (oL D.int)) (Ks Mo He):=by
 refine O2 (n:=3) (b:=NV W) (p:=Kr Mo He) (B:=λ_=>[]) ?_;show VS [.z ((oL D.int) Mo),.z ((oL D.int) He),.u] _ _ _ _;unfold NV Kr;exact (Gf (cp (KH (ZY (VI.k (TH rfl)) (λx3=>(KI (TJ GP Lj (Je (Cu rfl) (Br rfl)) (Br rfl)))) (λx3=>(Br rfl))))) (λv1=>(cr (dH (KG (WT (Cu rfl) (WN (Je (WQ rfl) (Za (IM rfl)))) WO)) (KG (U1 (KG (WT (Cu rfl) (WN (U6 (Je (WQ rfl) (Za (IM rfl))) (IM rfl))) WO))))))))
def FN (Bt:(List (List Int))) (Hd:Int):Option (Fw Int Unit):=
 GY ((((some Hd).bind λx2=>(some []).bind λl3=>some (x2 :: l3)).bind fX).bind λx4=>some (.nx x4)) λv1=>GY ((some (0:Int)).bind λx6=>some (.nx x6)) λv5=>GY (whF (λ(s7:(List Int)×Int)=>(some s7.2).bind λx9=>((some s7.1).bind λx11=>some (x11.length:Int)).bind λx10=>some (decide (x9 < x10))) (λ(s7:(List Int)×Int)=>GY (((((some s7.1).bind λl15=>(some s7.2).bind λx16=>atI l15 x16).bind λx17=>atI Bt x17).bind λl23=>HU l23 (λx20=>(some x20).bind λx21=>(some s7.1).bind λx22=>some (!decide (x21∈x22))) (λx20=>some x20)).bind λx13=>(UF s7.1 x13).bind λl14=>some (.nx l14)) λv12=>X8 (λv24=>(v12,v24)) (((some s7.2).bind λx26=>(some (1:Int)).bind λx27=>some (x26+x27)).bind λx28=>some (.nx x28))) wN (v1,v5)) λs8=>((some s8.1).bind je).bind λx30=>some (.rt x30)
def FP (Bt:(List (List Int))) (Hd:Int):Option Int:=Qe (FN Bt Hd)
theorem N9 (W:Wd) (Bt:(List (List Int))) (Hd:Int):VF (HJ W) [.q (Nst D.int Bt),.v (D.int Hd)] (rV D.int) (FP Bt Hd):=by
 refine O2 (n:=4) (b:=HM W) (p:=FN Bt Hd) (B:=λ_=>[]) ?_;show VS [.q (Nst D.int Bt),.v (D.int Hd),.u,.u] _ _ _ _;unfold HM FN;exact (Gf (cq (KH (ZW (cx (Br rfl) iI)))) (λv1=>(Gf (Rr (IM rfl)) (λv5=>(Gf (ZT (s0:=(v1,v5)) (B:=(λ(s29:(List Int)×Int)=>[.q (Nst D.int Bt),.v (D.int Hd),.w 2 ((oL D.int) s29.1),.v (D.int s29.2)])) (.same (.same (.same (.same .nil)))) (λs7=>(KI (gb (Br rfl) (MF (OT rfl))))) (λs7=>(Gf (iH rfl (KH (JH (VI.k (iK rfl (Je (OT rfl) (Br rfl)))) (λx20=>(KI (WS GP (Br rfl) (OT rfl)))) (λx20=>(Br rfl)))) rfl) (λv12=>(Uz (Rr (U6 (Br rfl) (IM rfl))) (λv24=>(.same (.same (.same (.same .nil)))))))))) (λs8=>(Ig (dE (MD (OT rfl))))))))))
def IV (BL:(List Int)) (Bt:(List (List Int))):Option (Fw Bool Unit):=
 GY (((((some BL).bind λx1=>some true).bind λx2=>some (!x2)).bind λx15=>if x15=true then some true else (((some BL).bind λx5=>some (x5.length:Int)).bind λx3=>(some (3:Int)).bind λx4=>some (decide (x3 < x4))).bind λx14=>if x14=true then some true else ((((some BL).bind λx8=>some (x8.length:Int)).bind λx9=>some (x9 % 2)).bind λx6=>(some (0:Int)).bind λx7=>some (decide (x6=x7))).bind λx13=>if x13=true then some true else ((some BL).bind Zz).bind λx10=>((some BL).bind λx12=>some (x12.length:Int)).bind λx11=>some (!decide (x10=x11))).bind λx17=>if x17=true then (some false).bind λx16=>some (.rt x16) else some (.nx ())) λ_=>GY ((((some BL).bind λx20=>some (x20.length:Int)).bind Z5).bind λl51=>J5 l51 () λ(_:Unit) x22=>X8 (λ_=>()) (((((((some BL).bind λl23=>(some x22).bind λx24=>atI l23 x24).bind λx25=>(some ()).bind λx26=>some (x25,x26)).bind λz27=>F0 z27.1).bind λx28=>some (!x28)).bind λx46=>if x46=true then some true else (((some (0:Int)).bind λx31=>((some BL).bind λl29=>(some x22).bind λx30=>atI l29 x30).bind λx32=>if decide (x31<=x32)=true then (some (Bt.length:Int)).bind λx33=>some (decide (x32 < x33)) else some false).bind λx34=>some (!x34)).bind λx45=>if x45=true then some true else ((some BL).bind λl43=>((some x22).bind λx41=>(some (1:Int)).bind λx42=>some (x41 - x42)).bind λx44=>atI l43 x44).bind λx35=>(((some BL).bind λl37=>(some x22).bind λx38=>atI l37 x38).bind λx39=>atI Bt x39).bind λx36=>some (!decide (x35∈x36))).bind λx48=>if x48=true then (some false).bind λx47=>some (.rt x47) else some (.nx ()))) λ_=>(some true).bind λx54=>some (.rt x54)
def KM (BL:(List Int)) (Bt:(List (List Int))):Option Bool:=Qe (IV BL Bt)
theorem TQ (W:Wd) (BL:(List Int)) (Bt:(List (List Int))):VF (HA W) [.z ((oL D.int) BL),.q (Nst D.int Bt)] (rV D.bl) (KM BL Bt):=by
 refine O2 (n:=3) (b:=Kl W) (p:=IV BL Bt) (B:=λ_=>[]) ?_;show VS [.z ((oL D.int) BL),.q (Nst D.int Bt),.u] _ _ _ _;unfold Kl IV;exact (Gf (Qx (B:=(λ(_:Unit)=>[.z ((oL D.int) BL),.q (Nst D.int Bt),.u])) (Ni (M5 (KI (iQ (Cu rfl) (by decide +kernel)))) (Ni (KI (gb (MF (Cu rfl)) (IM rfl))) (Ni (KI (TJ GP Lj (Rs rfl (MF (Cu rfl))) (IM rfl))) (KI (gZ GP Lj (U2 (Cu rfl)) (MF (Cu rfl))))))) (Ig (IM rfl)) (Qw (.same (.same (.same .nil))))) (λ_=>(Gf (ZV (s0:=()) (B:=(λ(_:Unit)=>[.z ((oL D.int) BL),.q (Nst D.int Bt),.u])) (Xd (MF (Cu rfl))) cn (.same (.same (.same .nil))) (λ_ x22=>(Uz (Qx (B:=(λ(_:Unit)=>[.z ((oL D.int) BL),.q (Nst D.int Bt),.v (D.int x22)])) (Ni (M5 (iV (HX (U7 (Je (Cu rfl) (Br rfl)) Jf) (λz27=>MH W z27.1) (λ_=>rfl) Wc))) (Ni (M5 (KI (Zd mX mW (IM rfl) (Je (Cu rfl) (Br rfl)) (dB rfl)))) (KI (WS GP (Je (Cu rfl) (iM (Br rfl) (IM rfl))) (iN rfl (Je (Cu rfl) (Br rfl))))))) (Ig (IM rfl)) (Qw (.same (.same (.same .nil))))) (λ_=>(.same (.same (.drop .nil))))))) (λ_=>(Ig (IM rfl))))))
def FO (BL:(List Int)) (HP:Int) (Iq:(List (Int×Int))) (Bt:(List (List Int))):Option (Fw Bool Unit):=
 GY (((((some BL).bind λx1=>some true).bind λx2=>some (!x2)).bind λx14=>if x14=true then some true else (((some BL).bind λx5=>some (x5.length:Int)).bind λx3=>(some HP).bind λx4=>some (!decide (x3=x4))).bind λx13=>if x13=true then some true else (((some BL).bind λl10=>HU l10 (λx6=>some true) (λx6=>((some x6).bind λx7=>(some ()).bind λx8=>some (x7,x8)).bind λz9=>F0 z9.1)).bind λx11=>some (x11.all id)).bind λx12=>some (!x12)).bind λx16=>if x16=true then (some false).bind λx15=>some (.rt x15) else some (.nx ())) λ_=>GY ((((((some BL).bind λl24=>HU l24 (λx19=>some true) (λx19=>(some x19).bind λx20=>((some (0:Int)).bind λx22=>(some (1:Int)).bind λx23=>some (x22,x23)).bind λx21=>some (decide (x20∈[x21.1,x21.2])))).bind λx25=>some (x25.all id)).bind λx26=>some (!x26)).bind λx38=>if x38=true then some true else ((some Iq).bind λl36=>HU l36 (λx27=>some true) (λx27=>((some BL).bind λl31=>((some x27).bind λx30=>some x30.1).bind λx32=>atI l31 x32).bind λx28=>((some BL).bind λl34=>((some x27).bind λx33=>some x33.2).bind λx35=>atI l34 x35).bind λx29=>some (decide (x28=x29)))).bind λx37=>some (x37.any id)).bind λx40=>if x40=true then (some false).bind λx39=>some (.rt x39) else some (.nx ())) λ_=>((((some (0:Int)).bind λx46=>(some HP).bind λx47=>((some (1:Int)).bind λx44=>((some HP).bind λx43=>some (x43 / 8)).bind λx45=>some (x44+x45)).bind λx48=>de x46 x47 x48).bind λl59=>HU l59 (λx49=>some true) (λx49=>((some BL).bind λl57=>((((some x49).bind λx53=>(some ()).bind λx54=>some (x53,x54)).bind λx55=>some (Bt,x55)).bind λz56=>FP z56.1 z56.2.1).bind λx58=>atI l57 x58).bind λx50=>(some (0:Int)).bind λx51=>some (decide (x50=x51)))).bind λx60=>some (x60.all id)).bind λx61=>some (.rt x61)
def HI (BL:(List Int)) (HP:Int) (Iq:(List (Int×Int))) (Bt:(List (List Int))):Option Bool:=Qe (FO BL HP Iq Bt)
theorem OA (W:Wd) (BL:(List Int)) (HP:Int) (Iq:(List (Int×Int))) (Bt:(List (List Int))):VF (HK W) [.v ((eT D.int) BL),.v (D.int HP),.z ((oL (eP D.int D.int)) Iq),.q (Nst D.int Bt)] (rV D.bl) (HI BL HP Iq Bt):=by
 refine O2 (n:=4) (b:=HN W) (p:=FO BL HP Iq Bt) (B:=λ_=>[]) ?_;show VS [.v ((eT D.int) BL),.v (D.int HP),.z ((oL (eP D.int D.int)) Iq),.q (Nst D.int Bt)] _ _ _ _;unfold HN FO;exact (Gf (Qx (B:=(λ(_:Unit)=>[.v ((eT D.int) BL),.v (D.int HP),.z ((oL (eP D.int D.int)) Iq),.q (Nst D.int Bt)])) (Ni (M5 (KI (Zb (T:="tuple") (Br rfl) (λ_ _=>rfl) (by decide +kernel)))) (Ni (KI (gZ GP Lj (dF (Br rfl)) (Br rfl))) (M5 (KI (U5 (MD (KG (KH (JH (VI.k (U0 (Br rfl))) (λx6=>OU) (λx6=>(HX (U7 (Br rfl) Jf) (λz9=>MH W z9.1) (λ_=>rfl) Wc))))))))))) (Ig (IM rfl)) (Qw (.same (.same (.same (.same .nil)))))) (λ_=>(Gf (Qx (B:=(λ(_:Unit)=>[.v ((eT D.int) BL),.v (D.int HP),.z ((oL (eP D.int D.int)) Iq),.q (Nst D.int Bt)])) (Ni (M5 (KI (U5 (MD (KG (KH (JH (VI.k (U0 (Br rfl))) (λx19=>OU) (λx19=>(iS GP (Br rfl) (WR (IM rfl) (IM rfl))))))))))) (KI (iU (MD (KG (KH (JH (VI.k (iJ rfl)) (λx27=>OU) (λx27=>(TJ GP Lj (Rt (Br rfl) (U4 (Br rfl))) (Rt (Br rfl) (ZZ (Br rfl)))))))))))) (Ig (IM rfl)) (Qw (.same (.same (.same (.same .nil)))))) (λ_=>(Ig (U5 (MD (KG (KH (JH (VI.k (Xc (IM rfl) (Br rfl) (U6 (IM rfl) (Zc rfl (Br rfl))))) (λx49=>OU) (λx49=>(TJ GP Lj (Rt (Br rfl) (HX (va_q rfl (U7 (Br rfl) Jf)) (λz56=>N9 W z56.1 z56.2.1) (λ_=>rfl) Wc)) (IM rfl)))))))))))))
def Gx (EX:(Nat×List (Int×Int))) (GR:(List (Int×Int))):Option (Fw (Option (Int×Int)) Unit):=
 GY (((some EX).bind λx1=>some x1.2).bind λl19=>J5 l19 () λ(_:Unit) x3=>X8 (λ_=>()) (((((some GR).bind λl6=>(some x3.1).bind λx7=>EY l6 x7).bind λx8=>some (x8 % 2)).bind λx4=>(((some GR).bind λl9=>(some x3.2).bind λx10=>EY l9 x10).bind λx11=>some (x11 % 2)).bind λx5=>some (decide (x4=x5))).bind λx16=>if x16=true then (((some x3.1).bind λx12=>(some x3.2).bind λx13=>some (x12,x13)).bind λx14=>some (some x14)).bind λx15=>some (.rt x15) else some (.nx ()))) λ_=>(some none).bind λx23=>some (.rt x23)
def Gy (EX:(Nat×List (Int×Int))) (GR:(List (Int×Int))):Option (Option (Int×Int)):=Qe (Gx EX GR)
theorem QW (W:Wd) (EX:(Nat×List (Int×Int))) (GR:(List (Int×Int))):VF (DK W) [.z ((Li W) EX),.z ((oDK D.int) GR)] (rV (eO (eP D.int D.int))) (Gy EX GR):=by
 refine O2 (n:=4) (b:=Dm W) (p:=Gx EX GR) (B:=λ_=>[]) ?_;show VS [.z ((Li W) EX),.z ((oDK D.int) GR),.u,.u] _ _ _ _;unfold Dm Gx;exact (Gf (ZV (s0:=()) (B:=(λ(_:Unit)=>[.z ((Li W) EX),.z ((oDK D.int) GR),.u,.u])) (U0 (cz (Cu rfl))) cm (.same (.same (.same (.same .nil)))) (λ_ x3=>(Uz (Qx (B:=(λ(_:Unit)=>[.z ((Li W) EX),.z ((oDK D.int) GR),.v (D.int x3.1),.v (D.int x3.2)])) (KI (TJ GP Lj (Rs rfl (TK (Cu rfl) (Br rfl))) (Rs rfl (TK (Cu rfl) (Br rfl))))) (Ig (dA (WR (Br rfl) (Br rfl)))) (Qw (.same (.same (.same (.same .nil)))))) (λ_=>(.same (.same (.drop (.drop .nil)))))))) (λ_=>(Ig dD)))
end M
namespace RG
def R (f g:Nat->Int) (n last k:Nat):Int:=if k<=n - last then f (last+k) else g (n - (k - (n - last) - 1))
theorem ring_eq (f g:Nat->Int) {n last:Nat} (h:last<=n) :
  ((AT (n+1)).map f).drop last++(((AT (n+1)).map g).drop (last+1)).reverse=(AT (2 * (n - last)+1)).map (R f g n last):=by
 apply cL
 ·simp;lia
 ·intro k h1 h2
  simp only [AH,JD] at h2;rw [OO,Mu];unfold R
  by_cases hk:k<=n - last
  ·rw [qX hk,JW (by simp;lia),ZK,OO,Mu]
  ·rw [qY hk,List.getElem_append_right (by simp;lia),List.getElem_reverse,ZK,OO,Mu]
   congr 1
   simp
   lia
structure Two (nb:Int->List Int) (lv:Int->Int) (f g:Nat->Int) (n:Nat):Prop where
 l1:∀i,i<=n->lv (f i)=i
 l2:∀i,i<=n->lv (g i)=i
 a1:∀i,i < n->f (i+1)∈nb (f i)
 a2:∀i,i < n->g (i+1)∈nb (g i)
 b1:∀i,i < n->f i∈nb (f (i+1))
 b2:∀i,i < n->g i∈nb (g (i+1))
 end1:g n∈nb (f n)
 end2:f n∈nb (g n)
 ne:f n≠g n
 start:f 0=g 0
variable {nb:Int->List Int} {lv:Int->Int} {f g:Nat->Int} {n last:Nat}
theorem Two.last_lt (t:Two nb lv f g n) (hl:last<=n) (hs:f last=g last):last < n:=by
 rcases ZH hl with h | h
 ·exact h
 ·subst h;exact zX hs t.ne
theorem Two.nodup (t:Two nb lv f g n) (hl:last<=n) (hmax:∀i,last < i->i<=n->f i≠g i):((AT (2 * (n - last)+1)).map (R f g n last)).Nodup:=by
 unfold List.Nodup;rw [C9];refine M0 (λ{i j} hi hj hij e=>hij ?_) List.nodup_range;have hi:=CQ.mp hi;have hj:=CQ.mp hj;unfold R at e
 by_cases ci:i<=n - last
 ·rw [qX ci] at e
  by_cases cj:j<=n - last
  ·rw [qX cj] at e
   have:=congrArg lv e;rw [t.l1 _ (by lia),t.l1 _ (by lia)] at this
   lia
  ·rw [qY cj] at e
   have:=congrArg lv e;rw [t.l1 _ (by lia),t.l2 _ (by omega)] at this
   have hx:last+i=n - (j - (n - last) - 1):=by lia
   rw [<-hx] at e;exact zX e (hmax _ (by omega) (by omega))
 ·rw [qY ci] at e
  by_cases cj:j<=n - last
  ·rw [qX cj] at e
   have:=congrArg lv e;rw [t.l2 _ (by lia),t.l1 _ (by lia)] at this
   have hx:last+j=n - (i - (n - last) - 1):=by lia
   rw [<-hx] at e;exact zX e.symm (hmax _ (by omega) (by omega))
  ·rw [qY cj] at e
   have:=congrArg lv e;rw [t.l2 _ (by omega),t.l2 _ (by omega)] at this;omega
theorem Two.beside (t:Two nb lv f g n) (hl:last < n) {k:Nat} (h0:0 < k) (hk:k<=2 * (n - last)):R f g n last (k - 1)∈nb (R f g n last k):=by
 unfold R
 by_cases c:k<=n - last
 ·rw [qX c,qX (by lia)]
  have:=t.b1 (last+(k - 1)) (by omega);rwa [show last+(k - 1)+1=last+k by lia] at this
 ·rw [qY c]
  by_cases c2:k - 1<=n - last
  ·rw [qX c2]
   have:k - 1=n - last:=by lia
   rw [show last+(k - 1)=n by lia,show n - (k - (n - last) - 1)=n by lia];exact t.end2
  ·rw [qY c2]
   have:=t.a2 (n - (k - (n - last) - 1)) (by lia);rwa [show n - (k - (n - last) - 1)+1=n - (k - 1 - (n - last) - 1) by lia] at this
theorem Two.closed (t:Two nb lv f g n) (hl:last < n) (hs:f last=g last):R f g n last (2 * (n - last))∈nb (R f g n last 0):=by
 unfold R;rw [qX (show 0<=n - last by lia),qY (show ¬2 * (n - last)<=n - last by lia),N7,hs];have:=t.a2 last hl;rwa [show n - (2 * (n - last) - (n - last) - 1)=last+1 by lia]
end RG
namespace M
open PySem L2 L4
theorem Rp (f:Nat->Int) (n:Nat):RI ((AT n).map f)=(AT n).map λi:Nat=>((i:Int),f i):=by
 unfold RI
 apply cL
 ·simp
 ·intro i h1 h2
  simp
theorem G2 (f:Nat->Int) {n i:Nat} (h:i < n):atI ((AT n).map f) (i:Int)=some (f i):=by
 obtain ⟨x,h1,h2⟩:=SZ (l:=(AT n).map f) (i:=(i:Int)) (by lia) (by simp;omega);rw [h1];rw [BN,AX,Bg h] at h2;exact h2.symm▸rfl
theorem UR {l:List Int} {x:Int}:atI (l++[x]) (-1)=some x:=by
 unfold atI ixN;simp;rw [qX (by lia),show (-1+((l.length:Int)+1)).toNat=l.length by lia];simp
theorem UL (l:List Int) {k:Nat} (h:k<=l.length):LD l (some (k:Int)) none=l.drop k:=by
 unfold LD;rw [HT.dc,HT.Z1,Nat.min_eq_left h];rw [DQ (by simp)]
theorem Nr {f g:Nat->Int}:∀n:Nat,f 0=g 0->∃last pre,last<=n/\f last=g last/\(∀i,last < i->i<=n->f i≠g i)/\((AT (n+1)).filter λi=>decide (g i=f i))=pre++[last]
 | 0,h=>⟨0,[],AL _,h,λi h1 h2=>zX h1 (by lia),by simp [h]⟩
 | n+1,h=>by
  by_cases c:f (n+1)=g (n+1)
  ·refine ⟨n+1,(AT (n+1)).filter λi=>decide (g i=f i),AL _,c,λi h1 h2=>zX h1 (by lia),?_⟩
   rw [Fq,IT];simp [c]
  ·obtain ⟨last,pre,h1,h2,h3,h4⟩:=Nr n h
   refine ⟨last,pre,by lia,h2,λi h5 h6=>?_,?_⟩
   ·rcases ZH h6 with h7 | h7
    ·exact h3 i h5 (by lia)
    ·rw [h7];exact c
   ·rw [Fq,IT,h4]
    have:¬g (n+1)=f (n+1):=λe=>c e.symm
    simp [this]
theorem i5 {f g:Nat->Int} {n:Nat} (hn:n<=100) (h0:f 0=g 0):∃last,last<=n/\f last=g last/\(∀i,last < i->i<=n->f i≠g i) /\
  Ks ((AT (n+1)).map f) ((AT (n+1)).map g)=some ((AT (2 * (n - last)+1)).map (RG.R f g n last)):=by
 obtain ⟨last,pre,h1,h2,h3,h4⟩:=Nr (f:=f) (g:=g) n h0;refine ⟨last,h1,h2,h3,?_⟩;unfold Ks Kr;simp only [Ai];rw [Rp]
 have e1:=Mg (l:=(AT (n+1)).map λi:Nat=>((i:Int),f i)) (c:=λx3:Int×Int=>(atI ((AT (n+1)).map g) x3.1).bind λx4=>some (decide (x4=x3.2))) (m:=λx3=>some x3.1) (P:=λx=>decide (g x.1.toNat=x.2)) (f:=λx=>x.1) (by simp;lia) (λx hx=>by
   obtain ⟨i,hi,rfl⟩:=A7.mp hx;have hi:=CQ.mp hi;dsimp only;rw [G2 g hi]
   simp) (λx _ _=>rfl)
 rw [e1]
 have e2:(((AT (n+1)).map λi:Nat=>((i:Int),f i)).filter λx=>decide (g x.1.toNat=x.2)).map (λx=>x.1)=pre.map (λi:Nat=>(i:Int))++[(last:Int)]:=by
  rw [List.filter_map,BP]
  have:((λx:Int×Int=>decide (g x.1.toNat=x.2))∘λi:Nat=>((i:Int),f i))=λi=>decide (g i=f i):=by
   funext i
   simp
  rw [this,h4,BC];rfl
 rw [e2];simp only [Ai,IC];rw [show (-1:Int) = -1 from rfl,UR];simp only [Ai];have c1:=UL ((AT (n+1)).map f) (k:=last) (by simp;lia);have c2:=UL ((AT (n+1)).map g) (k:=last+1) (by simp;omega);rw [c1,show ((last:Int)+1)=((last+1:Nat):Int) by lia,c2];rw [W1 (by simp;omega),RG.ring_eq f g h1];rfl
end M
namespace M
open PySem L2 L4 PyProof.Rows
theorem Nt {ns:List Int} (h:ns.Nodup):∀i,i<=ns.length->firstMet (λi=>ns.getD i 0) i=ns.take i
 | 0,_=>rfl
 | i+1,hi=>by
  rw [firstMet_succ,Nt h i (by lia)]
  have hg:ns.getD i 0=ns[i]:=by simp [cK,BG (show i < ns.length by lia)]
  unfold step_dedup;rw [hg,qY,List.take_succ_eq_append_getElem (by lia)];intro c;obtain ⟨x,hx,e⟩:=OP.mp c
  have e:x=ns[i]:=by simpa using e
  subst e;obtain ⟨j,hj,e⟩:=HR.mp hx;rw [List.getElem_take] at e
  have hj2:j < i:=by simp at hj;lia
  have:=(cJ h).mp e
  lia
theorem Xo {ns:List Int} (h:ns.Nodup):Lf ns=ns.length:=by
 unfold Lf;rw [Nt h _ (AL _),B5]
theorem WM (x:Int):F0 x=some true:=by
 unfold F0 HZ;rfl
theorem Z6 {nb:Int->List Int} {nss:List (List Int)} {r:Nat->Int} {m:Nat} (h1:1<=m) (hm:m<=100) (hnd:((AT (2 * m+1)).map r).Nodup) (hin:∀k,k<=2 * m->0<=r k/\r k < nss.length) (hb:∀k,0 < k->k<=2 * m->r (k - 1)∈nb (r k)) (hc:r (2 * m)∈nb (r 0))
  (hn:∀x:Int,0<=x->x < nss.length->atI nss x=some (nb x)):KM ((AT (2 * m+1)).map r) nss=some true:=by
 unfold KM IV;simp only [Ai]
 have hl:((AT (2 * m+1)).map r).length=2 * m+1:=by simp
 have hs:Zz ((AT (2 * m+1)).map r)=some ((2 * m+1:Nat):Int):=by
  unfold Zz;rw [qX (by rw [hl];lia),Xo hnd,hl]
 rw [hs,hl];have d1:decide (((2 * m+1:Nat):Int) < 3)=false:=wY (by lia);have d2:decide (((2 * m+1:Nat):Int) % 2=0)=false:=wY (by lia)
 have r1:Z5 ((2 * m+1:Nat):Int)=some (VW 0 (2 * m+1)):=by
  have:=df (j:=((2 * m+1:Nat):Int)) (by lia) (by lia);rwa [BN] at this
 generalize ((2 * m+1:Nat):Int)=N at d1 d2 r1 ⊢;rw [d1,d2,r1];simp only [Ai];simp only [decide_true,Ai,JX,B1,if_false,IC];refine Ok.is (OkF.out (OkF.seq (OkF.for (λ_ _=>True) trivial (λpre x s hx _ _=>?_)) λs _=>OkF.rt rfl))
 ·obtain ⟨b1,b2⟩:=ai.mp hx
  obtain ⟨k,rfl⟩:=CV (show 0<=x by omega)
  have hk:k < 2 * m+1:=by lia
  obtain ⟨i1,i2⟩:=hin k (by lia);have e1:=G2 r hk
  have hbk:∃y,atI ((AT (2 * m+1)).map r) ((k:Int) - 1)=some y/\y∈nb (r k):=by
   by_cases c:k=0
   ·subst c
    refine ⟨r (2 * m),?_,hc⟩;rw [Fq,BC];exact UR
   ·refine ⟨r (k - 1),?_,hb k (by lia) (by lia)⟩
    rw [show (k:Int) - 1=((k - 1:Nat):Int) by lia];exact G2 r (by omega)
  obtain ⟨y,e2,hy⟩:=hbk;rw [e1,e2];simp only [Ai,WM,JX,B1,if_false,i1,i2,decide_true,if_true];rw [hn _ i1 i2];simp only [Ai,hy,decide_true,JX,B1,if_false];exact OkF.nx trivial
end M
namespace M
open PySem L2
section
variable {nb:Int->List Int} {p:Nat}
theorem Fd.at' {s:Int} {L:Met} (h:Fd nb p s L) {x:Int} (hx:x∈Aj L):(x,stp L x)∈L:=by
 obtain ⟨d,hd⟩:=Ba.mp hx;rw [FT h.nd hd];exact hd
theorem Fd.le' {s:Int} {L:Met} (h:Fd nb p s L) {x y:Int} (hx:x∈Aj L) (hy:y∈nb x):y∈Aj L/\stp L y<=stp L x+1:=by
 obtain ⟨d,hd,hle⟩:=h.cl _ (h.at' hx) y hy;exact ⟨Ba.mpr ⟨d,hd⟩,by rw [FT h.nd hd];exact hle⟩
theorem Fd.src' {s:Int} {L:Met} (h:Fd nb p s L):s∈Aj L/\stp L s=0:=⟨Ba.mpr ⟨0,h.src⟩,FT h.nd h.src⟩
def wf (nb:Int->List Int) (L:Met) (x:Int):Nat->Int
 | 0=>x
 | i+1=>(G5 nb L (wf nb L x i)).headD 0
theorem TC (L:Met) (x:Int):∀i,wf nb L x (i+1)=wf nb L ((G5 nb L x).headD 0) i
 | 0=>rfl
 | i+1=>by
  show (G5 nb L (wf nb L x (i+1))).headD 0=(G5 nb L (wf nb L ((G5 nb L x).headD 0) i)).headD 0;rw [TC L x i]
theorem Ox (L:Met):∀(n:Nat) (x:Int),Jv nb L n x=(AT (n+1)).map (wf nb L x)
 | 0,x=>rfl
 | n+1,x=>by
  show x :: Jv nb L n _=_;rw [Ox L n]
  conv=>rhs;rw [Ub,A5,BP]
  congr 1
  exact FM λi _=>(TC L x i).symm
theorem Fd.bk {s:Int} {L:Met} (h:Fd nb p s L) (hsym:∀x y:Int,0<=x->0<=y->y∈nb x->x∈nb y) {x:Int} {n:Nat} (hx:(x,(n:Int))∈L):∀i,i<=n->(wf nb L x i,(n:Int) - i)∈L/\(i < n->wf nb L x (i+1)∈nb (wf nb L x i))
 | 0,_=>by
  have h0:(M.wf nb L x 0,(n:Int) - (0:Nat))∈L:=by
   show (x,(n:Int) - (0:Nat))∈L;simpa using hx
  refine ⟨h0,λhn=>?_⟩;obtain ⟨y,l,e,_⟩:=h.next hsym h0 (by lia);show (G5 nb L (M.wf nb L x 0)).headD 0∈_;rw [e]
  have:y∈G5 nb L (M.wf nb L x 0):=by rw [e];exact Ag
  exact (Bc.mp this).1
 | i+1,hi=>by
  obtain ⟨h1,_⟩:=Fd.bk h hsym hx i (by lia);obtain ⟨y,l,e,hy⟩:=h.next hsym h1 (by lia)
  have hw:M.wf nb L x (i+1)=y:=by
   show (G5 nb L (M.wf nb L x i)).headD 0=y;rw [e];rfl
  have h2:(M.wf nb L x (i+1),(n:Int) - ((i+1:Nat):Int))∈L:=by
   rw [hw,show (n:Int) - ((i+1:Nat):Int)=n - i - 1 by lia];exact hy
  refine ⟨h2,λhn=>?_⟩;obtain ⟨y2,l2,e2,_⟩:=h.next hsym h2 (by omega);show (G5 nb L (M.wf nb L x (i+1))).headD 0∈_;rw [e2]
  have:y2∈G5 nb L (M.wf nb L x (i+1)):=by rw [e2];exact Ag
  exact (Bc.mp this).1
theorem Fd.walk {s:Int} {L:Met} (h:Fd nb p s L) {f:Nat->Int} {n:Nat} (h0:f 0=s) (ha:∀i,i < n->f (i+1)∈nb (f i)):∀i,i<=n->f i∈Aj L/\stp L (f i)<=i
 | 0,_=>by rw [h0];exact ⟨h.src'.1,by rw [h.src'.2];exact XX _⟩
 | i+1,hi=>by
  obtain ⟨h1,h2⟩:=Fd.walk h h0 ha i (by lia);obtain ⟨h3,h4⟩:=h.le' h1 (ha i (by lia));exact ⟨h3,by lia⟩
theorem Fd.more {s:Int} {L:Met} (h:Fd nb p s L) {f:Nat->Int} {n i:Nat} (hi:i<=n) (hk:f i∈Aj L) (ha:∀i,i < n->f (i+1)∈nb (f i)):∀k,i+k<=n->f (i+k)∈Aj L/\stp L (f (i+k))<=stp L (f i)+k
 | 0,_=>⟨hk,by simp⟩
 | k+1,hn=>by
  obtain ⟨h1,h2⟩:=Fd.more h hi hk ha k (by lia);obtain ⟨h3,h4⟩:=h.le' h1 (ha (i+k) (by lia));exact ⟨h3,by rw [show i+(k+1)=i+k+1 by lia];lia⟩
theorem Fd.bk_end {s:Int} {L:Met} (h:Fd nb p s L) (hsym:∀x y:Int,0<=x->0<=y->y∈nb x->x∈nb y) {x:Int} {n:Nat} (hx:(x,(n:Int))∈L):wf nb L x n=s:=by
 have:=(h.bk hsym hx n (AL _)).1;exact h.zero _ this (by simp)
theorem et {s:Int} {L:Met} (h:Fd nb p s L) {x:Int} (hx:x∈Aj L):(x,((stp L x).toNat:Int))∈L:=by
 have h1:=h.at' hx;have h2:=h.nn _ h1;rwa [Ci h2]
theorem bW {s a:Int} {L La:Met} (h:Fd nb p s L) (hA:Fd nb p a La) (hsym:∀x y:Int,0<=x->0<=y->y∈nb x->x∈nb y) (ha:a∈Aj L):s∈Aj La/\stp La s<=stp L a:=by
 have hx:=et h ha;have h1:=h.bk hsym hx;obtain ⟨h2,h3⟩:=hA.walk (f:=wf nb L a) (n:=(stp L a).toNat) rfl (λi hi=>(h1 i (by lia)).2 hi) (stp L a).toNat (AL _);rw [h.bk_end hsym hx] at h2 h3;have:=h.nn _ (h.at' ha);exact ⟨h2,by dsimp only at this;lia⟩
theorem kF {s a:Int} {L La:Met} (h:Fd nb p s L) (hA:Fd nb p a La) (hsym:∀x y:Int,0<=x->0<=y->y∈nb x->x∈nb y) (ha:a∈Aj L):s∈Aj La/\stp La s=stp L a:=by
 obtain ⟨h1,h2⟩:=bW h hA hsym ha;obtain ⟨_,h3⟩:=bW hA h hsym h1;exact ⟨h1,QT h2 h3⟩
theorem Ow {s a:Int} {L La:Met} (h:Fd nb p s L) (hA:Fd nb p a La) (hsym:∀x y:Int,0<=x->0<=y->y∈nb x->x∈nb y) (ha:a∈Aj L) {n:Nat} (hn:stp L a=n) :
  (∀i,i<=n->stp L (wf nb La s i)=i)/\(∀i,i<=n->wf nb La s i∈Aj L)/\(∀i,i < n->wf nb La s (i+1)∈nb (wf nb La s i))/\wf nb La s n=a/\(s,(n:Int))∈La:=by
 obtain ⟨h1,h2⟩:=kF h hA hsym ha
 have hx:(s,(n:Int))∈La:=by
  have:=hA.at' h1;rwa [h2,hn] at this
 have w:=hA.bk hsym hx
 have st:∀i,i < n->wf nb La s (i+1)∈nb (wf nb La s i):=λi hi=>(w i (by lia)).2 hi
 have up:=h.walk (f:=wf nb La s) (n:=n) rfl st;have en:=hA.bk_end hsym hx;refine ⟨λi hi=>?_,λi hi=>(up i hi).1,st,en,hx⟩;have h3:=(up i hi).2;obtain ⟨_,h4⟩:=h.more (f:=wf nb La s) (n:=n) hi (up i hi).1 st (n - i) (by lia);rw [show i+(n - i)=n by lia,en,hn] at h4
 lia
theorem Zj {s a b:Int} {L La Lb:Met} (h:Fd nb p s L) (hA:Fd nb p a La) (hB:Fd nb p b Lb) (hsym:∀x y:Int,0<=x->0<=y->y∈nb x->x∈nb y) (ha:a∈Aj L) (hab:b∈nb a) (hne:a≠b) (hpar:stp L a % 2=stp L b % 2) :
  ∃n:Nat,stp L a=n/\stp L b=n/\(s,(n:Int))∈La/\(s,(n:Int))∈Lb/\(∀i,i<=n->wf nb La s i∈Aj L)/\(∀i,i<=n->wf nb Lb s i∈Aj L)/\RG.Two nb (stp L) (wf nb La s) (wf nb Lb s) n:=by
 have ra:=h.rng _ (h.at' ha);obtain ⟨hb,l1⟩:=h.le' ha hab;have rb:=h.rng _ (h.at' hb);have hba:a∈nb b:=hsym a b ra.1 rb.1 hab;obtain ⟨_,l2⟩:=h.le' hb hba;have n0:=h.nn _ (h.at' ha);have n1:=h.nn _ (h.at' hb);dsimp only at n0 n1
 have e:stp L a=stp L b:=by lia
 obtain ⟨n,hn⟩:=CV n0;obtain ⟨a1,a2,a3,a4,a5⟩:=Ow h hA hsym ha hn;obtain ⟨b1,b2,b3,b4,b5⟩:=Ow h hB hsym hb (e▸hn)
 have rg:∀x,x∈Aj L->0<=x:=λx hx=>(h.rng _ (h.at' hx)).1
 exact ⟨n,hn,e▸hn,a5,b5,a2,b2,⟨a1,b1,a3,b3,λi hi=>hsym _ _ (rg _ (a2 i (by lia))) (rg _ (a2 (i+1) (by lia))) (a3 i hi),λi hi=>hsym _ _ (rg _ (b2 i (by lia))) (rg _ (b2 (i+1) (by lia))) (b3 i hi),
  by rw [a4,b4];exact hab,by rw [a4,b4];exact hba,by rw [a4,b4];exact hne,rfl⟩⟩
end
end M
namespace M
open PySem L2 L4
structure Wok (w:Nat×List (Int×Int)):Prop where
 hp:w.1<=60
 hnb:∀x:Int,0<=x->x < w.1->∀y∈nbW w.2 x,0<=y/\y < w.1
 hlen:∀x,(nbW w.2 x).length<=1000
 hsym:∀x y:Int,0<=x->0<=y->y∈nbW w.2 x->x∈nbW w.2 y
 hup:∀x,(nbW w.2 x).Pairwise (· < ·)
open Classical in
def E0 (w:Nat×List (Int×Int)):Option (List (Int×Int)):=if Wok w then some (IN (nbW w.2) w.1) else none
open Classical in
def Jh (w:Nat×List (Int×Int)):Option (List (List Int)):=if Wok w then some ((wk (nbW w.2) w.1 w.1).map (FF (nbW w.2) w.1)) else none
open Classical in
def DI (w:Nat×List (Int×Int)) (one s:Int):Option (List Int):=if Wok w/\(0<=one/\one < w.1)/\(0<=s/\s < w.1)/\one∈Aj (Rn (nbW w.2) s w.1) then some (Jv (nbW w.2) (Rn (nbW w.2) s w.1) (stp (Rn (nbW w.2) s w.1) one).toNat one) else none
theorem JG {W:Wd} {S:Sto} {q:Nat} {w:Nat×List (Int×Int)} (h:S[q]?=some (Li W w)):FL W S q w.1 w.2:=⟨⟨_,h,rfl,rfl,rfl⟩⟩
theorem M6 (W:Wd) (w:Nat×List (Int×Int)):VF (DO W) [.z ((Li W) w)] (rN (oDK D.int)) (E0 w):=λv hv S ds ha=>by
 unfold E0 at hv;split at hv
 ·rename_i ok
  cases hv
  match ds,ha with
  | [d],⟨⟨q,h1,h2⟩,_⟩=>
   subst h1;obtain ⟨S',c1,k1,d1⟩:=Zy (JG h2) ok.hp ok.hnb ok.hlen ok.hsym;exact ⟨_,S',c1,k1,_,rfl,AL _,d1⟩
 ·cases hv
theorem U8 (W:Wd) (w:Nat×List (Int×Int)):VF (FZ W) [.z ((Li W) w)] (rN (oL (eT D.int))) (Jh w):=λv hv S ds ha=>by
 unfold Jh at hv;split at hv
 ·rename_i ok
  cases hv
  match ds,ha with
  | [d],⟨⟨q,h1,h2⟩,_⟩=>
   subst h1;obtain ⟨S',c1,k1,d1⟩:=Tp (JG h2) ok.hp ok.hnb ok.hlen ok.hsym;exact ⟨_,S',c1,k1,_,rfl,AL _,d1⟩
 ·cases hv
theorem LK (W:Wd) (w:Nat×List (Int×Int)) (one s:Int):VF (FH W) [.z ((Li W) w),.v (D.int one),.v (D.int s)] (rN (oL D.int)) (DI w one s):=λv hv S ds ha=>by
 unfold DI at hv;split at hv
 ·rename_i ok
  obtain ⟨ok,ho,hs,hm⟩:=ok;cases hv
  match ds,ha with
  | [d,d2,d3],⟨⟨q,h1,h2⟩,h3,h4,_⟩=>
   subst h1;cases h3;cases h4;have hl:=(N0 ok.hnb (s:=s) ⟨hs.1,hs.2⟩ w.1).len;obtain ⟨d,S',c1,k1,h5⟩:=iG (JG h2) ok.hp ok.hnb ok.hlen ok.hsym ok.hup ho hs hl
   rcases h5 with ⟨h6,_⟩ | ⟨_,n,rfl,h7,h8⟩
   ·exact zX hm h6
   ·exact ⟨_,S',c1,k1,n,rfl,h7,h8⟩
 ·cases hv
def Jg (EX:(Nat×List (Int×Int))):Option (Fw (Option (List Int)) Unit):=
 GY ((((some EX).bind λx5=>((((some EX).bind λx2=>(some ()).bind λx3=>some (x2,x3)).bind λz4=>E0 z4.1).bind λx6=>(some ()).bind λx7=>some (x6,x7)).bind λx8=>some (x5,x8)).bind λz9=>Gy z9.1 z9.2.1).bind λx10=>some (.nx x10)) λv1=>GY (((some v1).bind λx11=>some x11.isNone).bind λx13=>if x13=true then some (.rt none) else some (.nx ())) λ_=>GY ((((((some EX).bind λx17=>(some ()).bind λx18=>some (x17,x18)).bind λz19=>Jh z19.1).bind λl27=>HU l27 (λx20=>(((some v1).bind λx23=>x23).bind λx24=>some x24.1).bind λx21=>(some x20).bind λx22=>some (decide (x21∈x22))) (λx20=>(some x20).bind λl25=>(some (0:Int)).bind λx26=>atI l25 x26)).bind λl28=>(some (0:Int)).bind λx29=>atI l28 x29).bind λx30=>some (.nx x30)) λv16=>(((((some EX).bind λx33=>((some v16).bind λx34=>((((some v1).bind λx31=>x31).bind λx32=>some x32.1).bind λx35=>(some ()).bind λx36=>some (x35,x36)).bind λx37=>some (x34,x37)).bind λx38=>some (x33,x38)).bind λz39=>DI z39.1 z39.2.1 z39.2.2.1).bind λx49=>((((some EX).bind λx42=>((some v16).bind λx43=>((((some v1).bind λx40=>x40).bind λx41=>some x41.2).bind λx44=>(some ()).bind λx45=>some (x44,x45)).bind λx46=>some (x43,x46)).bind λx47=>some (x42,x47)).bind λz48=>DI z48.1 z48.2.1 z48.2.2.1).bind λx50=>(some ()).bind λx51=>some (x50,x51)).bind λx52=>some (x49,x52)).bind λz53=>Ks z53.1 z53.2.1).bind λx54=>some (.rt (some x54))
def Ji (EX:(Nat×List (Int×Int))):Option (Option (List Int)):=Qe (Jg EX)
theorem LZ (W:Wd) (EX:(Nat×List (Int×Int))):VF (Gu W) [.z ((Li W) EX)] (rOL (oL D.int)) (Ji EX):=by
 refine O2 (n:=3) (b:=Lu W) (p:=Jg EX) (B:=λ_=>[]) ?_;show VS [.z ((Li W) EX),.u,.u] _ _ _ _;unfold Lu Jg;exact (Gf (Rr (HX (TN (Cu rfl) (TN (KG (HX (TN (Cu rfl) Jf) (λz4=>M6 W z4.1) (λ_=>rfl) To)) Jf)) (λz9=>QW W z9.1 z9.2.1) (λ_=>rfl) Wc)) (λv1=>(Gf (Qx (B:=(λ(_:Unit)=>[.z ((Li W) EX),.v ((eO (eP D.int D.int)) v1),.u])) (KI (iP ek (Br rfl))) ZU (Qw (.same (.same (.same .nil))))) (λ_=>(Gf (Rr (Je (KG (KH (JH (VI.k (iL (HX (TN (Cu rfl) Jf) (λz19=>U8 W z19.1) (λ_=>rfl) To))) (λx20=>(KI (iR GP (U4 (U3 (Br rfl))) (Br rfl)))) (λx20=>(Rt (Br rfl) (IM rfl)))))) (IM rfl))) (λv16=>(cu (HX (TN (KG (HX (TN (Cu rfl) (U7 (Br rfl) (U7 (U4 (U3 (Br rfl))) Jf))) (λz39=>LK W z39.1 z39.2.1 z39.2.2.1) (λ_=>rfl) To)) (TN (KG (HX (TN (Cu rfl) (U7 (Br rfl) (U7 (ZZ (U3 (Br rfl))) Jf))) (λz48=>LK W z48.1 z48.2.1 z48.2.2.1) (λ_=>rfl) To)) Jf)) (λz53=>Xe W z53.1 z53.2.1) (λ_=>rfl) To))))))))
theorem at0 (x:Int) (l:List Int):atI (x :: l) 0=some x:=by
 obtain ⟨y,h1,h2⟩:=SZ (l:=x :: l) (i:=0) (by lia) (by simp);rw [h1];simpa using h2.symm
theorem TM {C:Met} {z:Int} (hz:z∈Aj C):EY C z=some (stp C z):=by
 obtain ⟨d,hd⟩:=Ba.mp hz;unfold EY stp
 cases h:C.find? λa=>decide (a.1=z) with
 | none=>
  have:=Y5.mp h _ hd;simp at this
 | some a=>rfl
theorem fk {w:Nat×List (Int×Int)} {C:Met} (hin:∀x∈w.2,x.1∈Aj C/\x.2∈Aj C):Gy w C=some (w.2.find? λx=>decide (stp C x.1 % 2=stp C x.2 % 2)):=by
 unfold Gy Gx;simp only [Ai]
 have key:∀l:List (Int×Int),(∀x∈l,x.1∈Aj C/\x.2∈Aj C)->J5 l () (λ(_:Unit) (x3:Int×Int)=>X8 (λ_:Unit=>()) ((((EY C x3.1).bind λx8=>some (x8 % 2)).bind λx4=>((EY C x3.2).bind λx11=>some (x11 % 2)).bind λx5=>some (decide (x4=x5))).bind λx16=>if x16=true then some (Fw.rt (some (x3.1,x3.2))) else some (.nx ())))=match l.find? (λx=>decide (stp C x.1 % 2=stp C x.2 % 2)) with | some x=>some (.rt (some x)) | none=>some (.nx ()):=by
  intro l
  induction l with
  | nil=>intro _;rfl
  | cons x l ih=>
   intro h;obtain ⟨h1,h2⟩:=h x Ag;unfold J5;dsimp only;rw [TM h1,TM h2];simp only [Ai]
   cases c:decide (stp C x.1 % 2=stp C x.2 % 2) with
   | true=>
    rw [qX rfl,BY,c];rfl
   | false=>
    rw [qY AR,BY,c]
    exact ih λy hy=>h y (AW _ hy)
 have:=key w.2 hin;rw [this]
 cases w.2.find? (λx=>decide (stp C x.1 % 2=stp C x.2 % 2)) with
 | none=>rfl
 | some x=>rfl
theorem UT {nb:Int->List Int} {p s:Nat} (hnb:∀x:Int,0<=x->x < p->∀y∈nb x,0<=y/\y < p) (hsym:∀x y:Int,0<=x->0<=y->y∈nb x->x∈nb y) (hs:s∈wk nb p p) {x:Int} (hx:x∈Aj (Rn nb s p)):stp (IN nb p) x=stp (Rn nb s p) x:=by
 have hW:=MC hnb hsym p (AL _);have hF:=GH hnb (hW.of s hs).1;exact FT hW.nd (XG hnb hsym hs (hF.at' hx))
theorem lh {w:Nat×List (Int×Int)} (ok:Wok w) (hts:∀x∈w.2,(0<=x.1/\x.1 < w.1)/\x.2∈nbW w.2 x.1/\x.1≠x.2) :
  (Ji w=some none/\∀x∈w.2,stp (IN (nbW w.2) w.1) x.1 % 2≠stp (IN (nbW w.2) w.1) x.2 % 2) ∨
  (∃x∈w.2,stp (IN (nbW w.2) w.1) x.1 % 2=stp (IN (nbW w.2) w.1) x.2 % 2)/\∃(m:Nat) (r:Nat->Int),Ji w=some (some ((AT (2 * m+1)).map r))/\1<=m/\m<=60/\((AT (2 * m+1)).map r).Nodup/\(∀k,k<=2 * m->0<=r k/\r k < w.1)/\(∀k,0 < k->k<=2 * m->r (k - 1)∈nbW w.2 (r k))/\r (2 * m)∈nbW w.2 (r 0):=by
 have hW:=MC ok.hnb ok.hsym w.1 (AL _);have e1:E0 w=some (IN (nbW w.2) w.1):=qX ok;have e2:Jh w=some ((wk (nbW w.2) w.1 w.1).map (FF (nbW w.2) w.1)):=qX ok
 have e3:=fk (w:=w) (C:=IN (nbW w.2) w.1) λx hx=>by
  obtain ⟨b1,b2,_⟩:=hts x hx;have b3:=ok.hnb x.1 b1.1 b1.2 x.2 b2;exact ⟨Km ok.hnb ok.hsym b1.1 b1.2,Km ok.hnb ok.hsym b3.1 b3.2⟩
 unfold Ji Jg;simp only [Ai];rw [e1];simp only [Ai];rw [e3]
 cases hf:w.2.find? (λx=>decide (stp (IN (nbW w.2) w.1) x.1 % 2=stp (IN (nbW w.2) w.1) x.2 % 2)) with
 | none=>
  refine .inl ⟨rfl,λx hx c=>?_⟩;have:=Y5.mp hf x hx;simp [c] at this
 | some x=>
  have hx:=List.mem_of_find?_eq_some hf
  have hcl:stp (IN (nbW w.2) w.1) x.1 % 2=stp (IN (nbW w.2) w.1) x.2 % 2:=by simpa using List.find?_some hf
  obtain ⟨b1,b2,b3⟩:=hts x hx;have b4:=ok.hnb x.1 b1.1 b1.2 x.2 b2;refine .inr ⟨⟨x,hx,hcl⟩,?_⟩;simp only [Ai,IC,Option.isNone_some,B1,if_false];rw [e2];simp only [Ai]
  have e4:=Mg (l:=(wk (nbW w.2) w.1 w.1).map (FF (nbW w.2) w.1)) (c:=λx20:List Int=>some (decide (x.1∈x20))) (m:=λx20:List Int=>atI x20 0) (P:=λl=>decide (x.1∈l)) (f:=λl=>l.headD 0) (by
    have:=hW.up
    have h1:=aa (l:=wk (nbW w.2) w.1 w.1) (k:=AT w.1) (this.imp λh=>Ak h) λs hs=>CQ.mpr (hW.of s hs).1
    rw [JD] at h1;rw [AH];have:=ok.hp
    lia) (λl hl=>rfl) (λl hl _=>by
    obtain ⟨s,hs,rfl⟩:=A7.mp hl;obtain ⟨l,e⟩:=Lh ok.hnb (hW.of s hs).1 (hW.of s hs).2;rw [e]
    exact at0 _ _)
  rw [e4];simp only [Ai];have hall:=hW.all x.1.toNat (by lia);rw [Ci b1.1] at hall;obtain ⟨s1,hs1,hm1⟩:=Kv.mp hall
  have hne:FF (nbW w.2) w.1 s1∈((wk (nbW w.2) w.1 w.1).map (FF (nbW w.2) w.1)).filter (λl=>decide (x.1∈l)):=
   Bc.mpr ⟨A7.mpr ⟨s1,hs1,rfl⟩,wX ((Di _).mem_iff.mpr hm1)⟩
  cases hF:((wk (nbW w.2) w.1 w.1).map (FF (nbW w.2) w.1)).filter (λl=>decide (x.1∈l)) with
  | nil=>rw [hF] at hne;cases hne
  | cons l0 rest=>
   have h0:l0∈((wk (nbW w.2) w.1 w.1).map (FF (nbW w.2) w.1)).filter (λl=>decide (x.1∈l)):=by rw [hF];exact Ag
   obtain ⟨h2,h3⟩:=Bc.mp h0;obtain ⟨s,hs,rfl⟩:=A7.mp h2;have ha:x.1∈Aj (Rn (nbW w.2) s w.1):=(Di _).mem_iff.mp (of_decide_eq_true h3);obtain ⟨l,el⟩:=Lh ok.hnb (hW.of s hs).1 (hW.of s hs).2;rw [A5,el]
   show ∃(m:Nat) (r:Nat->Int),Qe (GY (((atI ((s:Int) :: _) 0)).bind _) _)=_/\_
   rw [at0];simp only [Ai,IC];have hsp:=(hW.of s hs).1;have hL:=GH ok.hnb hsp;obtain ⟨na,ea⟩:=CV b1.1;obtain ⟨nb',eb⟩:=CV b4.1
   have hA:Fd (nbW w.2) w.1 x.1 (Rn (nbW w.2) x.1 w.1):=by rw [ea];exact GH ok.hnb (by lia)
   have hB:Fd (nbW w.2) w.1 x.2 (Rn (nbW w.2) x.2 w.1):=by rw [eb];exact GH ok.hnb (by lia)
   have hb:=(hL.le' ha b2).1;obtain ⟨n,n1,n2,n3,n4,k1,k2,t⟩:=Zj hL hA hB ok.hsym ha b2 b3 (by rw [<-UT ok.hnb ok.hsym hs ha,<-UT ok.hnb ok.hsym hs hb];exact hcl);have far:=hA.far _ n3;dsimp only at far;have hn:=ok.hp
   have w1:DI w s x.1=some ((AT (n+1)).map (wf (nbW w.2) (Rn (nbW w.2) x.1 w.1) s)):=by
    unfold DI;rw [qX ⟨ok,⟨by lia,by lia⟩,b1,Ba.mpr ⟨_,n3⟩⟩,FT hA.nd n3,BN,Ox]
   have w2:DI w s x.2=some ((AT (n+1)).map (wf (nbW w.2) (Rn (nbW w.2) x.2 w.1) s)):=by
    unfold DI;rw [qX ⟨ok,⟨by lia,by lia⟩,b4,Ba.mpr ⟨_,n4⟩⟩,FT hB.nd n4,BN,Ox]
   rw [w1,w2];simp only [Ai];obtain ⟨last,l1,l2,l3,l4⟩:=i5 (f:=wf (nbW w.2) (Rn (nbW w.2) x.1 w.1) s) (g:=wf (nbW w.2) (Rn (nbW w.2) x.2 w.1) s) (n:=n) (by lia) rfl;rw [l4];have lt:=t.last_lt l1 l2
   have rg:∀z,z∈Aj (Rn (nbW w.2) s w.1)->0<=z/\z < w.1:=λz hz=>hL.rng _ (hL.at' hz)
   refine ⟨n - last,RG.R _ _ n last,rfl,by lia,by lia,t.nodup l1 l3,λk hk=>?_,λk h5 h6=>t.beside lt h5 h6,t.closed lt l2⟩;unfold RG.R;split
   ·exact rg _ (k1 _ (by lia))
   ·exact rg _ (k2 _ (by omega))
end M
namespace L4
open PySem L2
theorem ZR {ρ σ:Type} {c:σ->Option Bool} {q:σ->Option (Fw ρ σ)} (I:σ->Prop) (μ:σ->Nat) (h:∀s,I s->c s=some false∨(c s=some true/\∃s',q s=some (.nx s')/\I s'/\μ s' < μ s)) :
  ∀(n:Nat) (s:σ),I s->μ s < n->∃s',whF c q n s=some (.nx s')/\I s'/\c s'=some false
 | 0,s,_,hn=>zX hn (Ho _)
 | n+1,s,hI,hn=>by
  unfold whF
  rcases h s hI with hc | ⟨hc,s',hq,h2,h3⟩
  ·rw [hc]
   exact ⟨s,rfl,hI,hc⟩
  ·rw [hc]
   simp only [Ai,if_true];rw [hq];exact ZR I μ h n s' h2 (by lia)
end L4
namespace M
open PySem L2 L4
theorem Yp {l:List Int} (h:l≠[]):∃m,RS ltZ l=some m/\m∈l/\∀y∈l,m<=y:=by
 have key:∀(r:List Int) (a:Int),(r.foldl (λm x=>if ltZ x m=true then x else m) a∈a :: r)/\∀y∈a :: r,r.foldl (λm x=>if ltZ x m=true then x else m) a<=y:=by
  intro r
  induction r with
  | nil=>intro a;simp
  | cons b r ih=>
   intro a;rw [cW]
   by_cases c:ltZ b a=true
   ·rw [qX c]
    have hc:b < a:=of_decide_eq_true c;obtain ⟨h1,h2⟩:=ih b;refine ⟨AW _ h1,λy hy=>?_⟩
    rcases Au.mp hy with e | hy
    ·have:=h2 b Ag
     lia
    ·exact h2 y hy
   ·rw [qY c]
    have hc:¬b < a:=λh=>c (wX h)
    obtain ⟨h1,h2⟩:=ih a;refine ⟨?_,λy hy=>?_⟩
    ·rcases Au.mp h1 with e | h1
     ·rw [e];exact Ag
     ·exact AW _ (AW _ h1)
    ·rcases Au.mp hy with e | hy
     ·rw [e];exact h2 a Ag
     ·rcases Au.mp hy with e | hy
      ·have:=h2 a Ag
       lia
      ·exact h2 y (AW _ hy)
 cases l with
 | nil=>exact zX rfl h
 | cons a r=>exact ⟨_,rfl,(key r a).1,(key r a).2⟩
theorem fB {nb:Int->List Int} {p:Nat} {nss:List (List Int)} (hp:p<=60) (hnb:∀x:Int,0<=x->x < p->∀y∈nb x,0<=y/\y < p) (hup:∀x,(nb x).Pairwise (· < ·)) (hlen:∀x,(nb x).length<=1000)
  (hn:∀x:Int,0<=x->x < p->atI nss x=some (nb x)) {x:Int} (hx:0<=x/\x < p) :
  ∃(m:Int) (line:List Int),FP nss x=some m/\m∈line/\(∀y∈line,m<=y)/\x∈line/\(∀z∈line,∀y∈nb z,y∈line)/\(∀z∈line,0<=z/\z < p)/\(∀C:List Int,x∈C->(∀z∈C,∀y∈nb z,y∈C)->∀z∈line,z∈C):=by
 unfold FP FN;simp only [Ai];rw [few1];simp only [Ai,IC]
 let I:List Int×Int->Prop:=λs=>s.1.Nodup/\x∈s.1/\(∀z∈s.1,0<=z/\z < p)/\(0<=s.2/\s.2<=s.1.length)/\(∀i (h:i < s.1.length),(i:Int) < s.2->∀y∈nb s.1[i],y∈s.1)/\(∀C:List Int,x∈C->(∀z∈C,∀y∈nb z,y∈C)->∀z∈s.1,z∈C)
 have only:∀z∈[x],z=x:=λz hz=>by simpa using hz
 have i0:I ([x],0):=⟨by simp,by simp,λz hz=>by rw [only z hz];exact hx,⟨by simp,by simp⟩,λi hi hlt=>zX hlt (by dsimp only;lia),λC hC _ z hz=>by rw [only z hz];exact hC⟩
 obtain ⟨s',h1,h2,h3⟩:=ZR (ρ:=Int) (c:=λs7:List Int×Int=>some (decide (s7.2 < (s7.1.length:Int)))) (q:=λs7:List Int×Int=>GY ((((atI s7.1 s7.2).bind λx17=>atI nss x17).bind λl23=>HU l23 (λx20=>some (!decide (x20∈s7.1))) (λx20=>some x20)).bind λx13=>(UF s7.1 x13).bind λl14=>some (.nx l14)) λv12=>X8 (λv24=>(v12,v24)) (some (.nx (s7.2+1)))) I (λs=>p+1 - s.2.toNat) (λs hI=>by
  obtain ⟨a1,a2,a3,a4,a5,a6⟩:=hI
  by_cases c:s.2 < (s.1.length:Int)
  ·refine .inr ⟨by simp [c],?_⟩
   obtain ⟨z,e1,e2⟩:=SZ (l:=s.1) (i:=s.2) a4.1 c;have hz:z∈s.1:=A8 e2;obtain ⟨z1,z2⟩:=a3 z hz
   have hl:s.1.length<=p:=by
    have:=Nm p s.1 a1 a3;exact this
   refine ⟨(s.1++(nb z).filter (λy=>!decide (y∈s.1)),s.2+1),?_,⟨?_,?_,?_,?_,?_,?_⟩,?_⟩
   ·rw [e1]
    simp only [Ai];rw [hn z z1 z2];simp only [Ai];rw [V2 (P:=λy=>!decide (y∈s.1)) (by have:=hlen z;lia) (λ_ _=>rfl)];simp only [Ai]
    rw [W1 (by
     have h1:=Kp (λy=>!decide (y∈s.1)) (nb z);have:=hlen z
     lia)]
    rfl
   ·rw [CL]
    refine ⟨a1,((hup z).imp λh=>Int.ne_of_lt h).filter _,λu hu v hv e=>?_⟩;subst e;have:=(Bc.mp hv).2;simp [hu] at this
   ·exact A3 _ a2
   ·intro u hu
    rcases Aw.mp hu with hu | hu
    ·exact a3 u hu
    ·exact hnb z z1 z2 u (Bc.mp hu).1
   ·dsimp only
    rw [Ao];omega
   ·intro i hi hlt y hy
    dsimp only at hi hlt hy ⊢
    by_cases c2:(i:Int) < s.2
    ·rw [JW (by lia)] at hy
     exact A3 _ (a5 i (by lia) c2 y hy)
    ·have hi2:i=s.2.toNat:=by lia
     subst hi2;rw [JW (by lia)] at hy
     have:s.1[s.2.toNat]'(by lia)=z:=by
      rw [BG (by lia)] at e2;exact CW e2
     rw [this] at hy
     by_cases c3:y∈s.1
     ·exact A3 _ c3
     ·exact A4 _ (Bc.mpr ⟨hy,by simp [c3]⟩)
   ·intro C hC hcl u hu
    rcases Aw.mp hu with hu | hu
    ·exact a6 C hC hcl u hu
    ·exact hcl z (a6 C hC hcl z hz) u (Bc.mp hu).1
   ·dsimp only
    lia
  ·exact .inl (by simp [c])) wN ([x],0) i0 (by unfold wN;dsimp only;lia)
 rw [h1];obtain ⟨a1,a2,a3,a4,a5,a6⟩:=h2
 have hend:¬s'.2 < (s'.1.length:Int):=by
  have:decide (s'.2 < (s'.1.length:Int))=false:=CW h3;simpa using this
 obtain ⟨m,e,m1,m2⟩:=Yp (l:=s'.1) (λe=>by rw [e] at a2;cases a2);refine ⟨m,s'.1,?_,m1,m2,a2,λz hz y hy=>?_,a3,a6⟩
 ·simp only [IC,Ai]
  unfold je;rw [e];rfl
 ·obtain ⟨i,hi,rfl⟩:=HR.mp hz
  exact a5 i hi (by omega) y hy
theorem iy {p k:Int} (hp:0<=p) (hk:0 < k) {z:Int} (hz:z∈Ti 0 p k):0<=z/\z < p:=by
 unfold Ti at hz;obtain ⟨i,hi,rfl⟩:=A7.mp hz;have hi:=CQ.mp hi;unfold rpN at hi;split at hi
 ·rename_i h
  have h1:=Int.ediv_mul_le (p - 0 - 1) (show k≠0 by lia);have h0:=gW (a:=p - 0 - 1) (b:=k) (by lia) (by lia)
  have h2:(i:Int)<=(p - 0 - 1) / k:=by omega
  have h3:(i:Int) * k<=(p - 0 - 1) / k * k:=Int.mul_le_mul_of_nonneg_right h2 (by lia);have h4:0<=(i:Int) * k:=Int.mul_nonneg (by lia) (by lia);omega
 ·lia
theorem YB {nb:Int->List Int} {p:Nat} (hnb:∀x:Int,0<=x->x < p->∀y∈nb x,0<=y/\y < p) (hsym:∀x y:Int,0<=x->0<=y->y∈nb x->x∈nb y) {m:Int} {line:List Int} (hm:m∈line) (hle:∀y∈line,m<=y) (hcl:∀z∈line,∀y∈nb z,y∈line) (hr:∀z∈line,0<=z/\z < p):stp (IN nb p) m=0:=by
 obtain ⟨r1,r2⟩:=hr m hm;obtain ⟨x,rfl⟩:=CV r1;refine YX hnb hsym (x:=x) (by lia) (C:=((AT p).map λi:Nat=>(i:Int)).filter λz=>decide (z∉line)) (λz hz y hy=>?_) (λy hy=>?_) (λh=>?_)
 ·obtain ⟨h1,h2⟩:=Bc.mp hz
  obtain ⟨i,hi,rfl⟩:=A7.mp h1;have hi:=CQ.mp hi;have hy2:=hnb i (by lia) (by lia) y hy;obtain ⟨j,rfl⟩:=CV hy2.1;refine Bc.mpr ⟨A7.mpr ⟨j,CQ.mpr (by lia),rfl⟩,wX λc=>?_⟩;exact of_decide_eq_true h2 (hcl _ c _ (hsym _ _ (by lia) (by lia) hy))
 ·refine Bc.mpr ⟨A7.mpr ⟨y,CQ.mpr (by lia),rfl⟩,wX λc=>?_⟩
  have:=hle _ c
  lia
 ·exact of_decide_eq_true (Bc.mp h).2 hm
theorem cB {α:Type} (l:List α):(l.map λ_=>true).all id=true:=by simp
theorem V3 {nb:Int->List Int} {p:Nat} {us:List (Int×Int)} {nss:List (List Int)} (hp:p<=60) (hnb:∀x:Int,0<=x->x < p->∀y∈nb x,0<=y/\y < p) (hsym:∀x y:Int,0<=x->0<=y->y∈nb x->x∈nb y) (hup:∀x,(nb x).Pairwise (· < ·)) (hlen:∀x,(nb x).length<=1000)
  (hn:∀x:Int,0<=x->x < p->atI nss x=some (nb x)) (hus:∀t∈us,(0<=t.1/\t.1 < p)/\(0<=t.2/\t.2 < p)/\col nb p t.1≠col nb p t.2) (hul:us.length<=1000000):HI ((AT p).map λx:Nat=>col nb p x) p us nss=some true:=by
 have hat:∀z:Int,0<=z->z < p->atI ((AT p).map λx:Nat=>col nb p x) z=some (col nb p z):=λz h0 h1=>by
  obtain ⟨i,rfl⟩:=CV h0;exact G2 (λx:Nat=>col nb p x) (by lia)
 unfold HI FO;simp only [Ai]
 have hl:((AT p).map λx:Nat=>col nb p x).length=p:=by simp
 rw [Kw (f:=λ_=>true) (by rw [hl];lia) (λx _=>WM x),Kw (f:=λ_=>true) (by rw [hl];lia) (λx hx=>by
  obtain ⟨i,_,rfl⟩:=A7.mp hx
  rcases (show col nb p i=0∨col nb p i=1 by show stp (IN nb p) i % 2=0∨stp (IN nb p) i % 2=1;lia) with e | e <;> rw [e] <;> rfl),hl]
 rw [Kw (l:=us) (f:=λ_=>false) hul (λt ht=>by
  obtain ⟨h1,h2,h3⟩:=hus t ht;rw [hat _ h1.1 h1.2,hat _ h2.1 h2.2];simp only [Ai]
  rw [wY h3])]
 have hr:de 0 p (1+(p:Int) / 8)=some (Ti 0 p (1+(p:Int) / 8)):=qX (by lia);rw [hr];simp only [Ai]
 have hrl:(Ti 0 p (1+(p:Int) / 8)).length<=1000000:=by
  have:=gd (i:=0) (j:=p) (k:=1+(p:Int) / 8) (by lia) (by lia) (by lia);unfold Ti;rw [AH,JD]
  unfold rpN at *
  have h1:((p:Int) - 0 - 1) / (1+(p:Int) / 8)<=(p:Int) - 0 - 1∨¬(0:Int) < p:=by
   by_cases c:(0:Int) < p
   ·exact .inl (cX _ (by lia))
   ·exact .inr c
  split <;> lia
 rw [Kw (l:=Ti 0 p (1+(p:Int) / 8)) (f:=λ_=>true) hrl (λz hz=>by
  obtain ⟨z1,z2⟩:=iy (by lia) (by lia) hz;obtain ⟨m,line,e,m1,m2,m3,m4,m5,_⟩:=fB hp hnb hup hlen hn ⟨z1,z2⟩;rw [e];simp only [Ai];obtain ⟨r1,r2⟩:=m5 m m1;rw [hat m r1 r2];simp only [Ai]
  have:col nb p m=0:=by show stp (IN nb p) m % 2=0;rw [YB hnb hsym m1 m2 m4 m5];rfl
  rw [this]
  rfl)]
 simp only [cB,decide_true,Ai,JX,B1,if_false,IC]
 have hany:(us.map λ_=>false).any id=false:=by simp
 rw [hany];rfl
theorem YU (W:Wd) {S:Sto} {t m:Nat} {ts:List (Int×Int)} {c:Int} (ht:S[t]?=some (.lst (ts.map pairD))) (hm1:1<=m) (hm:m<=60) (hf:D5 m ts) (hl:ts.length<=80000) {e:Lo} {mp mt:ME} {mc:ML} (h1:mp e S=.ok (.int m) S) (h2:AJ mt mc e S=.ok [.ref t,.int c] S) :
  ∃(q:Nat) (S':Sto),Pe W.Web 3 (Hz W) (AJ mp (AJ (BB 2 (Dk W) (AJ mt mc)) As)) e S=.ok (.ref q) S'/\Keeps S S'/\S.length<=q/\S'[q]?=some (Li W (m,DT ts)):=by
 obtain ⟨us,c1,p1,l1⟩:=Xg W c ht hl;obtain ⟨S',c2,K,hw⟩:=iF W (p:=m) (d:=.ref S.length) (S:=S++[.lst (us.map pairD)]) (ps:=us) hm1 hm (λS' k=>C0 (k.at (Bn _ _))) (by lia) (hf.of p1) (ml:=AJ mp (AJ (BB 2 (Dk W) (AJ mt mc)) As)) (e:=e) (S0:=S) (Bo h1 (Bo ((Bl h2 rfl).trans c1) rfl));rw [dN p1] at hw;exact ⟨_,S',c2,(Keeps.app _ _).trans K,by simp,hw⟩
theorem aU {S:Sto} {n o:Nat} {ts:List (Int×Int)} (h:Mq S n o ts) (L:Nat->Option Ob) (hL:∀n o,S[n]?=some o->L n=some o):Nst D.int ((AT o).map (nr ts)) L (.ref n):=by
 obtain ⟨rs,h1,h2,h3⟩:=h;refine ⟨n,rs,rfl,hL _ _ h1,by simp [h2],λk xs hk=>?_⟩;rw [AX] at hk
 by_cases c:k < o
 ·rw [Bg c] at hk
  cases hk;obtain ⟨r,h4,h5⟩:=h3 k c;exact ⟨r,h4,hL _ _ h5⟩
 ·rw [BX (by simp;lia)] at hk
  cases hk
theorem Zn (W:Wd) (ns:List Int) {S:Sto} {h:Int} {m t:Nat} {ts:List (Int×Int)} (ht:S[t]?=some (.lst (ts.map pairD))) (hu:Ds m 0 ts) (hl:ts.length<=4000) (hm1:1<=m) (hm:m<=60) :
  ∃(t':Nat) (us:List (Int×Int)) (S':Sto),sIf (T1 (mB (m2 ltD (AC 2) (mC (.int 15)))) (mB (m2 (eqD false) (m2 Cw (m2 Fk (AC 1) (mC (.int 3))) (mC (.int 4))) (mC (.int 1))))) (BZ 3 (BB 3 (G9 W) (AJ (BB 2 (Fm W) (AJ (AC 0) (AJ (mC (.int 1)) As))) (AJ (AC 2) (AJ (m2 Do (mC (.int 1)) (m2 Cw (m2 Fk (AC 1) (mC (.int 5))) (mC (.int 6)))) As))))) sNx
   [sF ns,sI h,sI m,sR t,none,none,none,none,none] S=oN [sF ns,sI h,sI m,sR t',none,none,none,none,none] S'/\Keeps S S'/\S'[t']?=some (.lst (us.map pairD))/\Ds m 0 us/\us.length<=4000:=by
 have a1:mB (m2 ltD (AC 2) (mC (.int 15))) [sF ns,sI h,sI m,sR t,none,none,none,none,none] S=.ok (decide ((m:Int) < 15)) S:=En (A2 rfl rfl (Im rfl));have a2:mB (m2 (eqD false) (m2 Cw (m2 Fk (AC 1) (mC (.int 3))) (mC (.int 4))) (mC (.int 1))) [sF ns,sI h,sI m,sR t,none,none,none,none,none] S=.ok (decide (h / 3 % 4=1)) S:=En (A2 (A2 (A2 rfl rfl (G8 (by decide) (by decide))) rfl (Ck (by decide))) rfl (Kf rfl))
 by_cases c:(m:Int) < 15/\h / 3 % 4=1
 ·obtain ⟨S1,pool,q1,K1,b1,p1,p2⟩:=Wf W ns S
  obtain ⟨us,q2,u2,l2⟩:=Nq W (1+h / 5 % 6) b1 p1 hm1 hm;rw [wX c.1] at a1;rw [wX c.2] at a2;refine ⟨_,us,_,(D0 ((XF a1).trans a2)).trans ((qX rfl).trans (Cb (i:=3) ((Bl (ds:=[.ref S.length,.int m,.int (1+h / 5 % 6)]) (S1:=S1) (Bo ((Bl (ds:=[.fro (ns.map D.int),.int 1]) (S1:=S) rfl rfl).trans q1) (Bo rfl (Bo (A2 rfl (A2 (A2 rfl rfl (G8 (by decide) (by decide))) rfl (Ck (by decide))) rfl) rfl))) rfl).trans q2))),K1.trans (Keeps.app _ _),Bn _ _,u2,by lia⟩
 ·refine ⟨t,ts,S,?_,Keeps.refl S,ht,hu,hl⟩
  by_cases c1:(m:Int) < 15
  ·rw [wX c1] at a1
   rw [wY λh=>c ⟨c1,h⟩] at a2;exact (D0 ((XF a1).trans a2)).trans ((qY AR).trans rfl)
  ·rw [wY c1] at a1
   exact (D0 (fx a1)).trans ((qY AR).trans rfl)
theorem good (W:Wd) (nd:W.excs.Nodup) (ns:List Int) (hns:ns.length<=63):∃S',bX W [.fro (ns.map D.int)] []=.ok (.bl true) S':=by
 obtain ⟨h,hc⟩:=W9 W ns 0 [];have s1:BZ 1 (BB 2 (D4 W) (AJ (AC 0) (AJ (mC (.int 0)) As))) (DF 9 [.fro (ns.map D.int)]) []=oN [sF ns,sI h,none,none,none,none,none,none,none] []:=Cb (i:=1) ((Bl (ds:=[.fro (ns.map D.int),.int 0]) (S1:=[]) rfl rfl).trans hc);obtain ⟨m,t,ts,S1,c1,K1,t1,u1,l1,hm1,hm⟩:=YM W ns []
 have s2:Xq (BB 1 (FI W) (AJ (AC 0) As)) (Fx 2 (B7 (tgN 2) (B7 (tgN 3) GX))) [sF ns,sI h,none,none,none,none,none,none,none] []=oN [sF ns,sI h,sI m,sR t,none,none,none,none,none] S1:=by
  have c1':BB 1 (FI W) (AJ (AC 0) As) [sF ns,sI h,none,none,none,none,none,none,none] []=.ok (.tup [.int m,.ref t]) S1:=(Bl (ds:=[.fro (ns.map D.int)]) (S1:=[]) rfl rfl).trans c1;unfold Xq;rw [c1'];rfl
 obtain ⟨t',us',S2,c2,K2,t2,u2,l2⟩:=fC W (h / 7) t1 u1 l1;have s3:BZ 3 (BB 3 (GN W) (AJ (AC 2) (AJ (AC 3) (AJ (m2 Fk (AC 1) (mC (.int 7))) As)))) [sF ns,sI h,sI m,sR t,none,none,none,none,none] S1=oN [sF ns,sI h,sI m,sR t',none,none,none,none,none] S2:=Cb (i:=3) ((Bl (ds:=[.int m,.ref t,.int (h / 7)]) (S1:=S1) (Bo rfl (Bo rfl (Bo (A2 rfl rfl (G8 (by decide) (by decide))) rfl))) rfl).trans c2);obtain ⟨tt,us,S3,s4,K3,t3,u3,l3⟩:=Zn W ns (h:=h) t2 u2 (by lia) hm1 hm;obtain ⟨q,S4,c4,K4,q4,w4⟩:=YU W (c:=h) t3 hm1 hm u3.fit (by lia) (e:=[sF ns,sI h,sI m,sR tt,none,none,none,none,none]) (mp:=AC 2) (mt:=AC 3) (mc:=AJ (AC 1) As) rfl rfl;have s5:BZ 4 (Pe W.Web 3 (Hz W) (AJ (AC 2) (AJ (BB 2 (Dk W) (AJ (AC 3) (AJ (AC 1) As))) As))) [sF ns,sI h,sI m,sR tt,none,none,none,none,none] S3=oN [sF ns,sI h,sI m,sR tt,sR q,none,none,none,none] S4:=Cb (i:=4) c4;have t4:=K4.at t3;obtain ⟨n,S5,c5,K5,n5⟩:=aY W t4 u3 hm (by lia);have s6:BZ 5 (BB 2 (Hc W) (AJ (AC 3) (AJ (AC 2) As))) [sF ns,sI h,sI m,sR tt,sR q,none,none,none,none] S4=oN [sF ns,sI h,sI m,sR tt,sR q,sR n,none,none,none] S5:=Cb (i:=5) ((Bl (ds:=[.ref tt,.int m]) (S1:=S4) rfl rfl).trans c5)
 have hnd:∀x,(nbW (DT us) x).Nodup:=λx=>by
  rw [KQ u3];exact (Di _).nodup_iff.mpr (Jk u3.2 λt ht=>(u3.1 t ht).2.1)
 have hlen:∀x,(nbW (DT us) x).length<=1000:=λx=>by
  have:=Nm m (nbW (DT us) x) (hnd x) λz hz=>by
   rw [KQ u3] at hz;exact gj u3 hz
  lia
 have hup:∀x,(nbW (DT us) x).Pairwise (· < ·):=λx=>by
  rw [KQ u3];exact Tb (Jk u3.2 λt ht=>(u3.1 t ht).2.1)
 have ok:Wok (m,DT us):=⟨hm,R8 u3,hlen,R7 u3,hup⟩
 have hmem:∀x:Int×Int,x∈DT us↔x∈us:=λx=>by
  have:=(M9 us).mem_iff (a:=x);rwa [u3.nrm] at this
 have hts:∀x∈DT us,(0<=x.1/\x.1 < m)/\x.2∈nbW (DT us) x.1:=λx hx=>by
  have hx:=(hmem x).mp hx;have b:=u3.1 x hx;refine ⟨⟨b.1,by omega⟩,?_⟩;rw [KQ u3];refine PY.mpr (.inl ?_);rw [Ci b.1];exact hx
 have hall:∀a b:Int,0<=a->a < m->b∈nbW (DT us) a->(a,b)∈DT us∨(b,a)∈DT us:=λa b ha0 ha hb=>by
  rw [KQ u3] at hb;have:=PY.mp hb;rw [Ci ha0] at this
  rcases this with h | h
  ·exact .inl ((hmem _).mpr h)
  ·exact .inr ((hmem _).mpr h)
 have w5:=K5.at w4;obtain ⟨o,S6,c6,K6,h6⟩:=iY (JG w5) hm (R8 u3) hlen (R7 u3) hts hall;have s7:BZ 6 (BB 1 (G0 W) (AJ (AC 4) As)) [sF ns,sI h,sI m,sR tt,sR q,sR n,none,none,none] S5=oN [sF ns,sI h,sI m,sR tt,sR q,sR n,some o,none,none] S6:=Cb (i:=6) ((Bl (ds:=[.ref q]) (S1:=S5) rfl rfl).trans c6);have w6:=K6.at w5;have n6:=n5.keeps K6;have t6:=(K5.trans K6).at t4
 have hn:∀x:Int,0<=x->x < (((AT m).map (nr us)).length:Int)->atI ((AT m).map (nr us)) x=some (nbW (DT us) x):=λx h0 h1=>by
  have hl:((AT m).map (nr us)).length=m:=by simp
  rw [hl] at h1;obtain ⟨y,e1,e2⟩:=SZ (l:=(AT m).map (nr us)) (i:=x) h0 (by rw [hl];exact h1);rw [e1,KQ u3];rw [AX,Bg (by lia)] at e2;exact e2.symm▸rfl
 have hl:((AT m).map (nr us)).length=m:=by simp
 have hP:∀x∈DT us,(0<=x.1/\x.1 < m)/\x.2∈nbW (DT us) x.1/\x.1≠x.2:=λx hx=>⟨(hts x hx).1,(hts x hx).2,λe=>by
  have:=(u3.1 x ((hmem x).mp hx)).2.1
  lia⟩
 have run:∀S7 dr,Gu W [.ref q] S6=.ok dr S7->BZ 7 (BB 1 (Gu W) (AJ (AC 4) As)) [sF ns,sI h,sI m,sR tt,sR q,sR n,some o,none,none] S6=oN [sF ns,sI h,sI m,sR tt,sR q,sR n,some o,some dr,none] S7:=λS7 dr c=>Cb (i:=7) ((Bl (ds:=[.ref q]) (S1:=S6) rfl rfl).trans c)
 rcases lh ok hP with ⟨e7,hno⟩ | ⟨⟨x,hx,hcl⟩,k,r,e7,k1,k2,hnd7,hin,hb,hcc⟩
 ·-- no ring: two colours
  obtain ⟨d7,S7,c7,K7,r7⟩:=LZ W (m,DT us) _ e7 S6 [.ref q] ⟨⟨q,rfl,w6⟩,trivial⟩;have r7:d7=.non:=r7;subst r7
  rcases h6 with ⟨_,h6⟩ | ⟨rfl,h6⟩
  ·exact zX (show XH (nbW (DT us)) m (col (nbW (DT us)) m) from λa b ha0 ha hb=>by
    rcases hall a b ha0 ha hb with h | h
    ·exact hno _ h
    ·exact λe=>hno _ h e.symm) h6
  have w7:=K7.at w6;have t7:=K7.at t6
  obtain ⟨d8,S8,c8,K8,r8⟩:=OA W ((AT m).map λx:Nat=>col (nbW (DT us)) m x) m us ((AT m).map (nr us)) true (V3 hm (R8 u3) (R7 u3) hup hlen (λx h0 h1=>hn x h0 (by rw [hl];exact h1)) (λx hx=>by
    have hx':=(hmem x).mpr hx;have a1:=hts x hx'
    exact ⟨a1.1,R8 u3 x.1 a1.1.1 a1.1.2 _ a1.2,h6 _ _ a1.1.1 a1.1.2 a1.2⟩) (by lia)) S7 [FU ((AT m).map λx:Nat=>col (nbW (DT us)) m x),.int m,.ref tt,.ref n] ⟨rfl,rfl,⟨tt,rfl,t7⟩,aU (n6.keeps K7),trivial⟩
  have r8:d8=.bl true:=r8;subst r8;obtain ⟨S9,c9,K9⟩:=TY W (JG (K8.at w7)) (K8.at t7) u3.nrm;refine ⟨S9,Cp (n:=9) (mb:=UP W) ?_⟩;unfold UP;refine (At s1).trans ((At s2).trans ((At s3).trans ((At s4).trans ((At s5).trans ((At s6).trans ((At s7).trans ((At (run S7 _ c7)).trans ?_)))))));refine (Oc (S0:=S7) (En (A2 (x:=FU ((AT m).map λx:Nat=>col (nbW (DT us)) m x)) (y:=.non) (S1:=S7) (S2:=S7) rfl rfl rfl))).trans (FV ?_);refine Sa (S1:=S7) (A2 (x:=.non) (y:=.non) (S1:=S7) (S2:=S7) rfl rfl rfl) (Sa (S1:=S8) ((Bl (ds:=[FU ((AT m).map λx:Nat=>col (nbW (DT us)) m x),.int m,.ref tt,.ref n]) (S1:=S7) rfl rfl).trans c8) ((Bl (ds:=[.ref q,.int m,.ref tt]) (S1:=S8) rfl rfl).trans c9))
 ·-- a ring
  obtain ⟨d7,S7,c7,K7,r7⟩:=LZ W (m,DT us) _ e7 S6 [.ref q] ⟨⟨q,rfl,w6⟩,trivial⟩;obtain ⟨n7,rfl,hn7,a7⟩:=r7
  rcases h6 with ⟨rfl,h6⟩ | ⟨_,h6⟩
  ·obtain ⟨d8,S8,c8,K8,r8⟩:=TQ W ((AT (2 * k+1)).map r) ((AT m).map (nr us)) true (Z6 (nb:=nbW (DT us)) k1 (by lia) hnd7 (λj hj=>by rw [hl];exact hin j hj) hb hcc hn) S7 [.ref n7,.ref n] ⟨⟨n7,rfl,a7⟩,aU (n6.keeps K7),trivial⟩
   have r8:d8=.bl true:=r8;subst r8;have a8:=K8.at a7;have hlt7:n7 < S8.length:=De a8;have hl8:=fA (m:=AC 7) (e:=[sF ns,sI h,sI m,sR tt,sR q,sR n,sN,sR n7,none]) (S:=S8) (S1:=S8) rfl (CC a8) (by simp;lia);have s9:BZ 8 (DB (mN T3 (JN (AC 7)))) [sF ns,sI h,sI m,sR tt,sR q,sR n,sN,sR n7,none] S8=oN [sF ns,sI h,sI m,sR tt,sR q,sR n,sN,sR n7,sR S8.length] (S8++[.lst (((AT (2 * k+1)).map r).map D.int)]):=Cb (i:=8) hl8;have a9:=(Keeps.app S8 [.lst (((AT (2 * k+1)).map r).map D.int)]).at a8;have hx:=IE (mo:=AC 7) (ma:=mC (.int 0)) (e:=[sF ns,sI h,sI m,sR tt,sR q,sR n,sN,sR n7,sR S8.length]) (S:=S8++[.lst (((AT (2 * k+1)).map r).map D.int)]) (S1:=S8++[.lst (((AT (2 * k+1)).map r).map D.int)]) (S2:=S8++[.lst (((AT (2 * k+1)).map r).map D.int)]) (y:=.int 0) (n:=n7) rfl a9 rfl a9 (lw (by simp;lia));generalize hS:(S8++[Ob.lst (((AT (2 * k+1)).map r).map D.int)]).set n7 (Ob.lst (((AT (2 * k+1)).map r).map D.int++[D.int 0]))=S9 at hx
   have keep:∀j ob,j≠n7->S8[j]?=some ob->S9[j]?=some ob:=λj ob hj hb=>by
    rw [<-hS,Am (Bw hj)];exact (Keeps.app S8 _).at hb
   have held:S9[S8.length]?=some (.lst (((AT (2 * k+1)).map r).map D.int)):=by
    rw [<-hS,Am (by lia)];exact Bn _ _
   have hq:q≠n7:=Ak (Ae (De w6) hn7);have htt:tt≠n7:=Ak (Ae (De t6) hn7);have w9:=keep q _ hq ((K7.trans K8).at w6);have t9:=keep tt _ htt ((K7.trans K8).at t6);obtain ⟨d10,S10,c10,K10,r10⟩:=LZ W (m,DT us) _ e7 S9 [.ref q] ⟨⟨q,rfl,w9⟩,trivial⟩;obtain ⟨n10,rfl,_,a10⟩:=r10;obtain ⟨S11,c11,K11⟩:=TY W (JG (K10.at w9)) (K10.at t9) u3.nrm;refine ⟨S11,Cp (n:=9) (mb:=UP W) ?_⟩;unfold UP;refine (At s1).trans ((At s2).trans ((At s3).trans ((At s4).trans ((At s5).trans ((At s6).trans ((At s7).trans ((At (run S7 _ c7)).trans ?_)))))));refine Vq (S0:=S7) (En (A2 (x:=.non) (y:=.non) (S1:=S7) (S2:=S7) rfl rfl rfl)) ?_
   have t8:Pc (BB 2 (HA W) (AJ (AC 7) (AJ (AC 5) As))) [sF ns,sI h,sI m,sR tt,sR q,sR n,sN,sR n7,none] S7=.ok true S8:=by
    have:BB 2 (HA W) (AJ (AC 7) (AJ (AC 5) As)) [sF ns,sI h,sI m,sR tt,sR q,sR n,sN,sR n7,none] S7=.ok (.bl true) S8:=(Bl (ds:=[.ref n7,.ref n]) (S1:=S7) rfl rfl).trans c8;unfold Pc;rw [this];rfl
   refine (Oc (S0:=S8) (NK t8)).trans ((At s9).trans ((At (C5 hx)).trans (FV ?_)));refine Sa (S1:=S10) (A2 (x:=.ref n10) (y:=.ref S8.length) (S1:=S10) (S2:=S10) ((Bl (ds:=[.ref q]) (S1:=S9) rfl rfl).trans c10) rfl (bY false a10 (K10.at held))) ((Bl (ds:=[.ref q,.int m,.ref tt]) (S1:=S10) rfl rfl).trans c11)
  ·exact zX hcl (h6 _ _ (hP x hx).1.1 (hP x hx).1.2 (hP x hx).2.1)
end M
def PySem.W.Fast.tw9218005185269331184:Nat:=0
def PySem.W.Fast.tw8593087543115431173:Nat:=0
def PySem.W.Fast.tw15535816265041939807:Nat:=0
def PySem.W.Fast.tw7797534774775210920:Nat:=0
def PySem.W.Fast.tw7204149928980648064:Nat:=0
def PySem.W.Fast.tw14617563234135468165:Nat:=0
def PySem.W.Fast.tw16338487538048946934:Nat:=0
def PySem.W.Fast.tw13877037499598641929:Nat:=0
def PySem.W.Fast.tw2968678833624273254:Nat:=0
def PySem.W.Fast.tw13869680424810267656:Nat:=0
def PySem.W.Fast.tw17300758719284196290:Nat:=0
def PySem.W.Fast.tw17202988013599348457:Nat:=0
def PySem.W.Fast.tw10436414156664475047:Nat:=0
def PySem.W.Fast.tw6787685677012443101:Nat:=0
def PySem.W.Fast.tw2311199066767305279:Nat:=0
def PySem.W.Fast.tw13131426195443474494:Nat:=0
def PySem.W.Fast.tw5492810544521869470:Nat:=0
def PySem.W.Fast.tw5161216862379082366:Nat:=0
def PySem.W.Fast.tw3665987790013328746:Nat:=0
def PySem.W.Fast.tw11559831260272736550:Nat:=0
def PySem.W.Fast.tw2007838470523687604:Nat:=0
def PySem.W.Fast.tw1892379560512017935:Nat:=0
def PySem.W.Fast.tw1826178270382039911:Nat:=0
def PySem.W.Fast.tw16093488470574110898:Nat:=0
def PySem.W.Fast.tw7120772428529438288:Nat:=0
def PySem.W.Fast.tw11391034584387502864:Nat:=0
def PySem.W.Fast.tw9736758104954971111:Nat:=0
def PySem.W.Fast.tw17594855214243357426:Nat:=0
def PySem.W.Fast.tw6185723337967905862:Nat:=0
def PySem.W.Fast.tw5616973728908445258:Nat:=0
namespace M
open PySem PySem.Spec PyProof.Rows L2 PySem.W
theorem kK {l:OpenLaw} {w:BF} {K:Frag} {h:Bq} {mg:Str->Option AD} {fa:AK} (X:K.In h) (G:h.Ns Af mg) (hfa:mg "law" = some (.ref fa))
  {f1 f2 f3 f4 f5 f6 f7 f8 f9 f10 f11 f12 f13 f14 f15 f16 f17 f18 f19 f20 f21 f22 f23 f24 f25 f26 f27 cBadPlaces cBadTie cNoPlace cWeb:AK} {tk_MOST_PLACES:Tok}
  {od1 an1 od2 an2 od3 an3 od4 an4 od5 an5 od6 an6 od7 an7 od8 an8 od9 an9 od10 an10 od11 an11 od12 an12 od13 an13 od14 an14 od15 an15 od16 an16 od17 an17 od18 an18 od19 an19 od20 an20 od21 an21 od22 an22 od23 an23 od24 an24 od25 an25 od26 an26 od27 an27:Option AK} {sl1 sl2 sl3 sl4 sl5 sl6 sl7 sl8 sl9 sl10 sl11 sl12 sl13 sl14 sl15 sl16 sl17 sl18 sl19 sl20 sl21 sl22 sl23 sl24 sl25 sl26 sl27:Array (Option AD)} {oc1 kV1 dc1 pm1 cd1 ct1 oc2 kV2 dc2 pm2 cd2 ct2 oc3 kV3 dc3 pm3 cd3 ct3 oc4 kV4 dc4 pm4 cd4 ct4 oc5 kV5 dc5 pm5 cd5 ct5 oc6 kV6 dc6 pm6 cd6 ct6 oc7 kV7 dc7 pm7 cd7 ct7 oc8 kV8 dc8 pm8 cd8 ct8 oc9 kV9 dc9 pm9 cd9 ct9 oc10 kV10 dc10 pm10 cd10 ct10 oc11 kV11 dc11 pm11 cd11 ct11 oc12 kV12 dc12 pm12 cd12 ct12 oc13 kV13 dc13 pm13 cd13 ct13 oc14 kV14 dc14 pm14 cd14 ct14 oc15 kV15 dc15 pm15 cd15 ct15 oc16 kV16 dc16 pm16 cd16 ct16 oc17 kV17 dc17 pm17 cd17 ct17 oc18 kV18 dc18 pm18 cd18 ct18 oc19 kV19 dc19 pm19 cd19 ct19 oc20 kV20 dc20 pm20 cd20 ct20 oc21 kV21 dc21 pm21 cd21 ct21 oc22 kV22 dc22 pm22 cd22 ct22 oc23 kV23 dc23 pm23 cd23 ct23 oc24 kV24 dc24 pm24 cd24 ct24 oc25 kV25 dc25 pm25 cd25 ct25 oc26 kV26 dc26 pm26 cd26 ct26 oc27 kV27 dc27 pm27 cd27 ct27:AD}
  (a_Web:nsIn K Af "Web" = some (some (.ref cWeb)))
  (a_BadPlaces:nsIn K Af "BadPlaces" = some (some (.ref cBadPlaces)))
  (a_BadTie:nsIn K Af "BadTie" = some (some (.ref cBadTie)))
  (a_NoPlace:nsIn K Af "NoPlace" = some (some (.ref cNoPlace)))
  (a1:nsIn K Af "checked_ties" = some (some (.ref f1)))
  (l1:K.lookup f1=some ⟨oc1,od1,.func (fnOf "checked_ties" "checked_ties" (B0 Dw) (Bs Dw) (An Dw) .none kV1 dc1 pm1 an1 cd1 ct1),sl1⟩)
  (k1c:codeIn K cd1 "checked_ties" = true)
  (k1:keepIn K (.ref f1)=true)
  (a2:nsIn K Af "near_sets_of" = some (some (.ref f2)))
  (l2:K.lookup f2=some ⟨oc2,od2,.func (fnOf "near_sets_of" "near_sets_of" (B0 Dv) (Bs Dv) (An Dv) .none kV2 dc2 pm2 an2 cd2 ct2),sl2⟩)
  (k2c:codeIn K cd2 "near_sets_of" = true)
  (k2:keepIn K (.ref f2)=true)
  (a3:findIn K (.ref cWeb) "__init__" = some (some (.ref f3)))
  (i3:isFn K (.ref f3)=true)
  (l3:K.lookup f3=some ⟨oc3,od3,.func (fnOf "__init__" "Web.__init__" (B0 Gi) (Bs Gi) (An Gi) .none kV3 dc3 pm3 an3 cd3 ct3),sl3⟩)
  (k3c:codeIn K cd3 "Web.__init__" = true)
  (k3:keepIn K (.ref f3)=true)
  (a4:nsIn K Af "refuse_no_place" = some (some (.ref f4)))
  (l4:K.lookup f4=some ⟨oc4,od4,.func (fnOf "refuse_no_place" "refuse_no_place" (B0 C1) (Bs C1) (An C1) .none kV4 dc4 pm4 an4 cd4 ct4),sl4⟩)
  (k4c:codeIn K cd4 "refuse_no_place" = true)
  (k4:keepIn K (.ref f4)=true)
  (a5:nsIn K Af "near" = some (some (.ref f5)))
  (l5:K.lookup f5=some ⟨oc5,od5,.func (fnOf "near" "near" (B0 ND) (Bs ND) (An ND) .none kV5 dc5 pm5 an5 cd5 ct5),sl5⟩)
  (k5c:codeIn K cd5 "near" = true)
  (k5:keepIn K (.ref f5)=true)
  (a6:nsIn K Af "steps_from" = some (some (.ref f6)))
  (l6:K.lookup f6=some ⟨oc6,od6,.func (fnOf "steps_from" "steps_from" (B0 Eu) (Bs Eu) (An Eu) .none kV6 dc6 pm6 an6 cd6 ct6),sl6⟩)
  (k6c:codeIn K cd6 "steps_from" = true)
  (k6:keepIn K (.ref f6)=true)
  (a7:nsIn K Af "parts_of" = some (some (.ref f7)))
  (l7:K.lookup f7=some ⟨oc7,od7,.func (fnOf "parts_of" "parts_of" (B0 Gg) (Bs Gg) (An Gg) .none kV7 dc7 pm7 an7 cd7 ct7),sl7⟩)
  (k7c:codeIn K cd7 "parts_of" = true)
  (k7:keepIn K (.ref f7)=true)
  (a8:nsIn K Af "way_between" = some (some (.ref f8)))
  (l8:K.lookup f8=some ⟨oc8,od8,.func (fnOf "way_between" "way_between" (B0 EJ) (Bs EJ) (An EJ) .none kV8 dc8 pm8 an8 cd8 ct8),sl8⟩)
  (k8c:codeIn K cd8 "way_between" = true)
  (k8:keepIn K (.ref f8)=true)
  (a9:nsIn K Af "steps_in_parts" = some (some (.ref f9)))
  (l9:K.lookup f9=some ⟨oc9,od9,.func (fnOf "steps_in_parts" "steps_in_parts" (B0 DL) (Bs DL) (An DL) .none kV9 dc9 pm9 an9 cd9 ct9),sl9⟩)
  (k9c:codeIn K cd9 "steps_in_parts" = true)
  (k9:keepIn K (.ref f9)=true)
  (a10:nsIn K Af "first_clash" = some (some (.ref f10)))
  (l10:K.lookup f10=some ⟨oc10,od10,.func (fnOf "first_clash" "first_clash" (B0 EL) (Bs EL) (An EL) .none kV10 dc10 pm10 an10 cd10 ct10),sl10⟩)
  (k10c:codeIn K cd10 "first_clash" = true)
  (k10:keepIn K (.ref f10)=true)
  (a11:nsIn K Af "two_colours" = some (some (.ref f11)))
  (l11:K.lookup f11=some ⟨oc11,od11,.func (fnOf "two_colours" "two_colours" (B0 EK) (Bs EK) (An EK) .none kV11 dc11 pm11 an11 cd11 ct11),sl11⟩)
  (k11c:codeIn K cd11 "two_colours" = true)
  (k11:keepIn K (.ref f11)=true)
  (a12:nsIn K Af "ring_of" = some (some (.ref f12)))
  (l12:K.lookup f12=some ⟨oc12,od12,.func (fnOf "ring_of" "ring_of" (B0 Hl) (Bs Hl) (An Hl) .none kV12 dc12 pm12 an12 cd12 ct12),sl12⟩)
  (k12c:codeIn K cd12 "ring_of" = true)
  (k12:keepIn K (.ref f12)=true)
  (a13:nsIn K Af "odd_ring" = some (some (.ref f13)))
  (l13:K.lookup f13=some ⟨oc13,od13,.func (fnOf "odd_ring" "odd_ring" (B0 Gh) (Bs Gh) (An Gh) .none kV13 dc13 pm13 an13 cd13 ct13),sl13⟩)
  (k13c:codeIn K cd13 "odd_ring" = true)
  (k13:keepIn K (.ref f13)=true)
  (a14:nsIn K Af "_law_cell_at" = some (some (.ref f14)))
  (l14:K.lookup f14=some ⟨oc14,od14,.func (fnOf "_law_cell_at" "_law_cell_at" (B0 Dy) (Bs Dy) (An Dy) .none kV14 dc14 pm14 an14 cd14 ct14),sl14⟩)
  (k14c:codeIn K cd14 "_law_cell_at" = true)
  (k14:keepIn K (.ref f14)=true)
  (a15:nsIn K Af "_law_mixed" = some (some (.ref f15)))
  (l15:K.lookup f15=some ⟨oc15,od15,.func (fnOf "_law_mixed" "_law_mixed" (B0 Ey) (Bs Ey) (An Ey) .none kV15 dc15 pm15 an15 cd15 ct15),sl15⟩)
  (k15c:codeIn K cd15 "_law_mixed" = true)
  (k15:keepIn K (.ref f15)=true)
  (a16:nsIn K Af "_law_whole" = some (some (.ref f16)))
  (l16:K.lookup f16=some ⟨oc16,od16,.func (fnOf "_law_whole" "_law_whole" (B0 Ev) (Bs Ev) (An Ev) .none kV16 dc16 pm16 an16 cd16 ct16),sl16⟩)
  (k16c:codeIn K cd16 "_law_whole" = true)
  (k16:keepIn K (.ref f16)=true)
  (a17:nsIn K Af "_law_pool" = some (some (.ref f17)))
  (l17:K.lookup f17=some ⟨oc17,od17,.func (fnOf "_law_pool" "_law_pool" (B0 Fg) (Bs Fg) (An Fg) .none kV17 dc17 pm17 an17 cd17 ct17),sl17⟩)
  (k17c:codeIn K cd17 "_law_pool" = true)
  (k17:keepIn K (.ref f17)=true)
  (a18:nsIn K Af "_law_ties" = some (some (.ref f18)))
  (l18:K.lookup f18=some ⟨oc18,od18,.func (fnOf "_law_ties" "_law_ties" (B0 Fe) (Bs Fe) (An Fe) .none kV18 dc18 pm18 an18 cd18 ct18),sl18⟩)
  (k18c:codeIn K cd18 "_law_ties" = true)
  (k18:keepIn K (.ref f18)=true)
  (a19:nsIn K Af "_law_turned" = some (some (.ref f19)))
  (l19:K.lookup f19=some ⟨oc19,od19,.func (fnOf "_law_turned" "_law_turned" (B0 EM) (Bs EM) (An EM) .none kV19 dc19 pm19 an19 cd19 ct19),sl19⟩)
  (k19c:codeIn K cd19 "_law_turned" = true)
  (k19:keepIn K (.ref f19)=true)
  (a20:nsIn K Af "_law_nears" = some (some (.ref f20)))
  (l20:K.lookup f20=some ⟨oc20,od20,.func (fnOf "_law_nears" "_law_nears" (B0 Ex) (Bs Ex) (An Ex) .none kV20 dc20 pm20 an20 cd20 ct20),sl20⟩)
  (k20c:codeIn K cd20 "_law_nears" = true)
  (k20:keepIn K (.ref f20)=true)
  (a21:nsIn K Af "_law_halves" = some (some (.ref f21)))
  (l21:K.lookup f21=some ⟨oc21,od21,.func (fnOf "_law_halves" "_law_halves" (B0 EN) (Bs EN) (An EN) .none kV21 dc21 pm21 an21 cd21 ct21),sl21⟩)
  (k21c:codeIn K cd21 "_law_halves" = true)
  (k21:keepIn K (.ref f21)=true)
  (a22:nsIn K Af "_law_knotted" = some (some (.ref f22)))
  (l22:K.lookup f22=some ⟨oc22,od22,.func (fnOf "_law_knotted" "_law_knotted" (B0 Dx) (Bs Dx) (An Dx) .none kV22 dc22 pm22 an22 cd22 ct22),sl22⟩)
  (k22c:codeIn K cd22 "_law_knotted" = true)
  (k22:keepIn K (.ref f22)=true)
  (a23:nsIn K Af "_law_stays" = some (some (.ref f23)))
  (l23:K.lookup f23=some ⟨oc23,od23,.func (fnOf "_law_stays" "_law_stays" (B0 Ew) (Bs Ew) (An Ew) .none kV23 dc23 pm23 an23 cd23 ct23),sl23⟩)
  (k23c:codeIn K cd23 "_law_stays" = true)
  (k23:keepIn K (.ref f23)=true)
  (a24:nsIn K Af "_law_least_of" = some (some (.ref f24)))
  (l24:K.lookup f24=some ⟨oc24,od24,.func (fnOf "_law_least_of" "_law_least_of" (B0 Db) (Bs Db) (An Db) .none kV24 dc24 pm24 an24 cd24 ct24),sl24⟩)
  (k24c:codeIn K cd24 "_law_least_of" = true)
  (k24:keepIn K (.ref f24)=true)
  (a25:nsIn K Af "_law_coloured" = some (some (.ref f25)))
  (l25:K.lookup f25=some ⟨oc25,od25,.func (fnOf "_law_coloured" "_law_coloured" (B0 Dc) (Bs Dc) (An Dc) .none kV25 dc25 pm25 an25 cd25 ct25),sl25⟩)
  (k25c:codeIn K cd25 "_law_coloured" = true)
  (k25:keepIn K (.ref f25)=true)
  (a26:nsIn K Af "_law_ring" = some (some (.ref f26)))
  (l26:K.lookup f26=some ⟨oc26,od26,.func (fnOf "_law_ring" "_law_ring" (B0 Ff) (Bs Ff) (An Ff) .none kV26 dc26 pm26 an26 cd26 ct26),sl26⟩)
  (k26c:codeIn K cd26 "_law_ring" = true)
  (k26:keepIn K (.ref f26)=true)
  (a27:nsIn K Af "law" = some (some (.ref f27)))
  (l27:K.lookup f27=some ⟨oc27,od27,.func (fnOf "law" "law" (B0 Q1) (Bs Q1) (An Q1) .none kV27 dc27 pm27 an27 cd27 ct27),sl27⟩)
  (k27c:codeIn K cd27 "law" = true)
  (k27:keepIn K (.ref f27)=true)
  (pg_Web:plainGet K cWeb UX=true)
  (hd_Web:hasDictIn K cWeb=true)
  (po_Web:plainOver K cWeb=true)
  (sa_Web:findIn K (.ref cWeb) "__setattr__" = some (some (.builtin "object.__setattr__")))
  (mk_Web:makesIn K cWeb=true)
  (kc_Web:keepIn K (.ref cWeb)=true)
  (n_Web_places:findIn K (.ref cWeb) "places" = some none)
  (n_Web_ties:findIn K (.ref cWeb) "ties" = some none)
  (n_Web_near_sets:findIn K (.ref cWeb) "near_sets" = some none)
  (sp:specialIn K (.builtin "object.__class__") "__get__" = some (some (.builtin "getset_descriptor.__get__")))
  (tk:takesIn K (.builtin "object.__class__")=some true)
  (xnd:([cBadPlaces,cBadTie,cNoPlace]:List AK).Nodup)
  (xo_BadPlaces:mroIn K cBadPlaces (.type "object")=some true)
  (xb_BadPlaces:mroIn K cBadPlaces (.type "BaseException")=some true)
  (xo_BadTie:mroIn K cBadTie (.type "object")=some true)
  (xb_BadTie:mroIn K cBadTie (.type "BaseException")=some true)
  (xo_NoPlace:mroIn K cNoPlace (.type "object")=some true)
  (xb_NoPlace:mroIn K cNoPlace (.type "BaseException")=some true)
  (xe_BadPlaces:excIn K cBadPlaces RM "ValueError.__new__" = true)
  (xg_BadPlaces:findIn K (.ref cBadPlaces) "__getattribute__" = some (some (.builtin "BaseException.__getattribute__")))
  (xn_BadPlaces:findIn K (.ref cBadPlaces) "__getattr__" = some none)
  (xa_BadPlaces:findIn K (.ref cBadPlaces) "__class__" = some (some (.builtin "object.__class__")))
  (xe_BadTie:excIn K cBadTie RM "ValueError.__new__" = true)
  (xg_BadTie:findIn K (.ref cBadTie) "__getattribute__" = some (some (.builtin "BaseException.__getattribute__")))
  (xn_BadTie:findIn K (.ref cBadTie) "__getattr__" = some none)
  (xa_BadTie:findIn K (.ref cBadTie) "__class__" = some (some (.builtin "object.__class__")))
  (xe_NoPlace:excIn K cNoPlace RM "ValueError.__new__" = true)
  (xg_NoPlace:findIn K (.ref cNoPlace) "__getattribute__" = some (some (.builtin "BaseException.__getattribute__")))
  (xn_NoPlace:findIn K (.ref cNoPlace) "__getattr__" = some none)
  (xa_NoPlace:findIn K (.ref cNoPlace) "__class__" = some (some (.builtin "object.__class__")))
  (z_all:nsIn K Af "all" = some none)
  (z_any:nsIn K Af "any" = some none)
  (z_bool:nsIn K Af "bool" = some none)
  (z_enumerate:nsIn K Af "enumerate" = some none)
  (z_int:nsIn K Af "int" = some none)
  (z_isinstance:nsIn K Af "isinstance" = some none)
  (z_len:nsIn K Af "len" = some none)
  (z_list:nsIn K Af "list" = some none)
  (z_max:nsIn K Af "max" = some none)
  (z_min:nsIn K Af "min" = some none)
  (z_range:nsIn K Af "range" = some none)
  (z_reversed:nsIn K Af "reversed" = some none)
  (z_set:nsIn K Af "set" = some none)
  (z_sorted:nsIn K Af "sorted" = some none)
  (z_sum:nsIn K Af "sum" = some none)
  (z_tuple:nsIn K Af "tuple" = some none)
  (g_MOST_PLACES:nsIn K Af "MOST_PLACES" = some (some (.int 60 tk_MOST_PLACES)))
  : ∃(W:Wd) (T:Txt K mg W),fa=T.d_law.f/\W.excs.Nodup/\∀(s:AG) (v:AD),Ug s T.d_law.fd ⟨[v],[]⟩ [("script",v)]:=by
 have F1:=Cq (st:=Dw) l1 k1c k1
 have b1:=F1.binds (ps:=["places", "ties"]) λ_ _ _ _ _ _ us hl=>by obtain ⟨a,b,rfl⟩:=Ll hl;rfl
 have F2:=Cq (st:=Dv) l2 k2c k2
 have b2:=F2.binds (ps:=["places", "ties"]) λ_ _ _ _ _ _ us hl=>by obtain ⟨a,b,rfl⟩:=Ll hl;rfl
 have F3:=Cq (st:=Gi) l3 k3c k3
 have b3:=F3.binds (ps:=["self", "places", "ties"]) λ_ _ _ _ _ _ us hl=>by obtain ⟨a,b,c,rfl⟩:=YA hl;rfl
 have F4:=Cq (st:=C1) l4 k4c k4
 have b4:=F4.binds (ps:=["web", "place"]) λ_ _ _ _ _ _ us hl=>by obtain ⟨a,b,rfl⟩:=Ll hl;rfl
 have F5:=Cq (st:=ND) l5 k5c k5
 have b5:=F5.binds (ps:=["web", "place"]) λ_ _ _ _ _ _ us hl=>by obtain ⟨a,b,rfl⟩:=Ll hl;rfl
 have F6:=Cq (st:=Eu) l6 k6c k6
 have b6:=F6.binds (ps:=["web", "start"]) λ_ _ _ _ _ _ us hl=>by obtain ⟨a,b,rfl⟩:=Ll hl;rfl
 have F7:=Cq (st:=Gg) l7 k7c k7
 have b7:=F7.binds (ps:=["web"]) λ_ _ _ _ _ _ us hl=>by obtain ⟨a,rfl⟩:=T4 hl;rfl
 have F8:=Cq (st:=EJ) l8 k8c k8
 have b8:=F8.binds (ps:=["web", "one", "other"]) λ_ _ _ _ _ _ us hl=>by obtain ⟨a,b,c,rfl⟩:=YA hl;rfl
 have F9:=Cq (st:=DL) l9 k9c k9
 have b9:=F9.binds (ps:=["web"]) λ_ _ _ _ _ _ us hl=>by obtain ⟨a,rfl⟩:=T4 hl;rfl
 have F10:=Cq (st:=EL) l10 k10c k10
 have b10:=F10.binds (ps:=["web", "steps"]) λ_ _ _ _ _ _ us hl=>by obtain ⟨a,b,rfl⟩:=Ll hl;rfl
 have F11:=Cq (st:=EK) l11 k11c k11
 have b11:=F11.binds (ps:=["web"]) λ_ _ _ _ _ _ us hl=>by obtain ⟨a,rfl⟩:=T4 hl;rfl
 have F12:=Cq (st:=Hl) l12 k12c k12
 have b12:=F12.binds (ps:=["one", "other"]) λ_ _ _ _ _ _ us hl=>by obtain ⟨a,b,rfl⟩:=Ll hl;rfl
 have F13:=Cq (st:=Gh) l13 k13c k13
 have b13:=F13.binds (ps:=["web"]) λ_ _ _ _ _ _ us hl=>by obtain ⟨a,rfl⟩:=T4 hl;rfl
 have F14:=Cq (st:=Dy) l14 k14c k14
 have b14:=F14.binds (ps:=["script", "k"]) λ_ _ _ _ _ _ us hl=>by obtain ⟨a,b,rfl⟩:=Ll hl;rfl
 have F15:=Cq (st:=Ey) l15 k15c k15
 have b15:=F15.binds (ps:=["cell", "salt"]) λ_ _ _ _ _ _ us hl=>by obtain ⟨a,b,rfl⟩:=Ll hl;rfl
 have F16:=Cq (st:=Ev) l16 k16c k16
 have b16:=F16.binds (ps:=["found"]) λ_ _ _ _ _ _ us hl=>by obtain ⟨a,rfl⟩:=T4 hl;rfl
 have F17:=Cq (st:=Fg) l17 k17c k17
 have b17:=F17.binds (ps:=["script", "start"]) λ_ _ _ _ _ _ us hl=>by obtain ⟨a,b,rfl⟩:=Ll hl;rfl
 have F18:=Cq (st:=Fe) l18 k18c k18
 have b18:=F18.binds (ps:=["pool", "many", "thick"]) λ_ _ _ _ _ _ us hl=>by obtain ⟨a,b,c,rfl⟩:=YA hl;rfl
 have F19:=Cq (st:=EM) l19 k19c k19
 have b19:=F19.binds (ps:=["ties", "cell"]) λ_ _ _ _ _ _ us hl=>by obtain ⟨a,b,rfl⟩:=Ll hl;rfl
 have F20:=Cq (st:=Ex) l20 k20c k20
 have b20:=F20.binds (ps:=["ties", "many"]) λ_ _ _ _ _ _ us hl=>by obtain ⟨a,b,rfl⟩:=Ll hl;rfl
 have F21:=Cq (st:=EN) l21 k21c k21
 have b21:=F21.binds (ps:=["script"]) λ_ _ _ _ _ _ us hl=>by obtain ⟨a,rfl⟩:=T4 hl;rfl
 have F22:=Cq (st:=Dx) l22 k22c k22
 have b22:=F22.binds (ps:=["many", "ties", "cell"]) λ_ _ _ _ _ _ us hl=>by obtain ⟨a,b,c,rfl⟩:=YA hl;rfl
 have F23:=Cq (st:=Ew) l23 k23c k23
 have b23:=F23.binds (ps:=["web", "many", "ties"]) λ_ _ _ _ _ _ us hl=>by obtain ⟨a,b,c,rfl⟩:=YA hl;rfl
 have F24:=Cq (st:=Db) l24 k24c k24
 have b24:=F24.binds (ps:=["nears", "place"]) λ_ _ _ _ _ _ us hl=>by obtain ⟨a,b,rfl⟩:=Ll hl;rfl
 have F25:=Cq (st:=Dc) l25 k25c k25
 have b25:=F25.binds (ps:=["found", "many", "ties", "nears"]) λ_ _ _ _ _ _ us hl=>by obtain ⟨a,b,c,d,rfl⟩:=len4 hl;rfl
 have F26:=Cq (st:=Ff) l26 k26c k26
 have b26:=F26.binds (ps:=["found", "nears"]) λ_ _ _ _ _ _ us hl=>by obtain ⟨a,b,rfl⟩:=Ll hl;rfl
 have F27:=Cq (st:=Q1) l27 k27c k27
 have b27:=F27.binds (ps:=["script"]) λ_ _ _ _ _ _ us hl=>by obtain ⟨a,rfl⟩:=T4 hl;rfl
 let W:Wd:=⟨cBadPlaces,cBadTie,cNoPlace,cWeb⟩
 have xc_BadPlaces:(clsIn K cBadPlaces).isSome=true:=Lr xo_BadPlaces;have xc_BadTie:(clsIn K cBadTie).isSome=true:=Lr xo_BadTie;have xc_NoPlace:(clsIn K cNoPlace).isSome=true:=Lr xo_NoPlace;have X_BadPlaces:XIs K cBadPlaces:=⟨xc_BadPlaces,xg_BadPlaces,xn_BadPlaces,xa_BadPlaces,sp,tk,xo_BadPlaces,xb_BadPlaces⟩;have X_BadTie:XIs K cBadTie:=⟨xc_BadTie,xg_BadTie,xn_BadTie,xa_BadTie,sp,tk,xo_BadTie,xb_BadTie⟩;have X_NoPlace:XIs K cNoPlace:=⟨xc_NoPlace,xg_NoPlace,xn_NoPlace,xa_NoPlace,sp,tk,xo_NoPlace,xb_NoPlace⟩
 let T:Txt K mg W:={
  d_checked_ties:=⟨f1,_,F1,b1,Dt X G a1⟩
  d_near_sets_of:=⟨f2,_,F2,b2,Dt X G a2⟩
  d_Web_init:=⟨f3,_,F3,b3⟩
  d_refuse_no_place:=⟨f4,_,F4,b4,Dt X G a4⟩
  d_near:=⟨f5,_,F5,b5,Dt X G a5⟩
  d_steps_from:=⟨f6,_,F6,b6,Dt X G a6⟩
  d_parts_of:=⟨f7,_,F7,b7,Dt X G a7⟩
  d_way_between:=⟨f8,_,F8,b8,Dt X G a8⟩
  d_steps_in_parts:=⟨f9,_,F9,b9,Dt X G a9⟩
  d_first_clash:=⟨f10,_,F10,b10,Dt X G a10⟩
  d_two_colours:=⟨f11,_,F11,b11,Dt X G a11⟩
  d_ring_of:=⟨f12,_,F12,b12,Dt X G a12⟩
  d_odd_ring:=⟨f13,_,F13,b13,Dt X G a13⟩
  d__law_cell_at:=⟨f14,_,F14,b14,Dt X G a14⟩
  d__law_mixed:=⟨f15,_,F15,b15,Dt X G a15⟩
  d__law_whole:=⟨f16,_,F16,b16,Dt X G a16⟩
  d__law_pool:=⟨f17,_,F17,b17,Dt X G a17⟩
  d__law_ties:=⟨f18,_,F18,b18,Dt X G a18⟩
  d__law_turned:=⟨f19,_,F19,b19,Dt X G a19⟩
  d__law_nears:=⟨f20,_,F20,b20,Dt X G a20⟩
  d__law_halves:=⟨f21,_,F21,b21,Dt X G a21⟩
  d__law_knotted:=⟨f22,_,F22,b22,Dt X G a22⟩
  d__law_stays:=⟨f23,_,F23,b23,Dt X G a23⟩
  d__law_least_of:=⟨f24,_,F24,b24,Dt X G a24⟩
  d__law_coloured:=⟨f25,_,F25,b25,Dt X G a25⟩
  d__law_ring:=⟨f26,_,F26,b26,Dt X G a26⟩
  d_law:=⟨f27,_,F27,b27,Dt X G a27⟩
  c_Web:=⟨⟨pg_Web,hd_Web,po_Web,sa_Web⟩,⟨mk_Web,a3,i3,kc_Web⟩,Dt X G a_Web⟩
  n_Web_places:=n_Web_places
  n_Web_ties:=n_Web_ties
  n_Web_near_sets:=n_Web_near_sets
  x_BadPlaces:=⟨⟨xe_BadPlaces⟩,Dt X G a_BadPlaces⟩
  x_BadTie:=⟨⟨xe_BadTie⟩,Dt X G a_BadTie⟩
  x_NoPlace:=⟨⟨xe_NoPlace⟩,Dt X G a_NoPlace⟩
  nd:=xnd
  b_all:=Cn X G z_all
  b_any:=Cn X G z_any
  b_bool:=Cn X G z_bool
  b_enumerate:=Cn X G z_enumerate
  b_int:=Cn X G z_int
  b_isinstance:=Cn X G z_isinstance
  b_len:=Cn X G z_len
  b_list:=Cn X G z_list
  b_max:=Cn X G z_max
  b_min:=Cn X G z_min
  b_range:=Cn X G z_range
  b_reversed:=Cn X G z_reversed
  b_set:=Cn X G z_set
  b_sorted:=Cn X G z_sorted
  b_sum:=Cn X G z_sum
  b_tuple:=Cn X G z_tuple
  g_MOST_PLACES:=⟨tk_MOST_PLACES,Dt X G g_MOST_PLACES⟩ }
 refine ⟨W,T,?_,xnd,λs v=>.of_eq rfl⟩;have e:=hfa.symm.trans (Dt X G a27);cases e;rfl
theorem walk {l:OpenLaw} {q:Aq} {loose:List Str} {XP:(Str->Option AD)->Bq->Prop} {YP:BF->Bq->Prop} {d:DefRec} {K:Params->Frag} (hn:l.most=some 63) (hdf:d.params.defaults=[])
  (hY:∀(w:BF) (h:Bq),YP w h->(K w.params).In h)
  (F:∀(w:BF) (mg:Str->Option AD) (fa:AK) (h:Bq),(K w.params).In h->h.Ns Af mg->mg d.name=some (.ref fa) ->
   ∃(W:Wd) (T:Txt (K w.params) mg W),fa=T.d_law.f/\W.excs.Nodup/\∀(s:AG) (v:AD),Ug s T.d_law.fd ⟨[v],[]⟩ [("script",v)])
  (good:∀(W:Wd),W.excs.Nodup->∀ns:List Int,ns.length<=63->∃S',bX W [.fro (ns.map D.int)] []=.ok (.bl true) S') :
  WalkO q loose XP YP l.row.toRowW d [] (λf vs=>XR f vs):=
 L2.ck (n:=63) (k:=7) (x:="script") (CX:=λw=>CXG l.prog w) (sp:=λw=>Zt (K w.params)) hn (by decide) hdf ⟨rfl,by decide,by decide⟩ hY
  (λw mg fa h KX G hmg=>by
   obtain ⟨W,T,e,nd,hb⟩:=F w mg fa h KX G hmg;subst e
   exact ⟨T.d_law.fd,hb,λbase _ _=>ay (jc T) (good W nd)⟩)
  (λ_ _ a ns hl hO hS=>⟨a,ns,rfl,kD hO hS,hl,λ_=>rfl⟩) (λw H s e s' z=>kI z)
end M
open PySem PySem.W PyProof.Rows
set_option maxRecDepth 100000 in
set_option maxHeartbeats 0 in
theorem PySem.Challenge.cw_guardround_k39_two_colours_or_a_ring_holds : PySem.Challenge.rw_guardround_k39_two_colours_or_a_ring.Holds := by
 w_on;o_law;k_head;(case hw=>w_witness2)
 k_fill
 refine M.walk (l:=Fs) rfl rfl (λw h Y=>by first | exact kIn_of Y | exact km_in_of Y) ?F M.good
 case F=>
  intro w mg fa h KX G hmg;refine' M.kK (l:=Fs) (w:=w) KX G hmg ?a_Web ?a_BadPlaces ?a_BadTie ?a_NoPlace ?a1 ?l1 ?k1c ?k1 ?a2 ?l2 ?k2c ?k2 ?a3 ?i3 ?l3 ?k3c ?k3 ?a4 ?l4 ?k4c ?k4 ?a5 ?l5 ?k5c ?k5 ?a6 ?l6 ?k6c ?k6 ?a7 ?l7 ?k7c ?k7 ?a8 ?l8 ?k8c ?k8 ?a9 ?l9 ?k9c ?k9 ?a10 ?l10 ?k10c ?k10 ?a11 ?l11 ?k11c ?k11 ?a12 ?l12 ?k12c ?k12 ?a13 ?l13 ?k13c ?k13 ?a14 ?l14 ?k14c ?k14 ?a15 ?l15 ?k15c ?k15 ?a16 ?l16 ?k16c ?k16 ?a17 ?l17 ?k17c ?k17 ?a18 ?l18 ?k18c ?k18 ?a19 ?l19 ?k19c ?k19 ?a20 ?l20 ?k20c ?k20 ?a21 ?l21 ?k21c ?k21 ?a22 ?l22 ?k22c ?k22 ?a23 ?l23 ?k23c ?k23 ?a24 ?l24 ?k24c ?k24 ?a25 ?l25 ?k25c ?k25 ?a26 ?l26 ?k26c ?k26 ?a27 ?l27 ?k27c ?k27 ?pg_Web ?hd_Web ?po_Web ?sa_Web ?mk_Web ?kc_Web ?n_Web_places ?n_Web_ties ?n_Web_near_sets ?sp ?tk ?xnd ?xo_BadPlaces ?xb_BadPlaces ?xo_BadTie ?xb_BadTie ?xo_NoPlace ?xb_NoPlace ?xe_BadPlaces ?xg_BadPlaces ?xn_BadPlaces ?xa_BadPlaces ?xe_BadTie ?xg_BadTie ?xn_BadTie ?xa_BadTie ?xe_NoPlace ?xg_NoPlace ?xn_NoPlace ?xa_NoPlace ?z_all ?z_any ?z_bool ?z_enumerate ?z_int ?z_isinstance ?z_len ?z_list ?z_max ?z_min ?z_range ?z_reversed ?z_set ?z_sorted ?z_sum ?z_tuple ?g_MOST_PLACES
  (case a_Web | a_BadPlaces | a_BadTie | a_NoPlace | a1 | l1 | k1c | k1 | a2 | l2 | k2c | k2 | a3 | i3 | l3 | k3c | k3 | a4 | l4 | k4c | k4 | a5 | l5 | k5c | k5 | a6 | l6 | k6c | k6 | a7 | l7 | k7c | k7 | a8 | l8 | k8c | k8 | a9 | l9 | k9c | k9 | a10 | l10 | k10c | k10 | a11 | l11 | k11c | k11 | a12 | l12 | k12c | k12 | a13 | l13 | k13c | k13 | a14 | l14 | k14c | k14 | a15 | l15 | k15c | k15 | a16 | l16 | k16c | k16 | a17 | l17 | k17c | k17 | a18 | l18 | k18c | k18 | a19 | l19 | k19c | k19 | a20 | l20 | k20c | k20 | a21 | l21 | k21c | k21 | a22 | l22 | k22c | k22 | a23 | l23 | k23c | k23 | a24 | l24 | k24c | k24 | a25 | l25 | k25c | k25 | a26 | l26 | k26c | k26 | a27 | l27 | k27c | k27 | pg_Web | hd_Web | po_Web | sa_Web | mk_Web | kc_Web | n_Web_places | n_Web_ties | n_Web_near_sets | sp | tk=>k_is)
  (case xnd=>decide)
  (case xo_BadPlaces | xb_BadPlaces | xo_BadTie | xb_BadTie | xo_NoPlace | xb_NoPlace=>k_is)
  (case xe_BadPlaces=>k_exc)
  (case xg_BadPlaces | xn_BadPlaces | xa_BadPlaces=>k_is)
  (case xe_BadTie=>k_exc)
  (case xg_BadTie | xn_BadTie | xa_BadTie=>k_is)
  (case xe_NoPlace=>k_exc)
  (case xg_NoPlace | xn_NoPlace | xa_NoPlace | z_all | z_any | z_bool | z_enumerate | z_int | z_isinstance | z_len | z_list | z_max | z_min | z_range | z_reversed | z_set | z_sorted | z_sum | z_tuple | g_MOST_PLACES=>k_is)
#print axioms PySem.Challenge.cw_guardround_k39_two_colours_or_a_ring_holds
