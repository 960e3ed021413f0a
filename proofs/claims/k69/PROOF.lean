import PyProof.Rows.All
import Wide.All
import OpenK.AllK
import Wide.FinOn
import Lean
import PyProof.EqAt
import PyProof.EqKinds
import PyProof.TupleCall
import PyProof.ExcBaseAll.ValueError
import PyProof.NsDelKeeps
import PyProof.NeKinds
import PyProof.Rows.SortShell
import PyProof.Rows.FStr
import PyProof.FString
import PyProof.ExcAttrAll.ValueError
import PyProof.ExcArgsOwn
import PyProof.Rows.SortRuns
import PyProof.TupleIter
import PyProof.Dict
import KE.KDictSum
import PyProof.Rows.SetFrom
import PyProof.SetRoads
import PyProof.Rows.Range3
import PyProof.WalksMore
import PyProof.TupleOfSeq
import PyProof.EnumMake
import PyProof.SliceList
import PyProof.MinMaxWalk
import PyProof.Rows.EnumRows
import PyProof.WalkInts
import PyProof.Rows.SeqCalls
import KE.KRevIter
import PyProof.CollectIter
import PyProof.TupleOfGen
import PyProof.Rows.FactsT2
import PyProof.ListRange
import PyProof.Rows.CallKwBuiltin
import PyProof.ZipIter
import PyProof.Rows.ZipGen
import PyProof.Rows.RuleM_int
import PyProof.Rows.AssignMoreSeq
import KE.KIntText
import PyProof.Rows.StrKeys3
import PyProof.StrBlock
import PyProof.StrCalls2
import PyProof.StrWalks
import PyProof.Rows.RuleN_abs
import PySem.Challenge.RW_guardround_k69_whole_more_guards
set_option Elab.async false
set_option linter.all false
set_option maxRecDepth 100000
set_option maxHeartbeats 8000000
theorem qX{c:Prop}{h:Decidable c}(hc:c){α:Sort u}{t e:α}:ite c t e=t:=if_pos hc
theorem qY{c:Prop}{h:Decidable c}(hc:Not c){α:Sort u}{t e:α}:ite c t e=e:=if_neg hc
theorem wX{p:Prop}[i:Decidable p](h:p):decide p=true:=decide_eq_true h
theorem wY{p:Prop}[i:Decidable p](h:Not p):decide p=false:=decide_eq_false h
theorem zX{a b:Prop}(h:a)(n:Not a):b:=absurd h n
noncomputable section
open Array renaming back?->tI,getD_eq_getD_getElem?->Jf,getElem?_eq_getElem->Va,getElem?_toList->ZA,length_toList->CD,mem_toList_iff->GN,perm_iff_toList_perm->KM,toList->pB,toList_map->Lw
open Array.Perm renaming refl->QK
open Bool renaming and_eq_true->CU,eq_iff_iff->NP,false_eq_true->Bi,false_ne_true->AK,false_or->pA,not_eq_false->eu,not_false->ny,not_true->Li,or_eq_true->Jc
open Classical renaming byContradiction->DR,choose->DA,choose_spec->D9
open Eq renaming trans->IV
open False renaming elim->Es
open ForInStep renaming yield->Ii
open Int renaming emod_nonneg->nv,fdiv_eq_ediv_of_nonneg->WK,le_antisymm->nq,le_refl->vz,lt_of_le_of_lt->eo,lt_trans->ZN,natCast_nonneg->Kr,one_mul->cR,toNat_natCast->An,toNat_of_nonneg->As
open List renaming Nodup->Iv,all_eq_true->Iu,all_map->Y7,any_cons->Iy,any_eq_false->ei,any_eq_true->Go,any_toArray->Mx,append_assoc->Dz,append_nil->Bq,drop_drop->np,drop_eq_getElem_cons->Eh,drop_of_length_le->NH,eq_nil_of_length_eq_zero->Sn,ext_getElem?->Hz,filterMap_cons->PR,filter_cons_of_neg->Xv,filter_cons_of_pos->Xu,find?_cons->CT,find?_eq_none->KP,find?_isSome->eh,find?_some->jx,flatMap_append->cQ,flatMap_cons->RK,foldl_append->Hy,foldl_nil->VY,forIn_cons->jw,forIn_nil->VX,getD_eq_getElem?_getD->EN,getElem?_append_left->A9,getElem?_append_right->Be,getElem?_cons_succ->Xt,getElem?_drop->QJ,getElem?_eq_getElem->Af,getElem?_eq_none->CB,getElem?_eq_none_iff->Cp,getElem?_eq_some_iff->AD,getElem?_map->AZ,getElem?_range->DT,getElem?_replicate->Dy,getElem?_set->Dx,getElem?_set_ne->Ab,getElem?_set_self->Aq,getElem?_zipIdx->En,getElem_inj->jd,getElem_mem->Df,getElem_of_mem->CW,getElem_zip->Ir,length->Of,length_append->AY,length_cons->Av,length_drop->Gn,length_erase_of_mem->Lh,length_filter_le->ER,length_map->AF,length_nil->D4,length_pos_iff->cP,length_range->ee,length_replicate->OG,length_set->D3,length_singleton->Ai,length_take->EE,length_zip->HF,lookup->JI,lookup_cons->Bd,map->ah,mapM_toArray->ed,map_append->CS,map_congr_left->DS,map_cons->BC,map_drop->o0,map_eq_nil_iff->cO,map_id->Sm,map_id'->tE,map_map->BF,map_nil->NG,map_take->oz,mem_append->Ax,mem_append_left->BN,mem_append_right->BV,mem_cons->Ae,mem_cons_of_mem->AS,mem_cons_self->AV,mem_filter->BM,mem_filterMap->eS,mem_map->BD,mem_map_of_mem->cN,mem_of_find?_eq_some->WJ,mem_of_getElem?->BB,mem_of_mem_drop->ag,mem_range->Oe,mem_singleton->AU,mem_singleton_self->Xs,mergeSort_perm->cM,ne_nil_of_mem->eR,nil_append->jv,nodup_append->Em,nodup_cons->Bh,nodup_nil->EM,not_mem_nil->Gm,of_mem_zip->Jb,pairwise_append->GZ,pairwise_cons->QI,pairwise_iff_getElem->WI,pairwise_map->Ca,pairwise_mergeSort->Xr,pairwise_singleton->Xq,range->DD,range_succ->NO,replicate->Bt,set_set->tD,size_toArray->Ak,sublist_append_left->Xj,take_add_one->Hx,take_append_drop->ZL,take_length->Iq,take_of_length_le->Hw,take_sublist->eZ,take_zero->nj,zipIdx_map->ju,zipIdx_nil->jt,zip_append->jr,zip_cons_cons->FD,zip_nil_left->eY,zip_nil_right->HI
open List.Pairwise renaming and->VZ,nil->tW
open List.Sublist renaming refl->vy
open Nat renaming add_le_add_left->CI,and_div_two->Ur,and_mod_two_pow->PZ,le_of_eq->tV,le_of_lt->NM,le_of_not_lt->Sk,le_of_succ_le->Re,le_refl->AO,le_succ->JN,le_trans->At,lt_irrefl->Ci,lt_of_le_of_lt->Au,lt_of_lt_of_le->AT,lt_of_not_le->jq,lt_succ_of_lt->IF,lt_succ_self->DH,lt_trans->tU,min_le_right->jp,mod_two_eq_zero_or_one->Kq,ne_of_gt->Er,ne_of_lt->BE,not_lt->Kp,not_lt_zero->OF,pow_le_pow_right->cL,pow_succ->ZK,strongRecOn->nh,sub_self->tT,succ_ne_self->Sj,testBit->vx,testBit_and->HH,testBit_lt_two_pow->ZJ,testBit_or->WH,testBit_succ->Gr,testBit_two_pow->KI,testBit_zero->Gq,two_pow_pos->nc,zero_add->Rc,zero_le->ED,zero_testBit->Si
open Nat.succ renaming inj->PQ
open Ne renaming symm->Br
open Option renaming bind_some->AC,getD_none->eQ,getD_some->RJ,isSome_iff_exists->Cv,isSome_map->Hr,isSome_some->aa,map->sx,map_eq_some_iff->FA
open Option.some renaming inj->Bw
open Or renaming inl->RI,inr->PP
open Prod.mk renaming inj->na
open PyProof.Rows renaming AllBare->LQ,IntsAre->D8,IsTup->ZM,Keyed->Dg,SortKind->QR,SortSt->Fh,Subscript_->ou,args_tuple_getitem->ot,arrOf->A0,boot_abs->vw,boot_all->vt,boot_int->vq,boot_max->vn,boot_min->Sg,boot_sorted->vm,boot_sum->vh,boot_tuple->vg,bubble->oq,callWith_builtin1->vf,callWith_type1->E2,entry_tuple_getitem->nY,envOfC->Os,firstOfTuple'->cI,general'->ZG,listUpdate_at->cH,ltAt'->sh,lt_int->ve,mirror->Lq,mirror_perm->Xg,pairsOf->ND,pairsOf_size->Um,pendingOf->CN,reverseSlice'->SC,reverseSlice'_eq->OT,seqEpoch_at->jj,seqObj->Km,slot_tuple_getitem->CV,sortedHeap->oo,subscriptTail->cF,subscriptTail_builtinR->eW,tuples'->se,wpS_bind->Bx,wpS_forRange->Iw,wpS_get->Y3,wpS_modify->Lj,wpS_mono->QM,wpS_pure->Cw
open PyProof.Rows.IsTup renaming new->en
open PyProof.Rows.SortSt renaming mk'->Mw
open PySem renaming Addr->AW,Around->CO,BindsTo->Y9,Builtin->RM,DictEntry->RL,FuncData->Lv,Heap->Cz,IsEnum->Lu,IsPart->QT,Keyword->tF,NameKind->QS,Paired->G3,PassesOwn->WG,Program->Bg,Scope->Uq,Shared->AQ,Stmt->C2,Value->AI,Within->Xp,World->CL,again->sj,argBest->Gj,assign->Sd,assignEach->Fg,atKey->ZI,attributeBase->Ht,backTo->EB,backToKw->KL,behindInMarks->Co,binaryOp->Cy,bindArgs->jo,bindC->eM,bindL->eL,bootBuiltins->Ix,builtinsNs->ZH,cLine->Ey,call->cJ,callWith->jn,callerA->Uo,cellsFrom->CQ,codeAny->NE,codeAny_builtin->PN,codeAny_call_builtin->jm,codeAny_mono->LN,compareOp->Bu,concat_meets->eX,eval->Cj,field->si,firstArgMember->QQ,foldedSetIterable->Gi,getItem->LL,getMethod->eJ,holding->Oq,isSubtype_stop->ZF,isTrue->ZE,keywordEach->Fd,letOwnedTupleGo->PM,mainGlobals->BZ,mem_of_lookup->D5,model->Ap,newFunctionEnv->ZD,noFill_tuple_add->WC,plainId_quiet->SD,preSum->Sa,pushCells->FI,pushCells_keeps->Xo,pyIter->ZC,pyNext->Lp,rawInt->Ln,relabel->LK,richCompare->jk,seqIndex_of->ji,seqItems?->WB,seq_tuple_add->cG,setItem->sg,sizeLine_eq->jh,sliceBounds->KJ,slot_list_getitem->sf,standAt->Y4,starEach->Ad,storeName->tO,subscripted->Xf,swapsWith->HE,sysModules->EA,truthy->om,tupleKind->WA,tupleKind_room_in1->Lm,typeLookup->oj,valueAt->Ul,wpAny->Ag,wpAny_Call_Name_kw->IE,wpAny_Dict_empty->tM,wpAny_Name->oi,wpAny_assign_Name->sd,wpAny_attempt->NJ,wpAny_bind->AB,wpAny_call->oh,wpAny_callSpecial?_slot->Ch,wpAny_call_entry->DP,wpAny_comprehension_free->cE,wpAny_dictEntries->Uk,wpAny_dictEpoch->Xn,wpAny_eqBool_int->tL,wpAny_execs_cons->tK,wpAny_execs_nil->PL,wpAny_field->G2,wpAny_fieldsOf->QP,wpAny_holding->E1,wpAny_isInstance->V9,wpAny_isOneOf_keyiter->PU,wpAny_isTrue_Compare1->ja,wpAny_letGo->Xe,wpAny_loadName_cell->nX,wpAny_loadName_local->jg,wpAny_loadPart'->De,wpAny_mono->Ei,wpAny_newObj_type->Cf,wpAny_of_eq->Xd,wpAny_passesOwn->GK,wpAny_pure->AL,wpAny_pyIter_enum->Gh,wpAny_pyIter_keyiter->jf,wpAny_pyIter_list->Uj,wpAny_pyIter_tuple->DJ,wpAny_pyNext_enum_itemD->eI,wpAny_rule->ZB,wpAny_seqItems->Ll,wpAny_sequenceKey->sZ,wpAny_setField->QO,wpAny_stack_any->vb,wpAny_standAt->cD,wpAny_truthy_bool->DZ,wpAny_tryCatch->QN,wpAny_typeNameOfWhole_keyiter->Fb,wpAny_typeNameOf_keyiter->Hs,wpAny_typeOf->Ui,wpAny_updateSeq->Xm
open PySem.Around renaming under->Xl,under_plainId->OH
open PySem.Builtin renaming bitAnd->BG,bitNot->et,bitOr->Ce,bitXor->CC
open PySem.Builtin.Builtins renaming bindParams->OW
open PySem.Builtin.Dict renaming dictSlotNone->wA,showsAll->Ss
open PySem.Builtin.Dict_items renaming ownsTuple->NI
open PySem.Builtin.Int renaming intBits->Dp
open PySem.Builtin.List renaming listItems->KQ
open PySem.Builtin.Range renaming rangeSize->tq
open PySem.Builtin.Slice renaming sliceAdjust->Iz,sliceApplied->Pb,sliceFields->tj,slicePartIndex->tf,slicePlaces->FS
open PySem.Builtin.SmallTypes renaming nextOf->E3
open PySem.Builtin.Tuple renaming tupleCompareSizes->tZ,tupleExact->Fj,tupleIsExact->tY,tupleItemsOf->Pa
open PySem.Calls renaming Name_function_global->Ut,callWith_builtin->Xx
open PySem.Challenge renaming pw_guardround_k69_whole_more_guards->oy,rw_guardround_k69_whole_more_guards->Hv
open PySem.Code renaming frames->tX,isFrame->Y8
open PySem.Data renaming cell->Xw,fields->Sr
open PySem.F renaming args_dict_keyiterator_next_1->OV,args_enumerate_next_1->ai,args_tuple_add_2->Kn,args_tuple_iterator_next_1->WL,called_enumerate->jy,entry_dict_keyiterator_next->Od,entry_enumerate_new->eV,entry_enumerate_next->cT,entry_min_loop->Us,entry_tuple_add->LP,entry_tuple_iterator_next->Xk,plain_min_loop->FB,slot_dict_iter->WF,slot_dict_keyiterator_next->C9,slot_enumerate_next->JJ,slot_tuple_add->Lr,slot_tuple_iterator_next->Gs
open PySem.Heap renaming ExtBut->Sq,IsTuple->tG,SameBut->FE,get?_push_of_some->AJ,get?_push_size->Aa,get?_update_ne->cS,get?_update_other->B0,get?_update_self->Fe,lt_size->Ac,size_push->C0
open PySem.Heap.IsSliceOf renaming new->tH
open PySem.Heap.SameBut renaming refl->v0,update->IG
open PySem.NameKind renaming cell->DI,free->Gk
open PySem.Obj renaming cls_mapFields->jc,data_mapFields->Ko,isFreed_of_fields->ae,mapFields->sy,mapSeq->Gc
open PySem.Paired renaming length->FJ,snoc->Y6
open PySem.SeqAt.RcAt renaming tuples->tQ
open PySem.Shared renaming heap->ox
open PySem.Str renaming ofString->Gp
open PySem.Value renaming bool->PV,bytes->sw,float->su,int->Xi,isInt->ss,isStrOf->nZ,none->EL,ref->BY,str->Xh,type->GM
open PySem.W renaming Frag->AG,callWith_K->Ot,cellsFrom_some->WE,codeIn->Se,emptyDict->DK,findIn->EC,fnOf->JM,handedIn->cK,hasDictIn->PY,instObj->EU,isFn->WD,kdu_collect->Y5,keepIn->Fi,lookIn->NK,makesIn->eN,methodObj->PX,mg_none_of->Ff,mg_of->jl,nsIn->Sb,plainGet->LO,plainGet_of->OU,plainOver->aZ,takerIn->Rb
open PySem.W.Looks renaming here->tR
open PySem.W.WData renaming int->vc
open PySem.W.WShape renaming has->sr
open PySem.Walks renaming list->tP,tuple->sk
open PySem.Within renaming cons->vd
open Sum renaming inl->D2,inr->Ra
open True renaming intro->NF
namespace L2
open PySem PySem.Spec PyProof.Rows
abbrev Key:=Sum Int Str
def Vt:Key->AI->Bool
 | .inl k,v=>ss k v
 | .inr x,v=>nZ x v
def keyH(w:CL):Key->Int
 | .inl k=>hashInt k
 | .inr x=>hashStr w x
theorem Dk:∀{k:Key} {v:AI},Vt k v=true->(∃i t,k=D2 i/\v=Xi i t)∨(∃x t,k=Ra x/\v=Xh x t)
 | .inl i,v,h=>by
  obtain⟨t,e⟩:=AI.isInt_shape (k:=i) (v:=v) h;exact .inl ⟨i,t,rfl,e⟩
 | .inr x,v,h=>by
  obtain⟨t,e⟩:=AI.isStrOf_shape (x:=x) (v:=v) h;exact .inr ⟨x,t,rfl,e⟩
theorem dW(i:Int)(t:Tok):Vt (.inl i) (.int i t)=true:=by simp[Vt,ss]
theorem dU(x:Str)(t:Tok):Vt (.inr x) (.str x t)=true:=by simp[Vt,nZ]
theorem rE(a b:Int):decide ((D2 a:Key)=D2 b)=(a==b):=by
 by_cases e:a=b
 ·subst e;simp
 ·have h:¬(D2 a:Key)=D2 b:=λq=>e (D2.inj q)
  rw[wY h];exact(beq_eq_false_iff_ne.mpr e).symm
theorem rA(a b:Str):decide ((Ra a:Key)=Ra b)=decide (a=b):=by
 by_cases e:a=b
 ·subst e;simp
 ·have h:¬(Ra a:Key)=Ra b:=λq=>e (Ra.inj q)
  rw[wY h,wY e]
theorem rC(a:Int)(b:Str):decide ((D2 a:Key)=Ra b)=false:=wY (λq=>nomatch q)
theorem rB(a:Str)(b:Int):decide ((Ra a:Key)=D2 b)=false:=wY (λq=>nomatch q)
def Et(prog:Bg)(w:CL):PySem.KeyKind prog w Key where
 is:=Vt
 hash:=keyH w
 inj:=λv a b ha hb=>by
  rcases Dk ha with⟨i,t,rfl,rfl⟩ | ⟨x,t,rfl,rfl⟩
  ·rcases Dk hb with⟨j,u,rfl,e⟩ | ⟨y,u,rfl,e⟩
   ·injection e with e1 _;rw[e1]
   ·exact nomatch e
  ·rcases Dk hb with⟨j,u,rfl,e⟩ | ⟨y,u,rfl,e⟩
   ·exact nomatch e
   ·injection e with e1 _;rw[e1]
 byValue:=λk v h=>by
  rcases Dk h with⟨i,t,rfl,rfl⟩ | ⟨x,t,rfl,rfl⟩ <;> rfl
 pyHash:=λhv h=>by
  rcases Dk hv with⟨i,t,rfl,rfl⟩ | ⟨x,t,rfl,rfl⟩
  ·exact wpAny_pyHash_int h
  ·exact wpAny_pyHash_str h
 eqBool:=λhu hv h=>by
  rcases Dk hu with⟨i,t,rfl,rfl⟩ | ⟨x,t,rfl,rfl⟩
  ·rcases Dk hv with⟨j,u,rfl,rfl⟩ | ⟨y,u,rfl,rfl⟩
   ·rw[rE]at h;exact tL h
   ·rw[rC]at h;exact SeqAt.EqAt.int_str i t y u _ _ _ _ h
  ·rcases Dk hv with⟨j,u,rfl,rfl⟩ | ⟨y,u,rfl,rfl⟩
   ·rw[rB]at h;exact SeqAt.EqAt.str_int x t j u _ _ _ _ h
   ·rw[rA]at h;exact wpAny_eqBool_str h
 «strs»:=λk x t v h=>by
  rcases Dk h with⟨i,u,rfl,e⟩ | ⟨y,u,rfl,e⟩
  ·exact nomatch e
  ·injection e with e1 _
   subst e1
   cases v <;> rfl
theorem Yb(prog:Bg)(w:CL)(i:Int)(t:Tok):(Et prog w).is (.inl i) (.int i t)=true:=dW i t
theorem Ya(prog:Bg)(w:CL)(x:Str)(t:Tok):(Et prog w).is (.inr x) (.str x t)=true:=dU x t
inductive V where
 | non | bl (b:Bool) | int (i:Int) | str (x:Str) | byt (b:Array UInt8) | flt (b:UInt64) | ref (a:AW) | ty (n:String)
 deriving DecidableEq
def RelV:V->AI->Prop
 | .non,u=>u=EL
 | .bl b,u=>u=PV b
 | .int i,u=>∃t,u=Xi i t
 | .str x,u=>∃t,u=Xh x t
 | .byt b,u=>∃t,u=sw b t
 | .flt b,u=>∃t,u=su b t
 | .ref a,u=>u=BY a
 | .ty n,u=>u=GM n
abbrev Bv:List V->List AI->Prop:=G3 RelV
theorem Bv.length(r:Bv xs us):xs.length=us.length:=FJ r
theorem Bv.get:∀{xs:List V} {us:List AI} {i:Nat} {x:V},Bv xs us->xs[i]?=some x->∃u,us[i]?=some u/\RelV x u
 | _,_,_,_,.nil,e=>by simp at e
 | _,_,0,_,.cons r _,e=>by simp at e;subst e;exact⟨_,rfl,r⟩
 | _,_,i+1,x,.cons _ t,e=>by
  obtain⟨u,h1,h2⟩:=Bv.get (i:=i) (x:=x) t (by simpa using e);exact⟨u,by simpa using h1,h2⟩
theorem Bv.set(r:RelV x u):∀{xs:List V} {us:List AI} (i:Nat),Bv xs us->Bv (xs.set i x) (us.set i u)
 | _,_,_,.nil=>.nil
 | _,_,0,.cons _ t=>.cons r t
 | _,_,i+1,.cons q t=>.cons q (Bv.set r i t)
theorem Bv.append:∀{xs ys:List V} {us ws:List AI},Bv xs us->Bv ys ws->Bv (xs++ys) (us++ws)
 | _,_,_,_,.nil,s=>s
 | _,_,_,_,.cons r t,s=>.cons r (Bv.append t s)
theorem Bv.take:∀{xs:List V} {us:List AI} (n:Nat),Bv xs us->Bv (xs.take n) (us.take n)
 | _,_,0,_=>.nil
 | _,_,_+1,.nil=>.nil
 | _,_,n+1,.cons r t=>.cons r (Bv.take n t)
theorem Bv.drop:∀{xs:List V} {us:List AI} (n:Nat),Bv xs us->Bv (xs.drop n) (us.drop n)
 | _,_,0,r=>r
 | _,_,_+1,.nil=>.nil
 | _,_,n+1,.cons _ t=>Bv.drop n t
def Oc:Option V->Option AI->Prop
 | some v,some u=>RelV v u
 | none,none=>True
 | _,_=>False
def KV{κ:Type}:List (κ×V)->List (κ×AI)->Prop:=G3 λ(p:κ×V) (q:κ×AI)=>p.1=q.1/\RelV p.2 q.2
def kV:Key->V
 | .inl i=>.int i
 | .inr x=>.str x
inductive HO where
 | lst (xs:List V)
 | tup (xs:List V)
 | dK (f':List (Key×V)) | dT (f':List (List Key×V))
 | set (S:Int->Bool) (n:Nat)
 | ins (C dx:AW) (fs:List (Str×V))
 | own (x:AW)
 | xd (fs:List (Str×V))
 | met (f x:AW)
 | rng (lo hi:Int)
 | frz (o:Obj) (u:HO)
 | tbl (ps:Array AI)
 | ext (φ:Cz->Prop)
abbrev Hp:=AW->Option HO
def upd(H:Hp)(a:AW)(o:HO):Hp:=λb=>if b=a then some o else H b
theorem B2:upd H a o a=some o:=by unfold upd;rw[qX rfl]
theorem Bj(h:b≠a):upd H a o b=H b:=by unfold upd;rw[qY h]
theorem uq{H:Hp}{a b:AW}{o u:HO}(h:H a=some o)(h':H b=some u)(d:o≠u):a≠b:=by
 intro e;subst e;rw[h]at h';exact d (Bw h')
theorem Cm{H:Hp}{a b:AW}{o:HO}(h:H a=some o)(h':H b=none):a≠b:=by
 intro e;subst e;rw[h]at h';cases h'
section
variable(P:Bg)(w:CL)
def Do(H:Hp)(h:Cz)(a:AW):HO->Prop
 | .lst xs=>xs.length<=sizeLine/\∃(tx:List AI) (n:Nat),Bv xs tx/\h.get? a=some { cls:=.type "list",data:=.seq tx.toArray n }
 | .tup xs=>(xs.length<=sizeLine/\∃o,h.get? a=some o/\o.dict=none)/\∃tx:List AI,Bv xs tx/\ZM h a tx.toArray
 | .dK f'=>f'.length<=sizeLine/\(a==EA)=false/\∃vs,KV f' vs/\h.DictOf (Et P w) a vs
 | .dT f'=>f'.length<=sizeLine/\(a==EA)=false/\∃xs:List (List Key×AW×AI),
   G3 (λ(p:List Key×V) (q:List Key×AW×AI)=>p.1=q.1/\H q.2.1=some (.tup (p.1.map kV))/\RelV p.2 q.2.2) f' xs /\
   ∃o es ep,h.get? a=some o/\o.ExactDict/\o.data=.dict es ep/\es.toList=xs.map (entryOfKey (WA (Et P w)))/\(xs.map (·.1)).Nodup
 | .set S n=>h.SetOf (intKind P w) a S n
 | .ins C dx fs=>H dx=some (.own a)/\fs.length<=1000/\dx≠a/\h.get? a=some (EU C dx) /\
   ∃mA,h.Ns1 dx mA/\(∀f,Oc (fs.lookup f) (mA f))/\Xp mA (fs.map (·.1))
 | .own _=>∃o,h.get? a=some o
 | .xd fs=>∃mA,h.Ns1 a mA/\∀f,Oc (fs.lookup f) (mA f)
 | .rng lo hi=>∃t u v,h.get? a=some { cls:=.type "range",data:=.fields #[.int lo t,.int hi u,.int 1 v] }
 | .frz o u=>h.get? a=some o/\Do H h a u
 | .tbl ps=>h.get? a=some { cls:=.none,data:=.fields ps }
 | .met f x=>h.get? a=some (PX (.ref f) (.ref x))
 | .ext φ=>φ h/\(∃o,h.get? a=some o)/\∀h1 h2:Cz,φ h1->(∀o,h1.get? a=some o->h2.get? a=some o)->φ h2
def HOk(H:Hp)(h:Cz):Prop:=∀a o,H a=some o->Do P w H h a o
end
section
variable{P:Bg}{w:CL}{H H':Hp}{h h':Cz}{a:AW}{o:HO}
theorem Do.lt(x:Do P w H h a o):a < h.objs.size:=by
 cases o with
 | lst xs=>obtain⟨_,_,_,_,e⟩:=x;exact Ac e
 | tup xs=>obtain⟨_,_,_,p⟩:=x;exact p.lt
 | dK f'=>obtain⟨_,_,_,_,o,_,_,e,_⟩:=x;exact Ac e
 | dT f'=>obtain⟨_,_,_,_,o,_,_,e,_⟩:=x;exact Ac e
 | set S n=>obtain⟨o,_,_,_,e,_⟩:=x;exact Ac e
 | ins C dx fs=>obtain⟨_,_,_,e,_⟩:=x;exact Ac e
 | own y=>obtain⟨_,e⟩:=x;exact Ac e
 | xd fs=>obtain⟨_,⟨_,_,_,e,_⟩,_⟩:=x;exact Ac e
 | rng lo hi=>obtain⟨_,_,_,e⟩:=x;exact Ac e
 | frz ob u=>obtain⟨e,_⟩:=x;exact Ac e
 | tbl ps=>exact Ac (show h.get? a=some _ from x)
 | met f y=>exact Ac (show h.get? a=some _ from x)
 | ext φ=>obtain⟨_,⟨_,e⟩,_⟩:=x;exact Ac e
theorem G3.mapP{α β:Type}{F G:α->β->Prop}:∀{l₁:List α} {l₂:List β},G3 F l₁ l₂->(∀a b,F a b->G a b)->G3 G l₁ l₂
 | _,_,.nil,_=>.nil
 | _,_,.cons r t,f=>.cons (f _ _ r) (G3.mapP t f)
theorem Do.stay(x:Do P w H h a o)(k:∀b u,(b=a∨H b=some (.own a))->h.get? b=some u->h'.get? b=some u)
  (ho:∀b,H b=some (.own a)->H' b=some (.own a)) (ht:∀b xs,H b=some (.tup xs)->H' b=some (.tup xs)):Do P w H' h' a o:=by
 induction o with
 | lst xs=>obtain⟨z,tx,n,r,e⟩:=x;exact⟨z,tx,n,r,k _ _ (.inl rfl) e⟩
 | tup xs=>obtain⟨⟨z,o2,e2,c2⟩,tx,r,ob,e,c⟩:=x;exact⟨⟨z,o2,k _ _ (.inl rfl) e2,c2⟩,tx,r,ob,k _ _ (.inl rfl) e,c⟩
 | dK f'=>obtain⟨z,y,vs,r,ob,es,ep,e,c⟩:=x;exact⟨z,y,vs,r,ob,es,ep,k _ _ (.inl rfl) e,c⟩
 | dT f'=>
  obtain⟨z,y,xs,r,ob,es,ep,e,c⟩:=x;exact⟨z,y,xs,G3.mapP r λp q z=>⟨z.1,ht _ _ z.2.1,z.2.2⟩,ob,es,ep,k _ _ (.inl rfl) e,c⟩
 | set S n=>obtain⟨ob,es,ep,t,e,c⟩:=x;exact⟨ob,es,ep,t,k _ _ (.inl rfl) e,c⟩
 | ins C dx fs=>
  obtain⟨d,z,ne,e,mA,⟨od,es,ep,e2,c⟩,r⟩:=x;exact⟨ho _ d,z,ne,k _ _ (.inl rfl) e,mA,⟨od,es,ep,k _ _ (.inr d) e2,c⟩,r⟩
 | own y=>obtain⟨ob,e⟩:=x;exact⟨ob,k _ _ (.inl rfl) e⟩
 | xd fs=>obtain⟨mA,⟨od,es,ep,e,c⟩,r⟩:=x;exact⟨mA,⟨od,es,ep,k _ _ (.inl rfl) e,c⟩,r⟩
 | rng lo hi=>obtain⟨t,u,v,e⟩:=x;exact⟨t,u,v,k _ _ (.inl rfl) e⟩
 | frz ob u ih=>obtain⟨e,q⟩:=x;exact⟨k _ _ (.inl rfl) e,ih q⟩
 | tbl ps=>
  have e:h.get? a=some { cls:=.none,data:=.fields ps }:=x;show h'.get? a=some { cls:=.none,data:=.fields ps };exact k a _ (.inl rfl) e
 | met f y=>
  have e:h.get? a=some (PX (.ref f) (.ref y)):=x;show h'.get? a=some (PX (.ref f) (.ref y));exact k a _ (.inl rfl) e
 | ext φ=>obtain⟨p,⟨o,e⟩,st⟩:=x;exact⟨st _ _ p λo q=>k _ _ (.inl rfl) q,⟨o,k _ _ (.inl rfl) e⟩,st⟩
theorem HOk.lt(x:HOk P w H h)(e:H a=some o):a < h.objs.size:=(x a o e).lt
theorem HOk.fresh(x:HOk P w H h)(e:h.objs.size<=a):H a=none:=by
 cases q:H a with
 | none=>rfl
 | some u=>exact zX (AT (x.lt q) e) (Ci _)
theorem HOk.kept(x:HOk P w H h)(k:∀b u,h.get? b=some u->h'.get? b=some u):HOk P w H h':=λa o e=>
 (x a o e).stay (λb u _ q=>k b u q) (λ_ q=>q) λ_ _ q=>q
theorem HOk.laid(x:HOk P w H h)(k:∀b u,h.get? b=some u->h'.get? b=some u)(hp:h.objs.size<=a)(new:Do P w (upd H a o) h' a o):HOk P w (upd H a o) h':=λb u e=>by
 have hn:=x.fresh hp
 by_cases hb:b=a
 ·subst hb;rw[B2]at e;cases e;exact new
 ·rw[Bj hb]at e
  exact(x b u e).stay (λc v _ q=>k c v q) (λc q=>by rw[Bj (Cm q hn)];exact q) λc xs q=>by rw[Bj (Cm q hn)];exact q
end
def Rd(H:Hp)(a:AW)(u:HO):Prop:=H a=some u∨∃o,H a=some (.frz o u)
theorem Rd.ok(r:Rd H a u)(x:HOk P w H h):Do P w H h a u:=by
 rcases r with r | ⟨o,r⟩
 ·exact x a u r
 ·obtain⟨_,q⟩:=x a _ r
  exact q
def Mut:Option HO->Prop
 | some (.lst _)=>True
 | some (.dK _)=>True
 | some (.dT _)=>True
 | some (.set _ _)=>True
 | some (.ins _ _ _)=>True
 | some (.ext _)=>True
 | _=>False
section
variable{P:Bg}{w:CL}{H:Hp}{h h':Cz}{x e:AW}
theorem HOk.write(ok:HOk P w H h)(mu:Mut (H x))(he:e=x∨H e=some (.own x))(k:∀b u,b≠e->h.get? b=some u->h'.get? b=some u)(zU:∃u,h'.get? e=some u)
  (new:Do P w (upd H x o') h' x o'):HOk P w (upd H x o') h':=λb u q=>by
 have M':∀c y,H c=some (.own y)->c≠x:=λc y r z=>by subst z;rw[r]at mu;exact mu
 have ntup:∀c xs,H c=some (.tup xs)->c≠x:=λc xs r z=>by subst z;rw[r]at mu;exact mu
 by_cases hb:b=x
 ·subst hb;rw[B2]at q;cases q;exact new
 ·rw[Bj hb]at q
  by_cases hbe:b=e
  ·have q':H b=some (.own x):=by
    rcases he with z | z
    ·exact zX (hbe.trans z) hb
    ·rw[hbe];exact z
   rw[q]at q';cases q';obtain⟨v,hv⟩:=zU;exact⟨v,by rw[hbe];exact hv⟩
  ·refine(ok b u q).stay (λc v hc r=>k c v ?_ r) (λc r=>by rw[Bj (M' c b r)];exact r) λc xs r=>by rw[Bj (ntup c xs r)];exact r
   rcases hc with rfl | hc
   ·exact hbe
   ·rintro rfl
    rcases he with z | z
    ·exact M' c b hc z
    ·rw[hc]at z;cases z;exact hb rfl
end
structure Un(fs ex:List AW)(H H':Hp)(h h':Cz):Prop where
 keep:∀b o,h.get? b=some o->H b=none->b∉fs->b∉ex->h'.get? b=some o
 slot:∀b o,h.get? b=some o->H b=none->b∈fs->b∉ex->∃sl,h'.get? b=some { o with slots:=sl }
 free:∀b o,h.get? b=some o->H b=none->b∉ex->H' b=none
 there:∀b o,h.get? b=some o->b∉ex->∃o',h'.get? b=some o'
 tups:∀b xs,H b=some (.tup xs)->H' b=some (.tup xs)
 frzs:∀b o u,H b=some (.frz o u)->H' b=some (.frz o u)
 tbls:∀b ps,H b=some (.tbl ps)->∃more,H' b=some (.tbl (ps++more))
section
variable{fs ex:List AW}{H H1:Hp}{h h1 h':Cz}{a x e:AW}{o:HO}
theorem Un.any(u:Un fs ex H H1 h h1)(q:h.get? b=some ob)(n:H b=none)(hx:b∉ex):∃sl,h1.get? b=some { ob with slots:=sl }:=by
 by_cases hb:b∈fs
 ·exact u.slot b ob q n hb hx
 ·exact⟨ob.slots,u.keep b ob q n hb hx⟩
theorem Un.kept(k:∀b u,h.get? b=some u->h'.get? b=some u):Un fs ex H H h h':=
 ⟨λb ob q _ _ _=>k b ob q,λb ob q _ _ _=>⟨ob.slots,k b ob q⟩,λ_ _ _ n _=>n,λb ob q _=>⟨ob,k b ob q⟩,λ_ _ q=>q,λ_ _ _ q=>q,λ_ ps q=>⟨#[],by rw[q];simp⟩⟩
theorem Un.refl:Un fs ex H H h h:=Un.kept λ_ _ q=>q
theorem Un.laid(k:∀b u,h.get? b=some u->h'.get? b=some u)(hp:h.objs.size<=a)(hn:H a=none):Un fs ex H (upd H a o) h h' where
 keep:=λb u q _ _ _=>k b u q
 slot:=λb u q _ _ _=>⟨u.slots,k b u q⟩
 free:=λb u q n _=>by rw[Bj (BE (AT (Ac q) hp))];exact n
 there:=λb u q _=>⟨u,k b u q⟩
 tups:=λb xs q=>by rw[Bj (Cm q hn)];exact q
 frzs:=λb u xs q=>by rw[Bj (Cm q hn)];exact q
 tbls:=λb ps q=>⟨#[],by rw[Bj (Cm q hn),q];simp⟩
theorem Un.write(mu:Mut (H x))(he:e=x∨H e=some (.own x))(k:∀b u,b≠e->h.get? b=some u->h'.get? b=some u)(zU:∃u,h'.get? e=some u):Un fs ex H (upd H x o) h h':=by
 have hx:∀b,H b=none->b≠x:=λb n z=>by subst z;rw[n]at mu;exact mu
 have hb:∀b,H b=none->b≠e:=λb n z=>by
  subst z
  rcases he with r | r
  ·exact hx b n r
  ·rw[n]at r;cases r
 have hm:∀b u,H b=some u->¬Mut (some u)->b≠x:=λb u q nm z=>by subst z;rw[q]at mu;exact nm mu
 refine⟨λb u q n _ _=>k b u (hb b n) q,λb u q n _ _=>⟨u.slots,k b u (hb b n) q⟩,λb u q n _=>by rw[Bj (hx b n)];exact n,λb u q _=>?_,
  λb xs q=>by rw[Bj (hm b _ q λz=>z)];exact q,λb u xs q=>by rw[Bj (hm b _ q λz=>z)];exact q,λb ps q=>⟨#[],by rw[Bj (hm b _ q λz=>z),q];simp⟩⟩
 by_cases hbe:b=e
 ·subst hbe;exact zU
 ·exact⟨u,k b u hbe q⟩
end
def trk(h:Cz)(H:Hp):List AW:=(DD h.objs.size).filter λa=>(H a).isSome
def XE(h:Cz)(H:Hp):Cz:=PySem.W.hideAll h (trk h H)
theorem da(h:Cz)(H:Hp):(XE h H).objs.size=h.objs.size:=PySem.W.hideAll_size _ _
theorem ib(e:h.get? b=some o)(n:H b=none):(XE h H).get? b=some o:=
 PySem.W.hideAll_get _ e λhm=>by
  have q:(H b).isSome=true:=(BM.mp hm).2;rw[n]at q;simp at q
theorem lz(e:(XE h H).get? b=some o):h.get? b=some o/\H b=none:=by
 have e':h.get? b=some o:=PySem.W.of_hideAll (trk h H) e;refine⟨e',?_⟩
 cases q:H b with
 | none=>rfl
 | some x=>
  have hm:b∈trk h H:=BM.mpr ⟨Oe.mpr (Ac e'),by simp[q]⟩;have z:(XE h H).get? b=none:=PySem.W.hideAll_none (trk h H) hm;rw[z]at e;cases e
structure Mod(K:AG)(mg:Str->Option AI)(base:Cz):Prop where
 kin:K.In base
 glob:base.Ns BZ mg
 blt:∃mb,base.Ns ZH mb/\∀x:Str,x≠"__name__"->mb x=Ix x
 nolimit:base.NoLimit
structure Cx where
 prog:Bg
 w:CL
 K:AG
 mg:Str->Option AI
 base:Cz
 A:CO
 N:List Str
 s₀:AQ
 H₀:Hp
 env:Env
 outer:List Env
 stack:List Env
 ex:List AW
 fn:Str->Bool
 calm:Bool
 pn:List (AW×Obj)
 xe:AI->AQ->Prop
def frs(l:List Env):List AW:=l.filterMap (·.frame)
abbrev Cx.fs(X:Cx):List AW:=frs X.outer
def Vis(sc:Uq)(x:Str):Prop:=sc.names.lookup x=some .local∨sc.names.lookup x=some .cell∨sc.names.lookup x=some .free
def Loc(sc:Uq)(x:Str):Prop:=sc.names.lookup x=some .local∨sc.names.lookup x=some .cell
def Look(env:Env)(h:Cz)(m:Str->Option AI)(x:Str)(u:AI):Prop:=
 (env.kindOf x=some .local/\m x=some u)∨((env.kindOf x=some .cell∨env.kindOf x=some .free)/\∃c,env.cells.lookup x=some c/\h.IsCell c (some u))
structure Cx.Ok(X:Cx):Prop where
 mod:Mod X.K X.mg X.base
 kind:X.env.scope.kind=.function
 glob:X.env.globals=BZ
 blt:X.env.builtins=ZH
 above:X.s₀.heap.objs.size<=X.env.locals
 inj:∀x y c,X.env.cells.lookup x=some c->X.env.cells.lookup y=some c->x=y
 has:∀x,(X.env.kindOf x=some .cell∨X.env.kindOf x=some .free)->∃c,X.env.cells.lookup x=some c
 cab:∀x c,X.fn x=true->X.env.cells.lookup x=some c->X.s₀.heap.objs.size<=c
 hd:X.calm=true->X.A.handled=none
 frames:X.A.frames=some X.stack
 stk:X.stack=X.outer∨(X.stack=X.env :: X.outer/\X.env.frame=some X.env.locals)
 exf:∀b∈X.ex,b≠X.env.locals/\∀x c,X.env.cells.lookup x=some c->c≠b
 bs:∀b o,X.base.get? b=some o->X.s₀.heap.get? b=some o/\X.H₀ b=none
 bsz:X.base.objs.size<=X.s₀.heap.objs.size
 noex:∀b o,X.base.get? b=some o->b∉X.ex
 exfs:∀b∈X.ex,b∉X.fs
 funs:X.s₀.heap.FunFrames X.base X.outer
 frf:∀b∈X.fs,X.H₀ b=none
structure Inv(X:Cx)(ζ:List (AW×Obj))(σ:List (Option V))(H:Hp)(s:AQ):Prop where
 ok:X.Ok
 os:s.os=X.s₀.os
 bare:LQ s.gens
 base:Un X.fs X.ex X.H₀ H X.s₀.heap s.heap
 loc:∃m,s.heap.Ns X.env.locals m/\∀(i:Nat) (x:Str) (v:V),X.N[i]?=some x->σ[i]?=some (some v)->Vis X.env.scope x->∃u,RelV v u/\Look X.env s.heap m x u
 cell:∀x c,X.env.cells.lookup x=some c->∃v,s.heap.IsCell c v
 free:H X.env.locals=none
 freeC:∀x c,X.env.cells.lookup x=some c->H c=none
 pin:∀p∈X.pn++ζ,s.heap.get? p.1=some p.2/\H p.1=none/\p.1≠X.env.locals/\p.1∉X.fs/\∀v,p.2.data≠.cell v
 hok:HOk X.prog X.w H s.heap
 len:σ.length=X.N.length
section
variable{X:Cx}{ζ:List (AW×Obj)}{σ:List (Option V)}{H H':Hp}{s:AQ}{h':Cz}
theorem Cx.Ok.nofr(ok:X.Ok)(e:X.base.get? b=some o):b∉X.fs:=λhb=>by
 have:=(ok.funs.mem hb).1;rw[e]at this;cases this
theorem Inv.bs(I:Inv X ζ σ H s):∀b o,X.base.get? b=some o->s.heap.get? b=some o/\H b=none:=λb o e=>
 ⟨I.base.keep b o (I.ok.bs b o e).1 (I.ok.bs b o e).2 (I.ok.nofr e) (I.ok.noex b o e),I.base.free b o (I.ok.bs b o e).1 (I.ok.bs b o e).2 (I.ok.noex b o e)⟩
theorem Inv.bk(I:Inv X ζ σ H s):∀b o,X.base.get? b=some o->s.heap.get? b=some o:=λb o e=>(I.bs b o e).1
theorem Inv.mod(I:Inv X ζ σ H s):Mod X.K X.mg X.base:=I.ok.mod
theorem Inv.kIn(I:Inv X ζ σ H s):X.K.In s.heap:=I.ok.mod.kin.keeps I.bk
theorem Inv.lt(I:Inv X ζ σ H s):X.env.locals < s.heap.objs.size:=let ⟨_,hn,_⟩:=I.loc;hn.lt
theorem Inv.sz(I:Inv X ζ σ H s):X.s₀.heap.objs.size<=s.heap.objs.size:=At I.ok.above (NM I.lt)
theorem Inv.nofs(I:Inv X ζ σ H s)(h:s.heap.objs.size<=a):a∉X.fs:=λhb=>by
 obtain⟨_,o,ho,_⟩:=I.ok.funs.mem hb;exact zX (AT (Ac ho) (At I.sz h)) (Ci _)
theorem Inv.cne(I:Inv X ζ σ H s):∀x c,X.env.cells.lookup x=some c->c≠X.env.locals:=λx c e z=>by
 obtain⟨v,o,ho,hd⟩:=I.cell x c e;obtain⟨m,⟨o',es,ep,xO,y9,_⟩,_⟩:=I.loc;rw[z,xO]at ho;cases ho;rw[y9]at hd;cases hd
theorem Inv.funs(I:Inv X ζ σ H s):s.heap.FunFrames X.base X.outer:=by
 have all:∀(l:List Env),(∀b∈frs l,b∈X.fs)->X.s₀.heap.FunFrames X.base l->s.heap.FunFrames X.base l:=by
  intro l
  induction l with
  | nil=>intro _ _;trivial
  | cons env r ih=>
   intro hs hl;obtain⟨hk,⟨L,o,hf,hn,ho,hd⟩,hr⟩:=hl;have hL:L∈X.fs:=hs L (by unfold frs;rw[PR,hf];exact AV)
   obtain⟨sl,e⟩:=I.base.slot L o ho (I.ok.frf L hL) hL λz=>I.ok.exfs L z hL
   exact⟨hk,⟨L,_,hf,hn,e,hd⟩,ih (λb hb=>hs b (by unfold frs;rw[PR,hf];exact AS _ hb)) hr⟩
 exact all X.outer (λ_ hb=>hb) I.ok.funs
theorem Inv.stack(I:Inv X ζ σ H s):s.heap.FunFrames X.base X.stack:=by
 rcases I.ok.stk with e | ⟨e,hf⟩
 ·rw[e];exact I.funs
 ·rw[e]
  obtain⟨m,hn,_⟩:=I.loc;refine .cons (by rw[I.ok.kind];decide) hf hn ?_ I.funs;exact Cz.get?_none_of_le (At I.ok.bsz I.ok.above)
theorem Inv.stkSub(I:Inv X ζ σ H s):∀b∈frs X.stack,b∈X.env.locals :: X.fs:=λb hb=>by
 rcases I.ok.stk with e | ⟨e,hf⟩
 ·rw[e]at hb;exact AS _ hb
 ·rw[e]at hb
  unfold frs at hb;rw[PR,hf]at hb;exact hb
theorem Inv.stkFree(I:Inv X ζ σ H s):∀b∈frs X.stack,H b=none:=λb hb=>by
 rcases Ae.mp (I.stkSub b hb)with e | hb
 ·rw[e];exact I.free
 ·obtain⟨_,o,ho,_⟩:=I.ok.funs.mem hb
  exact I.base.free b o ho (I.ok.frf b hb) λz=>I.ok.exfs b z hb
theorem Inv.step{g':Array GenState}{t':Nat}{d':Drawn}{ch:List AW}(I:Inv X ζ σ H s)
  (xX:∀b∈ch,(b∈X.ex∨X.s₀.heap.objs.size<=b)/\b≠X.env.locals/\(∀x c,X.env.cells.lookup x=some c->c≠b)/\∀p∈X.pn++ζ,p.1≠b)
  (keep:∀b o,b≠X.env.locals->b∉X.fs->b∉ch->s.heap.get? b=some o->H b=none->h'.get? b=some o)
  (slot:∀b o,b≠X.env.locals->b∈X.fs->b∉ch->s.heap.get? b=some o->H b=none->∃sl,h'.get? b=some { o with slots:=sl }) (free:∀b o,b∉ch->s.heap.get? b=some o->H b=none->H' b=none)
  (there:∀b o,b∉ch->s.heap.get? b=some o->∃o',h'.get? b=some o')
  (tups:∀b xs,H b=some (.tup xs)->H' b=some (.tup xs)) (frzs:∀b o u,H b=some (.frz o u)->H' b=some (.frz o u)) (tbls:∀b ps,H b=some (.tbl ps)->∃more,H' b=some (.tbl (ps++more)))
  (ns:∀m,s.heap.Ns X.env.locals m->h'.Ns X.env.locals m) (hok:HOk X.prog X.w H' h') (hg:LQ g') :
  Inv X ζ σ H' { s with heap:=h',gens:=g',drawn:=d',toks:=t' }:=by
 have neL:∀b o,X.s₀.heap.get? b=some o->b≠X.env.locals:=λb o e=>BE (AT (Ac e) I.ok.above)
 have neC:∀b o,X.s₀.heap.get? b=some o->b∉X.ex->b∉ch:=λb o e hx hb=>by
  rcases(xX b hb).1 with z | z
  ·exact hx z
  ·exact zX (AT (Ac e) z) (Ci _)
 have cellK:∀x c,X.env.cells.lookup x=some c->∀v,s.heap.IsCell c v->h'.IsCell c v:=λx c e v ⟨o,ho,hd⟩=>by
  have U':c∉ch:=λz=>(xX c z).2.2.1 x c e rfl
  by_cases hc:c∈X.fs
  ·obtain⟨sl,q⟩:=slot c o (I.cne x c e) hc U' ho (I.freeC x c e)
   exact⟨_,q,hd⟩
  ·exact⟨o,keep c o (I.cne x c e) hc U' ho (I.freeC x c e),hd⟩
 refine⟨I.ok,I.os,hg,⟨λb o e n hb hx=>?_,λb o e n hb hx=>?_,λb o e n hx=>?_,λb o e hx=>?_,λb xs e=>tups b xs (I.base.tups b xs e),λb o xs e=>frzs b o xs (I.base.frzs b o xs e),λb ps e=>?_⟩,?_,λx c e=>?_,?_,λx c e=>?_,λp hp=>?_,hok,I.len⟩
 ·exact keep b o (neL b o e) hb (neC b o e hx) (I.base.keep b o e n hb hx) (I.base.free b o e n hx)
 ·obtain⟨sl,e1⟩:=I.base.slot b o e n hb hx
  obtain⟨sl',e2⟩:=slot b _ (neL b o e) hb (neC b o e hx) e1 (I.base.free b o e n hx);exact⟨sl',e2⟩
 ·obtain⟨o',e1⟩:=I.base.there b o e hx
  exact free b o' (neC b o e hx) e1 (I.base.free b o e n hx)
 ·obtain⟨o',e1⟩:=I.base.there b o e hx
  exact there b o' (neC b o e hx) e1
 ·obtain⟨m1,e1⟩:=I.base.tbls b ps e
  obtain⟨m2,e2⟩:=tbls b _ e1;exact⟨m1++m2,by rw[e2,Array.append_assoc]⟩
 ·obtain⟨m,hn,hl⟩:=I.loc
  refine⟨m,ns m hn,λi x v e1 e2 e3=>?_⟩;obtain⟨u,r,l⟩:=hl i x v e1 e2 e3;refine⟨u,r,?_⟩
  rcases l with l | ⟨k,c,e,z⟩
  ·exact .inl l
  ·exact .inr ⟨k,c,e,cellK x c e _ z⟩
 ·obtain⟨v,z⟩:=I.cell x c e
  exact⟨v,cellK x c e v z⟩
 ·obtain⟨m,⟨o,_,_,ho,_⟩,_⟩:=I.loc
  exact free _ o (λz=>(xX _ z).2.1 rfl) ho I.free
 ·obtain⟨v,o,ho,hd⟩:=I.cell x c e
  exact free c o (λz=>(xX c z).2.2.1 x c e rfl) ho (I.freeC x c e)
 ·obtain⟨e,n,ne,nf,d⟩:=I.pin p hp
  have U':p.1∉ch:=λz=>(xX p.1 z).2.2.2 p hp rfl
  exact⟨keep p.1 p.2 ne nf U' e n,free p.1 p.2 U' e n,ne,nf,d⟩
theorem Inv.un{t':Nat}(I:Inv X ζ σ H s)(u:Un X.fs [] H H' s.heap h')(hok:HOk X.prog X.w H' h'):Inv X ζ σ H' { s with heap:=h',toks:=t' }:=by
 obtain⟨m,⟨o,es,ep,ho,r⟩,_⟩:=id I.loc;obtain⟨sl,hL⟩:=u.any ho I.free (by simp)
 exact I.step (g':=s.gens) (d':=s.drawn) (ch:=[]) (λ_ z=>nomatch z) (λb o _ hb _ e n=>u.keep b o e n hb (by simp)) (λb o _ hb _ e n=>u.slot b o e n hb (by simp)) (λb o _ e n=>u.free b o e n (by simp)) (λb o _ e=>u.there b o e (by simp)) u.tups u.frzs u.tbls (λm' hm=>by
  obtain⟨o',es',ep',xO,r'⟩:=hm;rw[ho]at xO;cases xO
  exact⟨_,es',ep',hL,r'⟩) hok I.bare
theorem Inv.call{g':Array GenState}{t':Nat}{d':Drawn}{ch:List AW}(I:Inv X ζ σ H s)(u:Un (frs X.stack) ch H H' s.heap h')(hok:HOk X.prog X.w H' h')(hg:LQ g')
  (xX:∀b∈ch,(b∈X.ex∨X.s₀.heap.objs.size<=b)/\b≠X.env.locals/\(∀x c,X.env.cells.lookup x=some c->c≠b)/\∀p∈X.pn++ζ,p.1≠b) :
  Inv X ζ σ H' { s with heap:=h',gens:=g',drawn:=d',toks:=t' }:=by
 obtain⟨m,⟨o,es,ep,ho,r⟩,_⟩:=id I.loc
 obtain⟨sl,hL⟩:=u.any ho I.free λz=>(xX _ z).2.1 rfl
 exact I.step (ch:=ch) xX (λb o hL hb hc e n=>u.keep b o e n (λz=>(Ae.mp (I.stkSub b z)).elim hL hb) hc) (λb o _ _ hc e n=>u.any e n hc) (λb o hc e n=>u.free b o e n hc) (λb o hc e=>u.there b o e hc) u.tups u.frzs u.tbls (λm' hm=>by
  obtain⟨o',es',ep',xO,r'⟩:=hm;rw[ho]at xO;cases xO
  exact⟨_,es',ep',hL,r'⟩) hok hg
theorem Inv.turned{t':Nat}{it:AW}(I:Inv X ζ σ H s)(k:∀b o,b≠it->s.heap.get? b=some o->h'.get? b=some o)(hn:H it=none)(hL:it≠X.env.locals)
  (h1:it∈X.ex∨X.s₀.heap.objs.size<=it) (h2:∀x c,X.env.cells.lookup x=some c->c≠it) (h3:∀p∈X.pn++ζ,p.1≠it):Inv X ζ σ H { s with heap:=h',toks:=t' }:=by
 have V':∀b u,H b=some u->b≠it:=λb u e z=>by rw[z,hn]at e;cases e
 refine I.step (g':=s.gens) (d':=s.drawn) (ch:=[it]) (λb hb=>?_) (λb o _ _ hc e _=>k b o (λz=>hc (by simp[z])) e) (λb o _ _ hc e _=>⟨o.slots,k b o (λz=>hc (by simp[z])) e⟩) (λ_ _ _ _ n=>n)
  (λb o hc e=>⟨o,k b o (λz=>hc (by simp[z])) e⟩) (λ_ _ e=>e) (λ_ _ _ e=>e) (λb ps e=>⟨#[],by rw[e];simp⟩) (λm hm=>?_) (λb u e=>?_) I.bare
 ·have e:b=it:=by simpa using hb
  subst e;exact⟨h1,hL,h2,h3⟩
 ·obtain⟨o,es,ep,ho,r⟩:=hm
  exact⟨o,es,ep,k _ o (Br hL) ho,r⟩
 ·refine(I.hok b u e).stay (λc v hc q=>k c v ?_ q) (λ_ q=>q) λ_ _ q=>q
  rcases hc with z | z
  ·rw[z];exact V' b u e
  ·exact V' c _ z
theorem Inv.tok(I:Inv X ζ σ H s)(t:Nat):Inv X ζ σ H { s with toks:=t }:=I.un (h':=s.heap) (t':=t) Un.refl I.hok
theorem Inv.kept(I:Inv X ζ σ H s)(k:∀b u,s.heap.get? b=some u->h'.get? b=some u):Inv X ζ σ H { s with heap:=h',toks:=t' }:=I.un (Un.kept k) (I.hok.kept k)
theorem Inv.laid(I:Inv X ζ σ H s)(k:∀b u,s.heap.get? b=some u->h'.get? b=some u)(hp:s.heap.objs.size<=a)(new:Do X.prog X.w (upd H a o) h' a o) :
  Inv X ζ σ (upd H a o) { s with heap:=h',toks:=t' }:=I.un (Un.laid k hp (I.hok.fresh hp)) (I.hok.laid k hp new)
theorem Inv.write(I:Inv X ζ σ H s)(mu:Mut (H x))(he:e=x∨H e=some (.own x))(k:∀b u,b≠e->s.heap.get? b=some u->h'.get? b=some u)(zU:∃u,h'.get? e=some u)
  (new:Do X.prog X.w (upd H x o) h' x o):Inv X ζ σ (upd H x o) { s with heap:=h',toks:=t' }:=I.un (Un.write mu he k zU) (I.hok.write mu he k zU new)
theorem Inv.pins_of(I:Inv X ζ σ H s)(h:∀p∈pins',s.heap.get? p.1=some p.2/\H p.1=none/\p.1≠X.env.locals/\p.1∉X.fs/\∀v,p.2.data≠.cell v):Inv X pins' σ H s:=
 ⟨I.ok,I.os,I.bare,I.base,I.loc,I.cell,I.free,I.freeC,λp hp=>(Ax.mp hp).elim (λz=>I.pin p (BN _ z)) (h p),I.hok,I.len⟩
theorem YY{N:List Str}(hN:N.Nodup){i j:Nat}{x:Str}(a:N[i]?=some x)(b:N[j]?=some x):i=j:=by
 obtain⟨h1,e1⟩:=AD.mp a;obtain⟨h2,e2⟩:=AD.mp b;exact(jd hN).mp (e1.trans e2.symm)
theorem Vd{M:Model}{A:CO}{E:AI->AQ->Prop}{i:Nat}{x:Str}{v:V}{u:AI}{Q:Unit->AQ->Prop}(I:Inv X ζ σ H s)(hN:X.N.Nodup)(hi:X.N[i]?=some x)(hx:Loc X.env.scope x)(r:RelV v u)
  (h:∀s',Inv X ζ (σ.set i (some v)) H s'->(∃a,FE a s.heap s'.heap/\(a=X.env.locals∨X.env.cells.lookup x=some a))->Q () s') (hf:X.fn x=true∨X.env.scope.names.lookup x=some .local:=by first | exact .inl rfl | exact .inr rfl | assumption):Ag M A (tO X.env x u) Q E s:=by
 obtain⟨m,hn,hl⟩:=id I.loc
 have hcls:(X.env.scope.kind==.class||(X.env.scope.kind==.module&&X.env.locals != X.env.globals))=false:=by rw[I.ok.kind];rfl
 have hiσ:i < σ.length:=by rw[I.len];exact(AD.mp hi).1
 have cne:=I.cne
 have tracked:∀{a:AW} {h':Cz},(∃o,s.heap.get? a=some o/\H a=none)->FE a s.heap h'->HOk X.prog X.w H h':=λ{a h'} ha hs b ob e=>by
  obtain⟨_,_,xF⟩:=ha
  refine(I.hok b ob e).stay (λc w' hc q=>(hs.2 c ?_).trans q) (λ_ q=>q) λ_ _ q=>q
  rintro rfl
  rcases hc with rfl | hc
  ·rw[xF]at e;cases e
  ·rw[xF]at hc;cases hc
 rcases hx with hk | hk
 ·refine wpAny_storeName_local hk hn (λh' xg hs=>?_) hcls
  obtain⟨oL,_,_,hoL,_⟩:=id hn;refine h _ ⟨I.ok,I.os,I.bare,⟨λb o e n hb hx=>?_,λb o e n hb hx=>?_,I.base.free,λb o e hx=>?_,I.base.tups,I.base.frzs,I.base.tbls⟩,⟨_,xg,λj y v' e1 e2 e3=>?_⟩,λy c e=>?_,I.free,I.freeC,λp hp=>?_,tracked ⟨oL,hoL,I.free⟩ hs,by simpa using I.len⟩ ⟨_,hs,.inl rfl⟩
  ·exact(hs.2 b (BE (AT (Ac e) I.ok.above))).trans (I.base.keep b o e n hb hx)
  ·obtain⟨sl,e1⟩:=I.base.slot b o e n hb hx
   exact⟨sl,(hs.2 b (BE (AT (Ac e) I.ok.above))).trans e1⟩
  ·obtain⟨o',e1⟩:=I.base.there b o e hx
   exact⟨o',(hs.2 b (BE (AT (Ac e) I.ok.above))).trans e1⟩
  ·by_cases hj:j=i
   ·subst hj
    rw[hi]at e1;cases e1;rw[Aq hiσ]at e2;cases e2;exact⟨u,r,.inl ⟨hk,by simp⟩⟩
   ·rw[Ab (Br hj)]at e2
    obtain⟨u',r',q⟩:=hl j y v' e1 e2 e3;refine⟨u',r',?_⟩
    rcases q with⟨k,e⟩ | ⟨k,c,e,z⟩
    ·refine .inl ⟨k,?_⟩
     have:y≠x:=λe=>hj (YY hN e1 (e▸hi))
     simp[this,e]
    ·exact .inr ⟨k,c,e,z.sameBut hs (cne y c e)⟩
  ·obtain⟨w',z⟩:=I.cell y c e
   exact⟨w',z.sameBut hs (cne y c e)⟩
  ·obtain⟨e,n,ne,nf,d⟩:=I.pin p hp
   exact⟨(hs.2 p.1 ne).trans e,n,ne,nf,d⟩
 ·have hfn:X.fn x=true:=by
   rcases hf with z | z
   ·exact z
   ·rw[z]at hk;cases hk
  obtain⟨c,hc⟩:=I.ok.has x (.inl hk);obtain⟨w',z⟩:=I.cell x c hc;refine wpAny_storeName_cell I.ok.kind hk hc z (λh' wM hs=>?_);obtain⟨oc,hoc,hocd⟩:=id z;refine h { s with heap:=h' } ⟨I.ok,I.os,I.bare,⟨λb o e n hb hx=>?_,λb o e n hb hx=>?_,I.base.free,λb o e hx=>?_,I.base.tups,I.base.frzs,I.base.tbls⟩,⟨m,hn.sameBut hs (Br (cne x c hc)),λj y v' e1 e2 e3=>?_⟩,λy c' e=>?_,I.free,I.freeC,λp hp=>?_,tracked ⟨oc,hoc,I.freeC x c hc⟩ hs,by simpa using I.len⟩ ⟨c,hs,.inr hc⟩
  ·exact(hs.2 b (BE (AT (Ac e) (I.ok.cab x c hfn hc)))).trans (I.base.keep b o e n hb hx)
  ·obtain⟨sl,e1⟩:=I.base.slot b o e n hb hx
   exact⟨sl,(hs.2 b (BE (AT (Ac e) (I.ok.cab x c hfn hc)))).trans e1⟩
  ·obtain⟨o',e1⟩:=I.base.there b o e hx
   exact⟨o',(hs.2 b (BE (AT (Ac e) (I.ok.cab x c hfn hc)))).trans e1⟩
  ·by_cases hj:j=i
   ·subst hj
    rw[hi]at e1;cases e1;rw[Aq hiσ]at e2;cases e2;exact⟨u,r,.inr ⟨.inl hk,c,hc,wM⟩⟩
   ·rw[Ab (Br hj)]at e2
    obtain⟨u',r',q⟩:=hl j y v' e1 e2 e3;refine⟨u',r',?_⟩
    rcases q with q | ⟨k,c',e,z'⟩
    ·exact .inl q
    ·refine .inr ⟨k,c',e,z'.sameBut hs ?_⟩
     rintro rfl;exact hj (YY hN e1 (I.ok.inj _ _ _ e hc▸hi))
  ·by_cases hcc:c'=c
   ·subst hcc;exact⟨_,wM⟩
   ·obtain⟨w2,z2⟩:=I.cell y c' e
    exact⟨w2,z2.sameBut hs hcc⟩
  ·obtain⟨e,n,ne,nf,d⟩:=I.pin p hp
   refine⟨(hs.2 p.1 ?_).trans e,n,ne,nf,d⟩;intro q;rw[q,hoc]at e;have q':oc=p.2:=Bw e;exact d w' (by rw[<-q'];exact hocd)
theorem TR(I:Inv X ζ σ H s)(hN:X.N.Nodup)(hi:X.N[i]?=some x)(hx:Loc X.env.scope x)(r:RelV v u)
  (h:∀s',Inv X ζ (σ.set i (some v)) H s'->Q () s') (hf:X.fn x=true∨X.env.scope.names.lookup x=some .local:=by first | exact .inl rfl | exact .inr rfl | assumption):Ag M A (tO X.env x u) Q E s:=
 Vd I hN hi hx r (λs' I' _=>h s' I') hf
theorem Inv.call'(I:Inv X ζ σ H s)(ho:s'.os=s.os)(u:Un (frs X.stack) ch H H' s.heap s'.heap)(hok:HOk X.prog X.w H' s'.heap)(hg:LQ s'.gens)
  (xX:∀b∈ch,(b∈X.ex∨X.s₀.heap.objs.size<=b)/\b≠X.env.locals/\(∀x c,X.env.cells.lookup x=some c->c≠b)/\∀p∈X.pn++ζ,p.1≠b):Inv X ζ σ H' s':=by
 obtain⟨h',g',d',t',o'⟩:=s';have e:o'=s.os:=ho;subst e;exact I.call (g':=g') (t':=t') (d':=d') u hok hg xX
end
abbrev XK:=AI->Option AW->Hp->Prop
abbrev St:=List (Option V)
abbrev VK:=V->Hp->Prop
abbrev TE:=St->Hp->VK->Prop
abbrev TT:=St->Hp->(Bool->Hp->Prop)->Prop
abbrev TA:=St->Hp->(List V->Hp->Prop)->Prop
structure eG where
 nx:St->Hp->Prop
 rt:VK
 bk:St->Hp->Prop:=λ_ _=>False
 ct:St->Hp->Prop:=λ_ _=>False
abbrev TS:=eG->St->Hp->Prop
def EP(X:Cx)(ζ:List (AW×Obj))(σ:St)(Q:VK)(u:AI)(s':AQ):Prop:=∃v H',Inv X ζ σ H' s'/\RelV v u/\Q v H'
def TP(X:Cx)(ζ:List (AW×Obj))(σ:St)(Q:Bool->Hp->Prop)(b:Bool)(s':AQ):Prop:=∃H',Inv X ζ σ H' s'/\Q b H'
def AP(X:Cx)(ζ:List (AW×Obj))(σ:St)(Q:List V->Hp->Prop)(us:List AI)(s':AQ):Prop:=∃vs H',Inv X ζ σ H' s'/\Bv vs us/\Q vs H'
def SP(X:Cx)(ζ:List (AW×Obj))(D:eG)(f:Flow)(s':AQ):Prop:=
 match f with
 | .next=>∃σ' H',Inv X ζ σ' H' s'/\D.nx σ' H'
 | .brk=>∃σ' H',Inv X ζ σ' H' s'/\D.bk σ' H'
 | .cont=>∃σ' H',Inv X ζ σ' H' s'/\D.ct σ' H'
 | .ret u=>∃v σ' H',Inv X ζ σ' H' s'/\RelV v u/\D.rt v H'
def PE(X:Cx)(e:Expr)(t:TE):Prop:=
 ∀(ζ:List (AW×Obj)) (s:AQ) (σ:St) (H:Hp) (Q:VK),Inv X ζ σ H s->t σ H Q->Ag (Ap X.prog X.w) X.A (Cj e X.env) (EP X ζ σ Q) X.xe s
def PT(X:Cx)(e:Expr)(t:TT):Prop:=
 ∀(ζ:List (AW×Obj)) (s:AQ) (σ:St) (H:Hp) (Q:Bool->Hp->Prop),Inv X ζ σ H s->t σ H Q->Ag (Ap X.prog X.w) X.A (ZE e X.env (Cj e X.env)) (TP X ζ σ Q) X.xe s
def PW(X:Cx)(e:Expr)(t:TT):Prop:=
 ∀(whole:Sem AI) (ζ:List (AW×Obj)) (s:AQ) (σ:St) (H:Hp) (Q:Bool->Hp->Prop),Inv X ζ σ H s->t σ H Q->Ag (Ap X.prog X.w) X.A (ZE e X.env whole) (TP X ζ σ Q) X.xe s
theorem PW.pt(h:PW X e t):PT X e t:=h _
def PA(X:Cx)(es:List Expr)(t:TA):Prop:=
 ∀(pos:Pos) (ζ:List (AW×Obj)) (s:AQ) (σ:St) (H:Hp) (Q:List V->Hp->Prop),Inv X ζ σ H s->t σ H Q->Ag (Ap X.prog X.w) X.A (spliced (EB pos (Ad es X.env))) (AP X ζ σ Q) X.xe s
def PS(X:Cx)(st:C2)(t:TS):Prop:=
 ∀(ζ:List (AW×Obj)) (s:AQ) (σ:St) (H:Hp) (D:eG),Inv X ζ σ H s->t D σ H->Ag (Ap X.prog X.w) X.A (exec st X.env) (SP X ζ D) X.xe s
def PSs(X:Cx)(st:List C2)(t:TS):Prop:=
 ∀(ζ:List (AW×Obj)) (s:AQ) (σ:St) (H:Hp) (D:eG),Inv X ζ σ H s->t D σ H->Ag (Ap X.prog X.w) X.A (execs st X.env) (SP X ζ D) X.xe s
theorem thn{α:Type}{t:Sem α}{Q Q':α->AQ->Prop}{M:Model}{A:CO}{E:AI->AQ->Prop}{s:AQ}(h:Ag M A t Q E s)(hQ:∀a s,Q a s->Q' a s):Ag M A t Q' E s:=Ei h hQ λ_ _ x=>x
section
variable{X:Cx}
def pX(i:Nat):TE:=λσ H Q=>∃v,σ[i]?=some (some v)/\Q v H
def tC(v:V):TE:=λ_ H Q=>Q v H
theorem qR(hN:X.N[i]?=some x)(hv:Vis X.env.scope x)(hd:(x==("__debug__" : Str))=false:=by decide) (xP:(x==("__classdict__" : Str))=false:=by decide):PE X (.Name x pos) (pX i):=by
 intro ζ s σ H Q I h;obtain⟨v,e,h⟩:=h;obtain⟨m,hn,hl⟩:=I.loc;obtain⟨u,r,l⟩:=hl i x v hN e hv;have fin:EP X ζ σ Q u s:=⟨v,H,I,r,h⟩
 rcases l with⟨hk,hm⟩ | ⟨hk,c,hc,wF⟩
 ·exact oi (jg I.ok.kind hk hn hm fin) hd
 ·rcases hk with hk | hk
  ·exact oi (nX I.ok.kind hk hc wF fin) hd
  ·exact oi (wpAny_loadName_free I.ok.kind hk hc wF fin xP) hd
theorem gm{i j pos}:PE X (.Constant (.int i) j pos) (tC (.int i)):=λ_ _ _ H _ I h=>wpAny_Constant_int ⟨.int i,H,I.tok _,⟨_,rfl⟩,h⟩
theorem uc{b j pos}:PE X (.Constant (.bool b) j pos) (tC (.bl b)):=λ_ _ _ H _ I h=>Constant_bool ⟨.bl b,H,I,rfl,h⟩
theorem qU{j pos}:PE X (.Constant .none j pos) (tC .non):=λ_ _ _ H _ I h=>Constant_none ⟨.non,H,I,rfl,h⟩
theorem qT{x j pos}:PE X (.Constant (.str x) j pos) (tC (.str x)):=λ_ _ _ H _ I h=>Calls.Constant_str ⟨.str x,H,I.tok _,⟨_,rfl⟩,h⟩
def Gl(X:Cx)(x:Str):Prop:=X.env.kindOf x=some .globalImplicit
theorem W9(I:Inv X ζ σ H s)(hg:Gl X x)(hm:X.mg x=some u)(h:Q u s)
  (hd:(x==("__debug__" : Str))=false:=by decide):Ag (Ap X.prog X.w) X.A (Cj (.Name x pos) X.env) Q E s:=
 Ut I.ok.kind hg (Calls.loadGlobal_global (by rw[I.ok.glob];exact I.mod.glob.keeps I.bk) hm h) hd
theorem Qx(I:Inv X ζ σ H s)(hg:Gl X x)(hm:X.mg x=none)(hv:Ix x=some u)(h:Q u s)
  (hn:x≠"__name__":=by decide) (hd:(x==("__debug__" : Str))=false:=by decide):Ag (Ap X.prog X.w) X.A (Cj (.Name x pos) X.env) Q E s:=by
 obtain⟨mb,h1,h2⟩:=I.mod.blt;exact Ut I.ok.kind hg (Calls.loadGlobal_builtin (by rw[I.ok.glob];exact I.mod.glob.keeps I.bk) hm (by rw[I.ok.blt];exact h1.keeps I.bk) ((h2 x hn).trans hv) h) hd
theorem lX(hg:Gl X x)(hm:X.mg x=some u)(r:RelV v u)(hd:(x==("__debug__" : Str))=false:=by decide):PE X (.Name x pos) (tC v):=
 λ_ _ _ H _ I h=>W9 I hg hm ⟨v,H,I,r,h⟩ hd
variable{a b:Expr}{ta tb:TE}{pos:Pos}
def PC(X:Cx)(op:CmpOp)(a b:Expr)(t:TE):Prop:=
 ∀(ζ:List (AW×Obj)) (s:AQ) (σ:St) (H:Hp) (Q:VK),Inv X ζ σ H s->t σ H Q ->
  Ag (Ap X.prog X.w) X.A (Cj a X.env) (λv s₁=>Ag (Ap X.prog X.w) X.A (Cj b X.env) (λu s₂=>Ag (Ap X.prog X.w) X.A (Bu op v u) (EP X ζ σ Q) X.xe s₂) X.xe s₁) X.xe s
def tB(t:TE):TT:=λσ H Q=>t σ H λx H1=>∃c,x=.bl c/\Q c H1
theorem qZ(h:PC X op a b t)(h1:Co op b=false:=by first | exact nobehind _ (by decide) (by decide) | rfl):PE X (.Compare a [op] [b] pos) t:=λζ s σ H Q I hw=>wpAny_Compare1 (h ζ s σ H Q I hw) h1
theorem gc(h:PC X op a b t)(h1:Co op b=false:=by first | exact nobehind _ (by decide) (by decide) | rfl):PT X (.Compare a [op] [b] pos) (tB t):=by
 intro ζ s σ H Q I hw;refine ja (thn (h ζ s σ H _ I hw) λv s1 h1=>thn h1 λu s2 h2=>thn h2 λc s3 ⟨x,H1,I1,r1,q1⟩=>?_) h1;obtain⟨d,rfl,q⟩:=q1;cases r1;exact DZ ⟨H1,I1,q⟩
theorem qH(h:PE X e t)(he:∀whole,ZE e X.env whole=(do let v <-whole;Y4 e.pos;Oq [v] (om v)):=by intro _;rfl):PT X e (tB t):=by
 intro ζ s σ H Q I hw;refine isTrue_plain (thn (h ζ s σ H _ I hw) λv s1 ⟨x,H1,I1,r1,q1⟩=>?_) (he _);obtain⟨d,rfl,q⟩:=q1;cases r1;exact DZ ⟨H1,I1,q⟩
variable{tA tB':TT}{rest:List Expr}
def uJ(t u:TT):TT:=λσ H Q=>t σ H λc H1=>if c=true then u σ H1 Q else Q false H1
def tOr(t u:TT):TT:=λσ H Q=>t σ H λc H1=>if c=true then Q true H1 else u σ H1 Q
def tNot(t:TT):TT:=λσ H Q=>t σ H λc H1=>Q (!c) H1
theorem lD(ha:PT X a tA):PW X (.BoolOp .And [a] pos) tA:=by
 intro wh ζ s σ H Q I h;refine isTrue_and (thn (ha ζ s σ H Q I h) λc s1 e=>?_)
 cases c with
 | true=>exact isTrue_and_nil e
 | false=>exact e
theorem qF(ha:PT X a tA):PW X (.BoolOp .Or [a] pos) tA:=by
 intro wh ζ s σ H Q I h;refine isTrue_or (thn (ha ζ s σ H Q I h) λc s1 e=>?_)
 cases c with
 | false=>exact isTrue_or_nil e
 | true=>exact e
theorem qG(ha:PT X a tA)(hb:PW X (.BoolOp .And (b :: rest) pos) tB'):PW X (.BoolOp .And (a :: b :: rest) pos) (uJ tA tB'):=by
 intro wh ζ s σ H Q I h;refine isTrue_and (thn (ha ζ s σ H _ I h) λc s1 ⟨H1,I1,q1⟩=>?_)
 cases c with
 | true=>exact hb wh ζ s1 σ H1 Q I1 q1
 | false=>exact⟨H1,I1,q1⟩
theorem uW(ha:PT X a tA)(hb:PW X (.BoolOp .Or (b :: rest) pos) tB'):PW X (.BoolOp .Or (a :: b :: rest) pos) (tOr tA tB'):=by
 intro wh ζ s σ H Q I h;refine isTrue_or (thn (ha ζ s σ H _ I h) λc s1 ⟨H1,I1,q1⟩=>?_)
 cases c with
 | true=>exact⟨H1,I1,q1⟩
 | false=>exact hb wh ζ s1 σ H1 Q I1 q1
theorem qI(ha:PT X a tA):PT X (.UnaryOp .Not a pos) (tNot tA):=by
 intro ζ s σ H Q I h;exact isTrue_not (ha ζ s σ H (λc H1=>Q (!c) H1) I h)
def tIf(t:TT)(ta tb:TE):TE:=λσ H Q=>t σ H λc H1=>if c=true then ta σ H1 Q else tb σ H1 Q
theorem gn(hc:PT X c tA)(ha:PE X a ta)(hb:PE X b tb):PE X (.IfExp c a b pos) (tIf tA ta tb):=by
 intro ζ s σ H Q I h;refine wpAny_IfExp (thn (hc ζ s σ H _ I h) λd s1 ⟨H1,I1,q1⟩=>?_)
 cases d with
 | true=>exact ha ζ s1 σ H1 Q I1 q1
 | false=>exact hb ζ s1 σ H1 Q I1 q1
end
def SqL(K:AG)(H:Hp)(a:AW)(xs:List V):Prop:=
 Rd H a (.lst xs) ∨
  ∃(o:Obj) (tx:Array AI) (n:Nat),K.lookup a=some o/\o.cls=.type "list"/\o.dict=none/\o.data=.seq tx n/\tx.size<=sizeLine/\Bv xs tx.toList
def SqT(K:AG)(H:Hp)(a:AW)(xs:List V):Prop:=
 Rd H a (.tup xs) ∨
  ∃(o:Obj) (tx:Array AI) (n:Nat),K.lookup a=some o/\o.cls=.type "tuple"/\o.data=.seq tx n/\tx.size<=sizeLine/\Bv xs tx.toList
def absV:AI->Option V
 | .none=>some .non
 | .bool b=>some (.bl b)
 | .int i _=>some (.int i)
 | .str x _=>some (.str x)
 | .bytes b _=>some (.byt b)
 | .float b _=>some (.flt b)
 | .ref a=>some (.ref a)
 | .type n=>some (.ty n)
 | _=>none
theorem RelV.abs(r:RelV x u):absV u=some x:=by
 cases x with
 | non=>cases r;rfl
 | bl _=>cases r;rfl
 | int _=>obtain⟨t,rfl⟩:=r;rfl
 | str _=>obtain⟨t,rfl⟩:=r;rfl
 | byt _=>obtain⟨t,rfl⟩:=r;rfl
 | flt _=>obtain⟨t,rfl⟩:=r;rfl
 | ref _=>cases r;rfl
 | ty _=>cases r;rfl
theorem RelV.inj(r:RelV x u)(q:RelV y u):x=y:=Bw (r.abs.symm.trans q.abs)
theorem Bv.inj:∀{xs ys:List V} {us:List AI},Bv xs us->Bv ys us->xs=ys
 | _,_,_,.nil,.nil=>rfl
 | _,_,_,.cons r t,.cons r' t'=>by rw[r.inj r',Bv.inj t t']
section
variable{X:Cx}{ζ:List (AW×Obj)}{σ:St}{H:Hp}{s:AQ}{a:AW}{xs ys:List V}
theorem Inv.list(I:Inv X ζ σ H s)(h:SqL X.K H a xs):∃tx:List AI,Bv xs tx/\PlainL s.heap a tx.toArray/\xs.length<=sizeLine:=by
 rcases h with h | ⟨o,tx,n,hk,hc,hd,hs,hz,r⟩
 ·obtain⟨z,tx,n,r,e⟩:=h.ok I.hok
  exact⟨tx,r,⟨_,n,e,rfl,rfl,rfl⟩,z⟩
 ·refine⟨tx.toList,r,⟨o,n,I.kIn a o hk,hc,hd,by simpa using hs⟩,?_⟩
  have e:=r.length;simp only[CD]at e
  lia
theorem Inv.tuple(I:Inv X ζ σ H s)(h:SqT X.K H a xs):∃tx:List AI,Bv xs tx/\ZM s.heap a tx.toArray/\xs.length<=sizeLine:=by
 rcases h with h | ⟨o,tx,n,hk,hc,hs,hz,r⟩
 ·obtain⟨z,tx,r,p⟩:=h.ok I.hok
  exact⟨tx,r,p,z.1⟩
 ·refine⟨tx.toList,r,⟨o,I.kIn a o hk,hc,n,by simpa using hs⟩,?_⟩
  have e:=r.length;simp only[CD]at e
  lia
theorem Inv.list_inj(I:Inv X ζ σ H s)(h:SqL X.K H a xs)(h':SqL X.K H a ys):xs=ys:=by
 obtain⟨tx,r,⟨o,n,e,_,_,d⟩,_⟩:=I.list h;obtain⟨its',r',⟨o',n',e',_,_,d'⟩,_⟩:=I.list h';rw[e]at e';cases e';rw[d]at d'
 injection d' with d1 _
 have:tx=its':=by simpa using congrArg pB d1
 subst this;exact r.inj r'
theorem Inv.tuple_inj(I:Inv X ζ σ H s)(h:SqT X.K H a xs)(h':SqT X.K H a ys):xs=ys:=by
 obtain⟨tx,r,⟨o,e,_,n,d⟩,_⟩:=I.tuple h;obtain⟨its',r',⟨o',e',_,n',d'⟩,_⟩:=I.tuple h';rw[e]at e';cases e';rw[d]at d'
 injection d' with d1 _
 have:tx=its':=by simpa using congrArg pB d1
 subst this;exact r.inj r'
end
section
variable{X:Cx}{st:C2}{rest:List C2}{t u:TS}{e:Expr}{te:TE}{pos:Pos}
def uB:TS:=λD σ H=>D.nx σ H
def tSeq(t u:TS):TS:=λD σ H=>t { D with nx:=u D } σ H
theorem lH:PSs X [] uB:=λ_ _ σ H _ I h=>PL ⟨σ,H,I,h⟩
theorem ge(h1:PS X st t)(h2:PSs X rest u):PSs X (st :: rest) (tSeq t u):=by
 intro ζ s σ H D I h;refine tK (thn (h1 ζ s σ H { D with nx:=u D } I h) λf s1 q=>?_)
 cases f with
 | next=>
  obtain⟨σ',H',I',q⟩:=q;exact h2 ζ s1 σ' H' D I' q
 | ret v=>exact q
 | brk=>exact q
 | cont=>exact q
theorem lG(h1:PS X st t):PSs X [st] t:=by
 intro ζ s σ H D I h;refine tK (thn (h1 ζ s σ H D I h) λf s1 q=>?_)
 cases f with
 | next=>exact PL q
 | ret v=>exact q
 | brk=>exact q
 | cont=>exact q
theorem Inv.quiet(I:Inv X ζ σ H s):interactive X.env=false:=by simp[interactive,I.ok.kind]
def uD(te:TE):TS:=λD σ H=>te σ H λ_ H1=>D.nx σ H1
theorem lI(he:PE X e te)(hs:HE e none pos.line X.env=pure false:=by rfl):PS X (.Expr e pos) (uD te):=by
 intro ζ s σ H D I h;exact wpAny_Expr_any (thn (he ζ s σ H _ I h) λv s1 ⟨x,H1,I1,r1,q1⟩=>⟨σ,H1,I1,q1⟩) I.quiet hs
def tRet(te:TE):TS:=λD σ H=>te σ H D.rt
theorem qK(he:PE X e te):PS X (.Return (some e) pos) (tRet te):=by
 intro ζ s σ H D I h;exact wpAny_Return_some (thn (he ζ s σ H _ I h) λv s1 ⟨x,H1,I1,r1,q1⟩=>⟨x,σ,H1,I1,r1,q1⟩)
def tIfS(c:TT)(t u:TS):TS:=λD σ H=>c σ H λb H1=>if b=true then t D σ H1 else u D σ H1
theorem uX(hc:PT X c tc)(ha:PSs X a t)(hb:PSs X b u):PS X (.If c a b pos) (tIfS tc t u):=by
 intro ζ s σ H D I h;refine wpAny_If (thn (hc ζ s σ H _ I h) λd s1 ⟨H1,I1,q1⟩=>?_)
 cases d with
 | true=>exact ha ζ s1 σ H1 D I1 q1
 | false=>exact hb ζ s1 σ H1 D I1 q1
def pZ:TS:=λ_ _ _=>False
theorem gg:PS X st pZ:=λ_ _ _ _ _ _ h=>h.elim
end
abbrev TG:=V->St->Hp->(St->Hp->Prop)->Prop
abbrev TGs:=List V->St->Hp->(St->Hp->Prop)->Prop
def PG(X:Cx)(ϖ:Expr)(t:TG):Prop:=
 ∀(ζ:List (AW×Obj)) (s:AQ) (σ:St) (H:Hp) (v:V) (u:AI) (Q:St->Hp->Prop),Inv X ζ σ H s->RelV v u->t v σ H Q ->
  Ag (Ap X.prog X.w) X.A (Sd ϖ X.env u) (λ_ s'=>∃σ' H',Inv X ζ σ' H' s'/\Q σ' H') X.xe s
def PGs(X:Cx)(ts:List Expr)(t:TGs):Prop:=
 ∀(ζ:List (AW×Obj)) (s:AQ) (σ:St) (H:Hp) (vs:List V) (us:List AI) (Q:St->Hp->Prop),Inv X ζ σ H s->Bv vs us->t vs σ H Q ->
  Ag (Ap X.prog X.w) X.A (assignInOrder ((Fg ts X.env).map (·.2)) us) (λ_ s'=>∃σ' H',Inv X ζ σ' H' s'/\Q σ' H') X.xe s
abbrev vU:=V->V->V->Hp->(Hp->Prop)->Prop
def vY(X:Cx)(t:vU):Prop:=
 ∀(ζ:List (AW×Obj)) (s:AQ) (σ:St) (H:Hp) (o i v:V) (ov iv u:AI) (Q:Hp->Prop),Inv X ζ σ H s->RelV o ov->RelV i iv->RelV v u->t o i v H Q ->
  Ag (Ap X.prog X.w) X.A (sg ov iv u) (λ_ s'=>∃H',Inv X ζ σ H' s'/\Q H') X.xe s
abbrev TIp:=V->V->Hp->VK->Prop
def PIp(X:Cx)(op:Operator)(t:TIp):Prop:=
 ∀(ζ:List (AW×Obj)) (s:AQ) (σ:St) (H:Hp) (x y:V) (v u:AI) (Q:VK),Inv X ζ σ H s->RelV x v->RelV y u->t x y H Q ->
  Ag (Ap X.prog X.w) X.A (inplaceOp op v u) (EP X ζ σ Q) X.xe s
section
variable{X:Cx}{pos:Pos}
def bj(i:Nat):TG:=λv σ H Q=>Q (σ.set i (some v)) H
theorem lU(hN:X.N.Nodup)(hi:X.N[i]?=some x)(hx:Loc X.env.scope x)(hf:X.fn x=true∨X.env.scope.names.lookup x=some .local:=by first | exact .inl rfl | exact .inr rfl | assumption):PG X (.Name x pos) (bj i):=by
 intro ζ s σ H v u Q I r h;exact sd (TR I hN hi hx r (λs' I'=>⟨_,H,I',h⟩) hf)
def gNil:TGs:=λvs σ H Q=>vs=[]/\Q σ H
def vI(t:TG)(u:TGs):TGs:=λvs σ H Q=>∃v r,vs=v :: r/\t v σ H λσ' H'=>u r σ' H' Q
theorem lT:PGs X [] gNil:=by
 intro ζ s σ H vs us Q I r h;obtain⟨e,h⟩:=h;subst e;cases r;exact assignInOrder_nil ⟨σ,H,I,h⟩
theorem gl(h1:PG X e t)(h2:PGs X es u)
  (hs:(Fg (e :: es) X.env).map (·.2)=Sd e X.env :: (Fg es X.env).map (·.2):=by rfl):PGs X (e :: es) (vI t u):=by
 intro ζ s σ H vs us Q I r h;obtain⟨v,vr,e1,h⟩:=h;subst e1
 cases r with
 | cons r rr=>
  rw[hs];refine assignInOrder_cons (thn (h1 ζ s σ H _ _ _ I r h) λ_ s1 ⟨σ1,H1,I1,q1⟩=>?_);exact h2 ζ s1 σ1 H1 _ _ Q I1 rr q1
def gTup(K:AG)(n:Nat)(t:TGs):TG:=λv σ H Q=>∃a xs,v=.ref a/\SqT K H a xs/\xs.length=n/\t xs σ H Q
theorem qQ(hc:X.calm=true)(h:PGs X es t)
  (hn:(Fg es X.env).length=n:=by rfl) (yB:(Fg es X.env).findIdx? (·.1)=none:=by rfl):PG X (.Tuple es k pos) (gTup X.K n t):=by
 intro ζ s σ H v u Q I r hw;obtain⟨a,xs,e1,hq,hl,hw⟩:=hw;subst e1;cases r;obtain⟨tx,rv,ht,hz⟩:=I.tuple hq
 refine assign_Tuple_tuple (I.ok.hd hc) ht (by simp[hn,<-hl,rv.length]) yB λh' hx=>?_
 have I1:Inv X ζ σ H { s with heap:=h' }:=I.kept (t':=s.toks) λb o e=>hx b o (BE (Ac e)) e
 exact h ζ _ σ H xs _ Q I1 (by simpa using rv) hw
def pr(te:TE)(g:TG):TS:=λD σ H=>te σ H λx H1=>g x σ H1 D.nx
theorem qO(he:PE X e te)(hg:PG X tg g)(hs:swapsWithSole [tg] e pos.line X.env=pure false:=by rfl)(hw:swappedStores [tg] e X.env=pure none:=by rfl)
  (h1:(Fg [tg] X.env).map (·.2)=[Sd tg X.env]:=by rfl):PS X (.Assign [tg] e pos) (pr te g):=by
 intro ζ s σ H D I h;refine wpAny_Assign_stores (thn (he ζ s σ H _ I h) λv s1 ⟨x,H1,I1,r1,q1⟩=>?_) hs hw;rw[h1]
 exact thn (hg ζ s1 σ H1 x v _ I1 r1 q1) λ_ s2 q=>q
theorem qJ(hN:X.N.Nodup)(hi:X.N[i]?=some x)(hx:Loc X.env.scope x)(he:PE X e te)(hs:HE e (some (.Name x pos')) pos.line X.env=pure false:=by rfl)(hf:X.fn x=true∨X.env.scope.names.lookup x=some .local:=by first | exact .inl rfl | exact .inr rfl | assumption) :
  PS X (.Assign [.Name x pos'] e pos) (pr te (bj i)):=by
 intro ζ s σ H D I h;refine wpAny_Assign_Name (thn (he ζ s σ H _ I h) λv s1 ⟨y,H1,I1,r1,q1⟩=>?_) hs;exact TR I1 hN hi hx r1 (λs2 I2=>⟨_,H1,I2,q1⟩) hf
def tAug(i:Nat)(te:TE)(ti:TIp):TS:=λD σ H=>∃x,σ[i]?=some (some x)/\te σ H λy H1=>ti x y H1 λz H2=>D.nx (σ.set i (some z)) H2
theorem qN(hN:X.N.Nodup)(hi:X.N[i]?=some x)(hx:Loc X.env.scope x)(he:PE X e te)(ho:PIp X op ti)(hf:X.fn x=true∨X.env.scope.names.lookup x=some .local:=by first | exact .inl rfl | exact .inr rfl | assumption) :
  PS X (.AugAssign (.Name x pos') op e pos) (tAug i te ti):=by
 intro ζ s σ H D I h;obtain⟨v,e1,h⟩:=h;obtain⟨m,hn,hl⟩:=I.loc
 have vis:Vis X.env.scope x:=by rcases hx with k | k;exact .inl k;exact .inr (.inl k)
 obtain⟨u,r,l⟩:=hl i x v hi e1 vis;refine wpAny_AugAssign_Name ?_
 have go:Ag (Ap X.prog X.w) X.A (Cj e X.env) (λw s₂=>Ag (Ap X.prog X.w) X.A (inplaceOp op u w) (λr s₃=>Ag (Ap X.prog X.w) X.A (tO X.env x r) (λ_=>SP X ζ D .next) X.xe s₃) X.xe s₂) X.xe s:=by
  refine thn (he ζ s σ H _ I h) λw s1 ⟨y,H1,I1,r1,q1⟩=>?_
  refine thn (ho ζ s1 σ H1 v y u w _ I1 r r1 q1) λz s2 ⟨zv,H2,I2,r2,q2⟩=>?_
  exact TR I2 hN hi hx r2 (λs3 I3=>⟨_,H2,I3,q2⟩) hf
 rcases l with⟨hk,hm⟩ | ⟨hk,c,hc,wF⟩
 ·exact jg I.ok.kind hk hn hm go
 ·rcases hk with hk | hk
  ·exact nX I.ok.kind hk hc wF go
  ·rcases hx with k | k
   ·have:X.env.scope.names.lookup x=some .free:=hk
    rw[k]at this;cases this
   ·have:X.env.scope.names.lookup x=some .free:=hk
    rw[k]at this;cases this
def uI(to ti te:TE)(zj:V->V->Hp->VK->Prop)(tip:TIp)(zk:vU):TS:=λD σ H=>to σ H λo H1=>ti σ H1 λi H2=>zj o i H2 λx H3=>te σ H3 λy H4=>tip x y H4 λz H5=>zk o i z H5 λH6=>D.nx σ H6
def vZ(X:Cx)(t:V->V->Hp->VK->Prop):Prop:=
 ∀(ζ:List (AW×Obj)) (s:AQ) (σ:St) (H:Hp) (o i:V) (ov iv:AI) (Q:VK),Inv X ζ σ H s->RelV o ov->RelV i iv->t o i H Q ->
  Ag (Ap X.prog X.w) X.A (LL ov iv) (EP X ζ σ Q) X.xe s
theorem lL(ho:PE X o to)(hi:PE X i ti)(hg:vZ X zj)(he:PE X e te)(hp:PIp X op tip)(hs:vY X zk)
  (ha:∀ov iv new,augStore i ov iv new=(do Oq [new,ov,iv] (sg ov iv new);release [new,ov,iv] [];pure .next):=by intros;rfl):PS X (.AugAssign (.Subscript o i tpos) op e pos) (uI to ti te zj tip zk):=by
 intro ζ s σ H D I h;refine wpAny_AugAssign_SubscriptAny (thn (ho ζ s σ H _ I h) λov s1 ⟨x1,H1,I1,r1,q1⟩=>?_) ha
 refine thn (hi ζ s1 σ H1 _ I1 q1) λiv s2 ⟨x2,H2,I2,r2,q2⟩=>?_
 refine thn (hg ζ s2 σ H2 x1 x2 ov iv _ I2 r1 r2 q2) λold s3 ⟨x3,H3,I3,r3,q3⟩=>?_
 refine thn (he ζ s3 σ H3 _ I3 q3) λv s4 ⟨x4,H4,I4,r4,q4⟩=>?_
 refine thn (hp ζ s4 σ H4 x3 x4 old v _ I4 r3 r4 q4) λnew s5 ⟨x5,H5,I5,r5,q5⟩=>?_
 exact thn (hs ζ s5 σ H5 x1 x2 x5 ov iv new _ I5 r1 r2 r5 q5) λ_ s6 ⟨H6,I6,q6⟩=>⟨σ,H6,I6,q6⟩
def ipI(f:Int->Int->Int):TIp:=λx y H Q=>∃i j,x=.int i/\y=.int j/\Q (.int (f i j)) H
theorem rL:PIp X .Add (ipI λi j=>i+j):=by
 intro ζ s σ H x y v u Q I r1 r2 h;obtain⟨i,j,e1,e2,q⟩:=h;subst e1;subst e2;obtain⟨t,rfl⟩:=r1;obtain⟨t',rfl⟩:=r2;exact iadd_int ⟨.int _,H,I.tok _,⟨_,rfl⟩,q⟩
def pW(c:TT)(tb:TS):TS:=λD σ H=>∃W:Nat->St->Hp->Prop,(∃m,W m σ H)/\∀m σ H,W m σ H ->
 c σ H λb H1=>if b=true then ∃N:St->Hp->Prop,(∀σ' H',N σ' H'->∃m',m' < m/\W m' σ' H')/\tb { D with nx:=N,ct:=N,bk:=D.nx } σ H1 else D.nx σ H1
theorem gf(hp:WG (Ap X.prog X.w) X.A X.env X.xe)(hc:PT X c tc)(hb:PSs X body tb):PS X (.While c body [] pos) (pW tc tb):=by
 intro ζ s σ H D I h;obtain⟨W,⟨m0,w0⟩,turn⟩:=h;refine wpAny_While (codeAny_whileLoop (λn s'=>∃σ' H',Inv X ζ σ' H' s'/\W n σ' H') ?_ m0 ⟨σ,H,I,w0⟩);rintro n s1 ⟨σ1,H1,I1,w1⟩;refine GK hp (thn (hc ζ s1 σ1 H1 _ I1 (turn n σ1 H1 w1)) λb s2 ⟨H2,I2,q2⟩=>?_)
 cases b with
 | true=>
  obtain⟨N,hN,q2⟩:=q2;rw[qX rfl];refine GK hp (thn (hb ζ s2 σ1 H2 _ I2 q2) λf s3 q3=>?_)
  cases f with
  | next=>
   obtain⟨σ3,H3,I3,n3⟩:=q3;obtain⟨m',hm,w3⟩:=hN σ3 H3 n3;exact⟨m',hm,σ3,H3,I3,w3⟩
  | cont=>
   obtain⟨σ3,H3,I3,n3⟩:=q3;obtain⟨m',hm,w3⟩:=hN σ3 H3 n3;exact⟨m',hm,σ3,H3,I3,w3⟩
  | brk=>exact q3
  | ret v=>exact q3
 | false=>
  rw[qY AK];exact PL ⟨σ1,H2,I2,q2⟩
end
structure It where
 go:Nat->Hp->Prop
 yld:Nat->Hp->V->Hp->Prop
 stop:Nat->Hp->Prop
def PJ(X:Cx)(ζ:List (AW×Obj))(H:Hp)(b:AW):Prop:=
 H b=none/\b≠X.env.locals/\b∉X.fs/\(b∈X.ex∨X.s₀.heap.objs.size<=b)/\(∀x c,X.env.cells.lookup x=some c->c≠b)/\∀p∈X.pn++ζ,p.1≠b
theorem Inv.fpOk(I:Inv X ζ σ H s)(hb:s.heap.objs.size<=b)(hn:H' b=none):PJ X ζ H' b:=by
 refine⟨hn,Er (AT I.lt hb),I.nofs hb,.inr (At I.sz hb),λx c e z=>?_,λp hp z=>?_⟩
 ·obtain⟨v,q⟩:=I.cell x c e
  exact zX (AT q.lt (by rw[z];exact hb)) (Ci _)
 ·exact zX (AT (Ac (I.pin p hp).1) (by rw[z];exact hb)) (Ci _)
structure VR(P:Bg)(w:CL)(K:AG)(tg:Expr)(J:It)(fp:List AW)(it:AW)(tn:Nat->Cz->Prop):Prop where
 mem:it∈fp
 obj:∀i h,tn i h->∀b∈fp,∃o,h.get? b=some o/\∀v,o.data≠.cell v
 keep:∀i h h',tn i h->(∀b∈fp,∀o,h.get? b=some o->h'.get? b=some o)->tn i h'
 item:∀(X:Cx),X.prog=P->X.w=w->X.K=K->X.calm=true->∀(i:Nat) (ζ:List (AW×Obj)) (s:AQ) (σ:St) (H:Hp) (E:AI->AQ->Prop),Inv X ζ σ H s->(∀b∈fp,PJ X ζ H b)->tn i s.heap->J.go i H ->
  Ag (Ap P w) X.A (Lp (.ref it)) (λr s1=>∃u,r=some u /\
   Ag (Ap P w) X.A (PM tg (.ref it) u) (λ_ s2=>∃x H',Inv X ζ σ H' s2/\RelV x u/\J.yld i H x H'/\tn (i+1) s2.heap/\∀b∈fp,H' b=none) E s1) E s
 done:∀(X:Cx),X.prog=P->X.w=w->X.K=K->X.calm=true->∀(i:Nat) (ζ:List (AW×Obj)) (s:AQ) (σ:St) (H:Hp) (E:AI->AQ->Prop),Inv X ζ σ H s->(∀b∈fp,PJ X ζ H b)->tn i s.heap->J.stop i H ->
  Ag (Ap P w) X.A (Lp (.ref it)) (λr s1=>r=none/\Inv X ζ σ H s1) E s
 self:∀(A:CO) (i:Nat) (s:AQ) (Q:AI->AQ->Prop) (E:AI->AQ->Prop),tn i s.heap->Q (.ref it) s->Ag (Ap P w) A (ZC (.ref it)) Q E s
abbrev TI:=St->Hp->(It->Hp->Prop)->Prop
def PIE(X:Cx)(ζ:List (AW×Obj))(σ:St)(tg:Expr)(R:It->Hp->Prop)(itv:AI)(s2:AQ):Prop:=
 ∃(it:AW) (fp:List AW) (tn:Nat->Cz->Prop) (J:It) (H':Hp),itv=.ref it/\Inv X ζ σ H' s2/\VR X.prog X.w X.K tg J fp it tn/\tn 0 s2.heap/\(∀b∈fp,PJ X ζ H' b)/\R J H'
def PI(X:Cx)(tg iter:Expr)(wi:TI):Prop:=
 ∀(ζ:List (AW×Obj)) (s:AQ) (σ:St) (H:Hp) (R:It->Hp->Prop),Inv X ζ σ H s->wi σ H R ->
  Ag (Ap X.prog X.w) X.A (Cj iter X.env) (λv s1=>Ag (Ap X.prog X.w) X.A (ZC v) (PIE X ζ σ tg R) X.xe s1) X.xe s
theorem bf(ho:s.heap.get? it=some o)(hc:o.cls=.type n)(hd:o.data=.fields vs)
  (hn:["enumerate", "zip", "dict_itemiterator", "dict_reverseitemiterator", "odict_iterator", "itertools.zip_longest", "itertools.pairwise"].contains n=false) (hQ:Q () s):Ag M A (PM tg (.ref it) u) Q E s:=by
 unfold PM
 cases tg <;> first
  | exact AL hQ
  | (cases u <;> first
    | exact AL hQ
    | (refine AB (wpAny_load ho ?_)
       rw[hc,hd];show Ag M A (if (["enumerate", "zip", "dict_itemiterator", "dict_reverseitemiterator", "odict_iterator", "itertools.zip_longest", "itertools.pairwise"].contains n&&vs[0]?==some (Ln _))=true then _ else _) Q E s;rw[qY (by intro h;rw[hn,Bool.false_and]at h;cases h)]
       exact AL hQ))
def Itl(K:AG)(a:AW):It:=
 ⟨λi H=>∃xs x,SqL K H a xs/\xs[i]?=some x,λi H x H'=>H'=H/\∀xs,SqL K H a xs->xs[i]?=some x,λi H=>∃xs,SqL K H a xs/\xs.length<=i⟩
def Itt(K:AG)(a:AW):It:=
 ⟨λi H=>∃xs x,SqT K H a xs/\xs[i]?=some x,λi H x H'=>H'=H/\∀xs,SqT K H a xs->xs[i]?=some x,λi H=>∃xs,SqT K H a xs/\xs.length<=i⟩
def Itr(lo:Int)(n:Nat):It:=⟨λi _=>i < n,λi H x H'=>H'=H/\x=.int (lo+i),λi _=>n<=i⟩
theorem ca{P}{w}{K}{tg}(a it:AW):VR P w K tg (Itl K a) [it] it (λi h=>h.IsListIter it a i) where
 mem:=by simp
 obj:=λi h st b hb=>by
  have e:b=it:=by simpa using hb
  subst e;obtain⟨o,e,c,d⟩:=st;exact⟨o,e,λv z=>by rw[d]at z;cases z⟩
 keep:=λi h h' st k=>st.at λo e=>k it (by simp) o e
 item:=by
  intro X hP hw hK hc i ζ s σ H E I hf st hg;subst hP hw hK;obtain⟨xs,x,hq,hx⟩:=hg;obtain⟨tx,rv,p,hz⟩:=I.list hq;obtain⟨u,hu,ru⟩:=rv.get hx;obtain⟨f0,f1,f2,f3,f4,f5⟩:=hf it (by simp)
  refine wpAny_pyNext_list_item st p.isList (x:=u) (by simpa using hu) λh' w5 sb=>?_
  have I1:Inv X ζ σ H { s with heap:=h' }:=I.turned (t':=s.toks) (λb o hb e=>(sb.2 b hb).trans e) f0 f1 f3 f4 f5;obtain⟨o,e,c,d⟩:=id w5;exact⟨u,rfl,bf (s:={ s with heap:=h' }) e c d (by decide) ⟨x,H,I1,ru,⟨rfl,λys hy=>by rw[I.list_inj hy hq];exact hx⟩,w5,λb hb=>(hf b hb).1⟩⟩
 done:=by
  intro X hP hw hK hc i ζ s σ H E I hf st hg;subst hP hw hK;obtain⟨xs,hq,hx⟩:=hg;obtain⟨tx,rv,p,hz⟩:=I.list hq;obtain⟨f0,f1,f2,f3,f4,f5⟩:=hf it (by simp);have hl:=rv.length
  exact wpAny_pyNext_list_end (I.ok.hd hc) st p.isList (by simp;lia) λh' eb=>⟨rfl,I.turned (t':=s.toks) (λb o hb e=>eb b o hb e) f0 f1 f3 f4 f5⟩
 self:=λ_ _ _ _ _ st h=>wpAny_pyIter_listiter st h
theorem ZW{P}{w}{K}{tg}(a it:AW):VR P w K tg (Itt K a) [it] it (λi h=>h.IsTupleIter it a i) where
 mem:=by simp
 obj:=λi h st b hb=>by
  have e:b=it:=by simpa using hb
  subst e;obtain⟨o,e,c,d⟩:=st;exact⟨o,e,λv z=>by rw[d]at z;cases z⟩
 keep:=λi h h' st k=>st.at λo e=>k it (by simp) o e
 item:=by
  intro X hP hw hK hc i ζ s σ H E I hf st hg;subst hP hw hK;obtain⟨xs,x,hq,hx⟩:=hg;obtain⟨tx,rv,p,hz⟩:=I.tuple hq;obtain⟨u,hu,ru⟩:=rv.get hx;obtain⟨f0,f1,f2,f3,f4,f5⟩:=hf it (by simp)
  refine wpAny_pyNext_tuple_item st (show s.heap.IsTuple a tx.toArray from p) (x:=u) (by simpa using hu) λh' w5 sb=>?_
  have I1:Inv X ζ σ H { s with heap:=h' }:=I.turned (t':=s.toks) (λb o hb e=>(sb.2 b hb).trans e) f0 f1 f3 f4 f5;obtain⟨o,e,c,d⟩:=id w5;exact⟨u,rfl,bf (s:={ s with heap:=h' }) e c d (by decide) ⟨x,H,I1,ru,⟨rfl,λys hy=>by rw[I.tuple_inj hy hq];exact hx⟩,w5,λb hb=>(hf b hb).1⟩⟩
 done:=by
  intro X hP hw hK hc i ζ s σ H E I hf st hg;subst hP hw hK;obtain⟨xs,hq,hx⟩:=hg;obtain⟨tx,rv,p,hz⟩:=I.tuple hq;obtain⟨f0,f1,f2,f3,f4,f5⟩:=hf it (by simp);have hl:=rv.length
  exact wpAny_pyNext_tuple_end (I.ok.hd hc) st (show s.heap.IsTuple a tx.toArray from p) (by simp;lia) λh' eb=>⟨rfl,I.turned (t':=s.toks) (λb o hb e=>eb b o hb e) f0 f1 f3 f4 f5⟩
 self:=λ_ _ _ _ _ st h=>wpAny_pyIter_tupleiter st h
theorem ZX{P}{w}{K}{tg}(it:AW)(lo:Int)(n:Nat):VR P w K tg (Itr lo n) [it] it (λi h=>IsRangeIter h it (lo+(i:Nat) * 1) ((n:Int) - (i:Nat)) 1) where
 mem:=by simp
 obj:=λi h st b hb=>by
  have e:b=it:=by simpa using hb
  subst e
  exact⟨_,st,λv z=>by
   have z':Sr _=Xw v:=z
   cases z'⟩
 keep:=λi h h' st k=>k it (by simp) _ st
 item:=by
  intro X hP hw hK hc i ζ s σ H E I hf st hg;subst hP hw hK;obtain⟨f0,f1,f2,f3,f4,f5⟩:=hf it (by simp);have W:=Walks.range (prog:=X.prog) (w:=X.w) (I.ok.hd hc) it lo 1 n
  refine W.item i s _ _ hg st λv h' tk hv w5 kk=>?_
  obtain⟨t,rfl⟩:=hv;have I1:Inv X ζ σ H { s with heap:=h',toks:=tk }:=I.turned (λb o hb e=>kk b o (by simpa using hb) e) f0 f1 f3 f4 f5;refine⟨_,rfl,bf (s:={ s with heap:=h',toks:=tk }) (n:="range_iterator") w5 rfl rfl (by decide) ⟨.int (lo+i),H,I1,⟨t,?_⟩,⟨rfl,rfl⟩,w5,λb hb=>(hf b hb).1⟩⟩;rw[Int.mul_one]
 done:=by
  intro X hP hw hK hc i ζ s σ H E I hf st hg;subst hP hw hK;obtain⟨f0,f1,f2,f3,f4,f5⟩:=hf it (by simp)
  exact wpAny_pyNext_range_end (I.ok.hd hc) st (by have:n<=i:=hg;lia) λh' eb=>⟨rfl,I.turned (t':=s.toks) (λb o hb e=>eb b o hb e) f0 f1 f3 f4 f5⟩
 self:=λ_ _ _ _ _ st h=>wpAny_pyIter_rangeiter st h
section
variable{X:Cx}
def vB(K:AG)(tl:TE):TI:=λσ H R=>tl σ H λx H1=>∃a,x=.ref a/\(∃xs,SqL K H1 a xs)/\R (Itl K a) H1
def iTup(K:AG)(tl:TE):TI:=λσ H R=>tl σ H λx H1=>∃a,x=.ref a/\(∃xs,SqT K H1 a xs)/\R (Itt K a) H1
theorem lQ{l}{tl}(hl:PE X l tl):PI X tg l (vB X.K tl):=by
 intro ζ s σ H R I h
 refine thn (hl ζ s σ H _ I h) λv s1 ⟨x,H1,I1,r1,q1⟩=>?_
 obtain⟨a,e,⟨xs,hq⟩,q⟩:=q1;subst e;cases r1;obtain⟨tx,rv,p,hz⟩:=I1.list hq;refine Uj p.isList ?_;refine⟨s1.heap.objs.size,[s1.heap.objs.size],_,_,H1,rfl,I1.kept (t':=s1.toks) λb o e=>AJ _ e,ca a _,⟨_,Aa _ rfl,rfl,rfl⟩,λb hb=>?_,q⟩
 have e:b=s1.heap.objs.size:=by simpa using hb
 subst e;exact I1.fpOk (AO _) (I1.hok.fresh (AO _))
theorem qP{l}{tl}(hl:PE X l tl):PI X tg l (iTup X.K tl):=by
 intro ζ s σ H R I h
 refine thn (hl ζ s σ H _ I h) λv s1 ⟨x,H1,I1,r1,q1⟩=>?_
 obtain⟨a,e,⟨xs,hq⟩,q⟩:=q1;subst e;cases r1;obtain⟨tx,rv,p,hz⟩:=I1.tuple hq;refine DJ (show s1.heap.IsTuple a tx.toArray from p) ?_;refine⟨s1.heap.objs.size,[s1.heap.objs.size],_,_,H1,rfl,I1.kept (t':=s1.toks) λb o e=>AJ _ e,ZW a _,⟨_,Aa _ rfl,rfl,rfl⟩,λb hb=>?_,q⟩
 have e:b=s1.heap.objs.size:=by simpa using hb
 subst e;exact I1.fpOk (AO _) (I1.hok.fresh (AO _))
theorem YR{ζ}{σ}{H}{s}{R}{E}{lo hi}{t u v}{tk}(I:Inv X ζ σ H s)(h1:-(2 ^ 62)<=lo)(h2:lo < 2 ^ 62)(h3:-(2 ^ 62)<=hi)(h4:hi < 2 ^ 62)
  (q:R (Itr lo (hi - lo).toNat) H):Ag (Ap X.prog X.w) X.A (ZC (.ref s.heap.objs.size)) (PIE X ζ σ tg R) E { s with heap:=s.heap.push { cls:=.type "range",data:=.fields #[.int lo t,.int hi u,.int 1 v] },toks:=tk }:=by
 refine wpAny_pyIter_range (IsRange.new ..) (small_one h1 h2 h3 h4) ?_
 have I1:Inv X ζ σ H { s with heap:=s.heap.push { cls:=.type "range",data:=.fields #[.int lo t,.int hi u,.int 1 v] },toks:=tk }:=I.kept λb o e=>AJ _ e
 refine⟨(s.heap.push { cls:=.type "range",data:=.fields #[.int lo t,.int hi u,.int 1 v] }).objs.size,[(s.heap.push { cls:=.type "range",data:=.fields #[.int lo t,.int hi u,.int 1 v] }).objs.size],_,_,H,rfl,
  I1.kept (t':=tk) λb o e=>AJ _ e,ZX _ lo (hi - lo).toNat,?_,λb hb=>?_,q⟩
 ·have e1:lo+((0:Nat):Int) * 1=lo:=by simp
  have e2:(((hi - lo).toNat:Nat):Int) - ((0:Nat):Int)=tq lo hi 1:=by rw[rangeSize_one];split <;> lia
  show IsRangeIter _ _ (lo+((0:Nat):Int) * 1) ((((hi - lo).toNat:Nat):Int) - ((0:Nat):Int)) 1;rw[e1,e2];exact Aa _ rfl
 ·have e:b=(s.heap.push { cls:=.type "range",data:=.fields #[.int lo t,.int hi u,.int 1 v] }).objs.size:=by simpa using hb
  subst e;exact I1.fpOk (AO _) (I1.hok.fresh (AO _))
def u9(ta:TA):TI:=λσ H R=>ta σ H λvs H1=>∃j:Int,vs=[.int j]/\-(2 ^ 62)<=j/\j < 2 ^ 62/\R (Itr 0 j.toNat) H1
def u8(ta:TA):TI:=λσ H R=>ta σ H λvs H1=>∃i j:Int,vs=[.int i,.int j]/\(-(2 ^ 62)<=i/\i < 2 ^ 62/\-(2 ^ 62)<=j/\j < 2 ^ 62)/\R (Itr i (j - i).toNat) H1
theorem dI{a}{ta}{p pos}(hg:Gl X "range") (hm:X.mg "range" = none) (ha:PA X [a] ta) (hs:Ad [a] X.env=[(false,Cj a X.env)]:=by rfl):PI X tg (.Call (.Name "range" p) [a] [] pos) (u9 ta):=by
 intro ζ s σ H R I h;refine Call_ (Qx I hg hm boot_range (E2 (thn (ha pos ζ s σ H _ I h) λus s1 ⟨vs,H1,I1,r1,q1⟩=>?_) hs rfl));obtain⟨j,e,q1,q2,q⟩:=q1;subst e
 cases r1 with
 | cons r rr=>
  cases rr;obtain⟨t,rfl⟩:=r;exact call_range_1 (YR I1 (by lia) (by lia) q1 q2 (by simpa using q))
theorem dH(hg:Gl X "range") (hm:X.mg "range" = none) (ha:PA X [a,b] ta) (hs:Ad [a,b] X.env=[(false,Cj a X.env),(false,Cj b X.env)]:=by rfl) (wK:Ad [b] X.env=[(false,Cj b X.env)]:=by rfl) :
  PI X tg (.Call (.Name "range" p) [a,b] [] pos) (u8 ta):=by
 intro ζ s σ H R I h;refine Call_ (Qx I hg hm boot_range (E2 (thn (ha pos ζ s σ H _ I h) λus s1 ⟨vs,H1,I1,r1,q1⟩=>?_) (by rw[hs,wK]) (by rw[wK];rfl)));obtain⟨i,j,e,⟨q1,q2,q3,q4⟩,q⟩:=q1;subst e
 cases r1 with
 | cons r rr=>
  cases rr with
  | cons r' rr=>
   cases rr;obtain⟨t,rfl⟩:=r;obtain⟨t',rfl⟩:=r';exact call_range_2 (YR I1 q1 q2 q3 q4 q)
def tFor(wi:TI)(g:TG)(tb:TS):TS:=λD σ H=>wi σ H λJ H1=>∃W:Nat->Nat->St->Hp->Prop,(∃m,W 0 m σ H1)/\∀i m σ H,W i m σ H ->
 (J.stop i H/\D.nx σ H)∨(J.go i H/\∃N:St->Hp->Prop,(∀σ' H',N σ' H'->∃m',m' < m/\W (i+1) m' σ' H')/\∀x H',J.yld i H x H'->g x σ H' λσ2 H2=>tb { D with nx:=N,ct:=N,bk:=D.nx } σ2 H2)
def To(fp:List AW)(h:Cz):List (AW×Obj):=fp.filterMap λb=>(h.get? b).map λo=>(b,o)
theorem MY(hb:b∈fp)(e:h.get? b=some o):(b,o)∈To fp h:=eS.mpr ⟨b,hb,by rw[e];rfl⟩
theorem dO(hp:p∈To fp h):p.1∈fp/\h.get? p.1=some p.2:=by
 obtain⟨b,hb,e⟩:=eS.mp hp
 cases q:h.get? b with
 | none=>rw[q]at e;cases e
 | some o=>
  rw[q]at e;have e':(b,o)=p:=Bw e;subst e';exact⟨hb,q⟩
theorem Inv.pinned(I:Inv X ζ σ H s)(hf:∀b∈fp,PJ X ζ H b)(ho:∀b∈fp,∃o,s.heap.get? b=some o/\∀v,o.data≠.cell v):Inv X (ζ++To fp s.heap) σ H s:=
 I.pins_of λp hp=>(Ax.mp hp).elim (λz=>I.pin p (BV _ z)) λz=>by
  obtain⟨hb,e⟩:=dO z;obtain⟨f0,f1,f2,_⟩:=hf p.1 hb;obtain⟨o,e',d⟩:=ho p.1 hb;rw[e]at e';cases e';exact⟨e,f0,f1,f2,d⟩
theorem Inv.unpinned(I:Inv X (ζ++pl) σ H s):Inv X ζ σ H s:=I.pins_of λp hp=>I.pin p (BV _ (BN _ hp))
theorem qL(hp:WG (Ap X.prog X.w) X.A X.env X.xe)(hc:X.calm=true)(hi:PI X tg iter wi)(hg:PG X tg g)(hb:PSs X body tb)
  (hs:∀x,Gi iter X.env x=pure x:=by intro _;rfl):PS X (.For tg iter body [] pos) (tFor wi g tb):=by
 intro ζ s σ H D I h;refine wpAny_For (thn (hi ζ s σ H _ I h) λv s1 h1=>thn h1 λitv s2 h2=>?_) hs;obtain⟨it,fp,tn,J,H2,e,I2,T,wa,f2,W,⟨m0,w0⟩,turn⟩:=h2;subst e
 have xA:∀{H':Hp},(∀b∈fp,H' b=none)->∀b∈fp,PJ X ζ H' b:=λhn b hb=>⟨hn b hb,(f2 b hb).2⟩
 refine codeAny_forLoop_any (λn s'=>∃i σ' H',Inv X ζ σ' H' s'/\tn i s'.heap/\(∀b∈fp,H' b=none)/\W i n σ' H') ?_ m0 ⟨0,σ,H2,I2,wa,λb hb=>(f2 b hb).1,w0⟩;rintro n s3 ⟨i,σ3,H3,I3,xB,fr3,w3⟩
 rcases turn i n σ3 H3 w3 with⟨stop,qn⟩ | ⟨go,N,hN,step⟩
 ·refine GK hp (thn (T.done X rfl rfl rfl hc i ζ s3 σ3 H3 X.xe I3 (xA fr3) xB stop) λr s4 ⟨hr,I4⟩=>?_)
  subst hr;exact PL ⟨σ3,H3,I4,qn⟩
 ·refine GK hp (thn (T.item X rfl rfl rfl hc i ζ s3 σ3 H3 X.xe I3 (xA fr3) xB go) λr s4 ⟨u,hr,h4⟩=>?_)
  subst hr;refine GK hp (thn h4 λ_ s5 ⟨x,H5,I5,r5,y5,st5,fr5⟩=>?_);have I5':=I5.pinned (xA fr5) (T.obj _ _ st5);refine GK hp (thn (hg _ s5 σ3 H5 x u _ I5' r5 (step x H5 y5)) λ_ s6 ⟨σ6,H6,I6,q6⟩=>?_);refine GK hp (thn (hb _ s6 σ6 H6 _ I6 q6) λf s7 q7=>?_)
  have sj:∀{σ7:St} {H7:Hp},Inv X (ζ++To fp s5.heap) σ7 H7 s7->N σ7 H7->∃m,m < n/\∃i σ' H',Inv X ζ σ' H' s7/\tn i s7.heap/\(∀b∈fp,H' b=none)/\W i m σ' H':=λ{σ7 H7} I7 n7=>by
   obtain⟨m',hm,w7⟩:=hN σ7 H7 n7;refine⟨m',hm,i+1,σ7,H7,I7.unpinned,T.keep _ _ _ st5 λb hb o e=>(I7.pin (b,o) (BV _ (BV _ (MY hb e)))).1,λb hb=>?_,w7⟩;obtain⟨o,e,d⟩:=T.obj _ _ st5 b hb;exact(I7.pin (b,o) (BV _ (BV _ (MY hb e)))).2.1
  cases f with
  | next=>obtain⟨σ7,H7,I7,n7⟩:=q7;exact sj I7 n7
  | cont=>obtain⟨σ7,H7,I7,n7⟩:=q7;exact sj I7 n7
  | brk=>obtain⟨σ7,H7,I7,q7⟩:=q7;exact⟨σ7,H7,I7.unpinned,q7⟩
  | ret v=>obtain⟨x7,σ7,H7,I7,r7,q7⟩:=q7;exact⟨x7,σ7,H7,I7.unpinned,r7,q7⟩
end
abbrev R2:=V->V->Hp->VK->Prop
def OpR(X:Cx)(f:AI->AI->Sem AI)(r:R2):Prop:=
 ∀(ζ:List (AW×Obj)) (s:AQ) (σ:St) (H:Hp) (x y:V) (v u:AI) (Q:VK),Inv X ζ σ H s->RelV x v->RelV y u->r x y H Q ->
  Ag (Ap X.prog X.w) X.A (f v u) (EP X ζ σ Q) X.xe s
def UnR(X:Cx)(f:AI->Sem AI)(r:V->Hp->VK->Prop):Prop:=
 ∀(ζ:List (AW×Obj)) (s:AQ) (σ:St) (H:Hp) (x:V) (v:AI) (Q:VK),Inv X ζ σ H s->RelV x v->r x H Q ->
  Ag (Ap X.prog X.w) X.A (f v) (EP X ζ σ Q) X.xe s
def Kl(X:Cx)(f:AI)(r:List V->Hp->VK->Prop):Prop:=
 ∀(ζ:List (AW×Obj)) (s:AQ) (σ:St) (H:Hp) (xs:List V) (us:List AI) (Q:VK),Inv X ζ σ H s->Bv xs us->r xs H Q ->
  Ag (Ap X.prog X.w) X.A (call f us) (EP X ζ σ Q) X.xe s
def TruR(X:Cx)(r:V->Hp->(Bool->Hp->Prop)->Prop):Prop:=
 ∀(ζ:List (AW×Obj)) (s:AQ) (σ:St) (H:Hp) (x:V) (v:AI) (Q:Bool->Hp->Prop),Inv X ζ σ H s->RelV x v->r x H Q ->
  Ag (Ap X.prog X.w) X.A (om v) (TP X ζ σ Q) X.xe s
def tOp(r:R2)(ta tb:TE):TE:=λσ H Q=>ta σ H λx H1=>tb σ H1 λy H2=>r x y H2 Q
def tUn(r:V->Hp->VK->Prop)(ta:TE):TE:=λσ H Q=>ta σ H λx H1=>r x H1 Q
def rI(C:Int->Int->Prop)(g:Int->Int->V):R2:=λx y H Q=>∃i j,x=.int i/\y=.int j/\C i j/\Q (g i j) H
def rI0(g:Int->Int->V):R2:=λx y H Q=>∃i j,x=.int i/\y=.int j/\Q (g i j) H
def rU(g:Int->V):V->Hp->VK->Prop:=λx H Q=>∃i,x=.int i/\Q (g i) H
section
variable{X:Cx}{a b:Expr}{ta tb:TE}{pos:Pos}
theorem sP(ha:PE X a ta)(hb:PE X b tb){ζ:List (AW×Obj)}{s:AQ}{σ:St}{H:Hp}{R:V->V->Hp->Prop}(I:Inv X ζ σ H s)
  (h:ta σ H λx H1=>tb σ H1 λy H2=>R x y H2) {Q:AI->AQ->Prop} {f:AI->AI->Sem AI}
  (hf:∀v u s2 x y H2,Inv X ζ σ H2 s2->RelV x v->RelV y u->R x y H2->Ag (Ap X.prog X.w) X.A (f v u) Q X.xe s2) :
  Ag (Ap X.prog X.w) X.A (Cj a X.env) (λv s₁=>Ag (Ap X.prog X.w) X.A (Cj b X.env) (λu s₂=>Ag (Ap X.prog X.w) X.A (f v u) Q X.xe s₂) X.xe s₁) X.xe s:=by
 refine thn (ha ζ s σ H _ I h) λv s1 ⟨x,H1,I1,r1,q1⟩=>?_
 refine thn (hb ζ s1 σ H1 _ I1 q1) λu s2 ⟨y,H2,I2,r2,q2⟩=>?_
 exact hf v u s2 x y H2 I2 r1 r2 q2
theorem uZ{op:Operator}{r:R2}(ho:OpR X (Cy op) r)(ha:PE X a ta)(hb:PE X b tb):PE X (.BinOp a op b pos) (tOp r ta tb):=by
 intro ζ s σ H Q I h;exact wpAny_BinOp (sP ha hb I h λv u s2 x y H2 I2 rx ry q=>ho ζ s2 σ H2 x y v u Q I2 rx ry q)
theorem uY(ho:UnR X (unaryOp op) r)(ha:PE X a ta):PE X (.UnaryOp op a pos) (tUn r ta):=by
 intro ζ s σ H Q I h;exact UnaryOp_ (thn (ha ζ s σ H _ I h) λv s1 ⟨x,H1,I1,r1,q1⟩=>ho ζ s1 σ H1 x v Q I1 r1 q1)
theorem opI{f:AI->AI->Sem AI}{C:Int->Int->Prop}{g:Int->Int->Int}
  (rule:∀(i j:Int) (t u:Tok) (s:AQ) (Q:AI->AQ->Prop) (E:AI->AQ->Prop),C i j->Q (.int (g i j) s.toks) { s with toks:=s.toks+1 }->Ag (Ap X.prog X.w) X.A (f (.int i t) (.int j u)) Q E s) :
  OpR X f (rI C λi j=>.int (g i j)):=by
 intro ζ s σ H x y v u Q I rx ry h;obtain⟨i,j,rfl,rfl,hc,q⟩:=h;obtain⟨t,rfl⟩:=rx;obtain⟨t',rfl⟩:=ry;exact rule i j t t' s _ _ hc ⟨.int (g i j),H,I.tok _,⟨_,rfl⟩,q⟩
theorem lv{f:AI->AI->Sem AI}{g:Int->Int->Int}
  (rule:∀(i j:Int) (t u:Tok) (s:AQ) (Q:AI->AQ->Prop) (E:AI->AQ->Prop),Q (.int (g i j) s.toks) { s with toks:=s.toks+1 }->Ag (Ap X.prog X.w) X.A (f (.int i t) (.int j u)) Q E s) :
  OpR X f (rI0 λi j=>.int (g i j)):=by
 intro ζ s σ H x y v u Q I rx ry h;obtain⟨i,j,rfl,rfl,q⟩:=h;obtain⟨t,rfl⟩:=rx;obtain⟨t',rfl⟩:=ry;exact rule i j t t' s _ _ ⟨.int (g i j),H,I.tok _,⟨_,rfl⟩,q⟩
theorem lw{f:AI->AI->Sem AI}{g:Int->Int->Bool}
  (rule:∀(i j:Int) (t u:Tok) (s:AQ) (Q:AI->AQ->Prop) (E:AI->AQ->Prop),Q (.bool (g i j)) s->Ag (Ap X.prog X.w) X.A (f (.int i t) (.int j u)) Q E s) :
  OpR X f (rI0 λi j=>.bl (g i j)):=by
 intro ζ s σ H x y v u Q I rx ry h;obtain⟨i,j,rfl,rfl,q⟩:=h;obtain⟨t,rfl⟩:=rx;obtain⟨t',rfl⟩:=ry;exact rule i j t t' s _ _ ⟨.bl (g i j),H,I,rfl,q⟩
def jZ(i j:Int):Prop:=0 < j/\j < 1073741824
def jY(i j:Int):Prop:=0<=j/\j<=1000000/\i.natAbs < 2 ^ 64
def Y2(i j:Int):Prop:=(-(2 ^ 64) < i/\i < 2 ^ 64)∨(-(2 ^ 64) < j/\j < 2 ^ 64)
theorem Y2.ok(h:Y2 i j):IntMulOk i j:=by
 rcases h with⟨h1,h2⟩ | ⟨h1,h2⟩
 ·exact .of_left (intBits_le_64 h1 h2)
 ·exact .of_right (intBits_le_64 h1 h2)
theorem ZV(k:Nat):(0:Int)<=2 ^ k:=by
 rw[two_pow_cast];exact Kr _
theorem qo:OpR X (Cy .Add) (rI0 λi j=>.int (i+j)):=lv λ_ _ _ _ _ _ _ q=>add_int q
theorem qf:OpR X (Cy .Sub) (rI0 λi j=>.int (i - j)):=lv λ_ _ _ _ _ _ _ q=>sub_int q
theorem qi:OpR X (Cy .Mult) (rI Y2 λi j=>.int (i * j)):=opI λ_ _ _ _ _ _ _ hc q=>mul_int q hc.ok
theorem lq:OpR X (Cy .FloorDiv) (rI jZ λi j=>.int (i / j)):=opI λi j _ _ _ _ _ hc q=>by
 have h1:(0:Int) < j:=hc.1;have h2:j < 1073741824:=hc.2;exact floordiv_int (by lia) (by rw[WK i (by lia)];exact q) (.inl (PyProof.noPylong_small (by omega)))
theorem qj:OpR X (Cy .Mod) (rI (λ_ j=>0 < j) λi j=>.int (i % j)):=opI λi j _ _ _ _ _ hc q=>by
 have h1:(0:Int) < j:=hc;exact mod_int' (by lia) (by rw[Int.fmod_eq_emod_of_nonneg i (by lia)];exact q)
theorem qh:OpR X (Cy .LShift) (rI jY λi j=>.int (i * 2 ^ j.toNat)):=opI λ_ _ _ _ _ _ _ hc q=>lshift_int_small hc.1 hc.2.1 hc.2.2 q
theorem qg:OpR X (Cy .RShift) (rI (λ_ j=>0<=j) λi j=>.int (i / 2 ^ j.toNat)):=opI λi j _ _ _ _ _ hc q=>
 rshift_int hc (by rw[WK i (ZV _)];exact q)
theorem qm:OpR X (Cy .BitAnd) (rI0 λi j=>.int (BG i j)):=lv λ_ _ _ _ _ _ _ q=>and_int q
theorem qe:OpR X (Cy .BitXor) (rI0 λi j=>.int (CC i j)):=lv λ_ _ _ _ _ _ _ q=>xor_int q
theorem unI{f:AI->Sem AI}{g:Int->Int}
  (rule:∀(i:Int) (t:Tok) (s:AQ) (Q:AI->AQ->Prop) (E:AI->AQ->Prop),Q (.int (g i) s.toks) { s with toks:=s.toks+1 }->Ag (Ap X.prog X.w) X.A (f (.int i t)) Q E s) :
  UnR X f (rU λi=>.int (g i)):=by
 intro ζ s σ H x v Q I rx h;obtain⟨i,rfl,q⟩:=h;obtain⟨t,rfl⟩:=rx;exact rule i t s _ _ ⟨.int (g i),H,I.tok _,⟨_,rfl⟩,q⟩
theorem pU:UnR X (unaryOp .USub) (rU λi=>.int (-i)):=unI λ_ _ _ _ _ q=>neg_int q
end
section
variable{X:Cx}{a b c:Expr}{ta tb tc:TE}{pos:Pos}
theorem i0(I:Inv X ζ σ H s)(q:Q (.bl k) H)(e:k=k'):EP X ζ σ Q (.bool k') s:=by
 subst e;exact⟨.bl k,H,I,rfl,q⟩
theorem ud:OpR X (Bu .Lt) (rI0 λi j=>.bl (decide (i < j))):=lw λ_ _ _ _ _ _ _ q=>lt_int q
theorem ue:OpR X (Bu .LtE) (rI0 λi j=>.bl (decide (i<=j))):=lw λ_ _ _ _ _ _ _ q=>le_int q
theorem uf:OpR X (Bu .Gt) (rI0 λi j=>.bl (decide (j < i))):=lw λ_ _ _ _ _ _ _ q=>gt_int q
theorem ug:OpR X (Bu .GtE) (rI0 λi j=>.bl (decide (j<=i))):=lw λ_ _ _ _ _ _ _ q=>ge_int q
theorem qk:OpR X (Bu .Is) (λx y H Q=>y=.non/\Q (.bl (decide (x=.non))) H):=by
 intro ζ s σ H x y v u Q I rx ry h;obtain⟨rfl,q⟩:=h;cases ry;refine is_none_gen (i0 I q ?_)
 cases x <;> first
  | (cases rx;rfl)
  | (obtain⟨t,rfl⟩:=rx;rfl)
theorem ll:OpR X (Bu .IsNot) (λx y H Q=>y=.non/\Q (.bl (!decide (x=.non))) H):=by
 intro ζ s σ H x y v u Q I rx ry h;obtain⟨rfl,q⟩:=h;cases ry;refine isnot_none_gen (i0 I q ?_)
 cases x <;> first
  | (cases rx;rfl)
  | (obtain⟨t,rfl⟩:=rx;rfl)
theorem OpR.or(h:OpR X f r)(h':OpR X f r'):OpR X f (λx y H Q=>r x y H Q∨r' x y H Q):=by
 intro ζ s σ H x y v u Q I rx ry q
 rcases q with q | q
 ·exact h ζ s σ H x y v u Q I rx ry q
 ·exact h' ζ s σ H x y v u Q I rx ry q
theorem Dw(b:Expr)(h:op≠.In:=by decide)(h2:op≠.NotIn:=by decide):Co op b=false:=by
 have e1:(op==CmpOp.In)=false:=by cases op <;> first | rfl | exact zX rfl h
 have e2:(op==CmpOp.NotIn)=false:=by cases op <;> first | rfl | exact zX rfl h2
 cases b <;> simp[Co,e1,e2]
theorem lc{op:CmpOp}{r:R2}(ho:OpR X (Bu op) r)(ha:PE X a ta)(hb:PE X b tb)(hm:Co op b=false):PE X (.Compare a [op] [b] pos) (tOp r ta tb):=by
 intro ζ s σ H Q I h;exact wpAny_Compare1 (sP ha hb I h λv u s2 x y H2 I2 rx ry q=>ho ζ s2 σ H2 x y v u Q I2 rx ry q) hm
def oA(t:TE):TT:=λσ H Q=>t σ H λx H'=>∃k,x=.bl k/\Q k H'
theorem lF(ho:OpR X (Bu op) r)(ha:PE X a ta)(hb:PE X b tb)(hm:Co op b=false):PT X (.Compare a [op] [b] pos) (oA (tOp r ta tb)):=by
 intro ζ s σ H Q I h
 refine ja (thn (ha ζ s σ H _ I h) λv s1 ⟨x,H1,I1,r1,q1⟩=>thn (hb ζ s1 σ H1 _ I1 q1) λu s2 ⟨y,H2,I2,r2,q2⟩=>
  thn (ho ζ s2 σ H2 x y v u _ I2 r1 r2 q2) λc s3 ⟨z,H3,I3,r3,k,e,q3⟩=>?_) hm
 subst e;cases r3;exact DZ ⟨H3,I3,q3⟩
def fq(r r':R2)(ta tb tc:TE):TE:=λσ H Q=>ta σ H λx H1=>tb σ H1 λy H2=>r x y H2 λz H3=>∃k,z=.bl k /\
 (if k=true then tc σ H3 λw' H4=>r' y w' H4 Q else Q (.bl false) H3)
theorem gd(ho:OpR X (Bu op) r)(xO:OpR X (Bu op') r')(ha:PE X a ta)(hb:PE X b tb)(hc:PE X c tc)
  (hm:lastMarks [op,op'] [b,c]=false:=by with_unfolding_all rfl):PT X (.Compare a [op,op'] [b,c] pos) (oA (fq r r' ta tb tc)):=by
 intro ζ s σ H Q I h
 refine isTrue_chain (thn (ha ζ s σ H _ I h) λv s1 ⟨x,H1,I1,r1,q1⟩=>test_link (thn (hb ζ s1 σ H1 _ I1 q1) λu s2 ⟨y,H2,I2,r2,q2⟩=>
  thn (ho ζ s2 σ H2 x y v u _ I2 r1 r2 q2) λd s3 ⟨z,H3,I3,r3,k,e,q3⟩=>?_)) hm
 subst e;cases r3;refine DZ ?_
 cases k with
 | false=>
  obtain⟨k',e',q'⟩:=q3;cases e';exact ite_ff ⟨H3,I3,q'⟩
 | true=>
  refine ite_tt (test_last (thn (hc ζ s3 σ H3 _ I3 q3) λw' s4 ⟨z',H4,I4,r4,q4⟩=>thn (xO ζ s4 σ H4 y z' u w' _ I4 r2 r4 q4) λd' s5 ⟨z2,H5,I5,r5,k2,e2,q5⟩=>?_));subst e2;cases r5;exact DZ ⟨H5,I5,q5⟩
def sV(K:AG)(x:V)(H:Hp)(k:Bool):Prop:=
 match x with
 | .non=>k=false
 | .bl b=>k=b
 | .int i=>k=(i != 0)
 | .str y=>y.length<=sizeLine/\k=((y.length:Int) != 0)
 | .byt y=>y.size<=sizeLine/\k=((y.size:Int) != 0)
 | .ref p=>(∃xs,SqL K H p xs/\k = !xs.isEmpty)∨(∃xs,SqT K H p xs/\k = !xs.isEmpty)∨∃f',H p=some (.dK f')/\k = !f'.isEmpty
 | _=>False
theorem Z9{κ:Type}{f':List (κ×V)}{vs:List (κ×AI)}(r:KV f' vs):(!vs.isEmpty) = !f'.isEmpty:=by
 cases r <;> rfl
theorem UK(r:Bv xs tx):(!tx.toArray.isEmpty) = !xs.isEmpty:=by
 cases r <;> simp
theorem Qw:(sizeLine:Nat) < 2 ^ 63:=by rw[jh];decide
theorem pV:TruR X (λx H Q=>∃k,sV X.K x H k/\Q k H):=by
 intro ζ s σ H x v Q I rx h;obtain⟨k,e,q⟩:=h;have hl:=Qw;have hs:sizeLine=16777216:=jh
 cases x with
 | non=>
  cases rx;have e':k=false:=e;subst e';exact truthy_none ⟨H,I,q⟩
 | bl b=>
  cases rx;have e':k=b:=e;subst e';exact DZ ⟨H,I,q⟩
 | int i=>
  obtain⟨t,rfl⟩:=rx;have e':k=(i != 0):=e;subst e';exact PySem.P.truthy_int ⟨H,I,q⟩
 | str y=>
  obtain⟨t,rfl⟩:=rx;obtain⟨hy,e'⟩:y.length<=sizeLine/\k=((y.length:Int) != 0):=e;subst e';exact PySem.P.truthy_str (by lia) ⟨H,I.tok _,q⟩
 | byt y=>
  obtain⟨t,rfl⟩:=rx;obtain⟨hy,e'⟩:y.size<=sizeLine/\k=((y.size:Int) != 0):=e;subst e';exact PySem.W.truthy_bytes (by lia) ⟨H,I.tok _,q⟩
 | ref p=>
  cases rx
  have e':(∃xs,SqL X.K H p xs/\k = !xs.isEmpty)∨(∃xs,SqT X.K H p xs/\k = !xs.isEmpty)∨∃f',H p=some (.dK f')/\k = !f'.isEmpty:=e
  rcases e' with⟨xs,hx,e'⟩ | ⟨xs,hx,e'⟩ | ⟨f',hx,e'⟩
  ·subst e'
   obtain⟨tx,r,pl,hz⟩:=I.list hx;have hlen:=r.length;exact wpAny_truthy_list pl.isList (by simp only[Ak];lia) ⟨H,I.tok _,by rw[UK r];exact q⟩
  ·subst e'
   obtain⟨tx,r,pl,hz⟩:=I.tuple hx;have hlen:=r.length;exact truthy_tuple pl (by simp only[Ak];lia) ⟨H,I.tok _,by rw[UK r];exact q⟩
  ·subst e'
   obtain⟨hz,hS,vs,r,m⟩:f'.length<=sizeLine/\(p==EA)=false/\∃vs,KV f' vs/\s.heap.DictOf (Et X.prog X.w) p vs:=I.hok p _ hx
   have hlen:f'.length=vs.length:=FJ r;exact wpAny_truthy_dict hS m (by lia) ⟨H,I.tok _,by rw[Z9 r];exact q⟩
 | _=>exact(show False from e).elim
theorem gb(ha:PE X a ta)(he:∀whole,ZE a X.env whole=(do let v <-whole;Y4 a.pos;Oq [v] (om v))) :
  PT X a (λσ H Q=>ta σ H λx H'=>∃k,sV X.K x H' k/\Q k H'):=by
 intro ζ s σ H Q I h;exact isTrue_plain (thn (ha ζ s σ H _ I h) λv s1 ⟨x,H1,I1,r1,q1⟩=>pV ζ s1 σ H1 x v Q I1 r1 q1) (he _)
theorem vals1(r:Bv [x] us):∃u,us=[u]/\RelV x u:=by
 cases r with
 | cons r1 r2=>cases r2;exact⟨_,rfl,r1⟩
theorem vals2(r:Bv [x,y] us):∃u w',us=[u,w']/\RelV x u/\RelV y w':=by
 cases r with
 | cons r1 r2=>
  cases r2 with
  | cons r3 r4=>cases r4;exact⟨_,_,rfl,r1,r3⟩
theorem eB(hc:X.calm=true):Kl X (.builtin "max") (λxs H Q=>∃i j,xs=[.int i,.int j]/\Q (.int (if j > i then j else i)) H):=by
 intro ζ s σ H xs us Q I r h;obtain⟨i,j,rfl,q⟩:=h;obtain⟨u,w',rfl,⟨t,rfl⟩,⟨t',rfl⟩⟩:=vals2 r
 refine max_two_ints (I.ok.hd hc) λh' tk k=>⟨_,H,I.kept k,?_,q⟩
 by_cases hj:j > i
 ·rw[qX hj,qX hj];exact⟨_,rfl⟩
 ·rw[qY hj,qY hj];exact⟨_,rfl⟩
theorem eA(hc:X.calm=true):Kl X (.builtin "min") (λxs H Q=>∃i j,xs=[.int i,.int j]/\Q (.int (if j < i then j else i)) H):=by
 intro ζ s σ H xs us Q I r h;obtain⟨i,j,rfl,q⟩:=h;obtain⟨u,w',rfl,⟨t,rfl⟩,⟨t',rfl⟩⟩:=vals2 r
 refine min_two_ints (I.ok.hd hc) λh' tk k=>⟨_,H,I.kept k,?_,q⟩
 by_cases hj:j < i
 ·rw[qX hj,qX hj];exact⟨_,rfl⟩
 ·rw[qY hj,qY hj];exact⟨_,rfl⟩
theorem eC:Kl X (.type "int") (λxs H Q=>(∃i,xs=[.int i]/\Q (.int i) H)∨∃k,xs=[.bl k]/\Q (.int (if k then 1 else 0)) H):=by
 intro ζ s σ H xs us Q I r h
 rcases h with⟨i,rfl,q⟩ | ⟨k,rfl,q⟩
 ·obtain⟨u,rfl,t,rfl⟩:=vals1 r
  exact call_int_int ⟨.int i,H,I,⟨_,rfl⟩,q⟩
 ·obtain⟨u,rfl,r1⟩:=vals1 r
  cases r1;exact call_int_bool ⟨.int (if k then 1 else 0),H,I.tok _,⟨_,rfl⟩,q⟩
end
structure aW(h:Cz)(x dx C:AW)(mA:Str->Option AI):Prop where
 obj:h.get? x=some (EU C dx)
 ns:h.Ns1 dx mA
 ne:dx≠x
theorem dS{h:Cz}{dx:AW}{mA:Str->Option AI}(n:h.Ns1 dx mA):∃od,h.get? dx=some od/\∀name,NK name od=some (mA name):=by
 obtain⟨o,es,ep,ho,hd,hk,_,hm⟩:=n;refine⟨o,ho,λname=>?_⟩;have e:=hm name;unfold nsFind findBy at e;rw[<-Array.find?_toList]at e;unfold NK;rw[hd];dsimp only;split
 ·rename_i y q
  rw[q]at e;exact congrArg some e
 ·rename_i q
  rw[q]at e
  have a:es.toList.any (·.refKey)=false:=by
   rw[ei];intro y hy;obtain⟨z,t,hkey⟩:=hk y (GN.mp hy);simp[RL.refKey,hkey]
  have a':¬es.toList.any (·.refKey)=true:=by rw[a];exact AK
  rw[qY a'];exact congrArg some e
theorem aW.look{h}{x dx C}{mA}(I:aW h x dx C mA):∃od,PySem.W.InstAt h x (EU C dx) C (some od)/\∀name,NK name od=some (mA name):=
 let ⟨od,ho,hl⟩:=dS I.ns
 ⟨od,⟨I.obj,rfl,rfl,ho⟩,hl⟩
section
variable{prog:Bg}{w:CL}{A:CO}{E:AI->AQ->Prop}{s:AQ}{K:AG}{x dx C f:AW}{mA:Str->Option AI}{name:Str}{v:AI}
theorem mX(X:K.In s.heap)(I:aW s.heap x dx C mA)(hg:LO K C name=true)(hh:PY K C=true)
  (ha:EC K (.ref C) name=some none) (hv:mA name=some v) (W':cK v=true) (h:Q v { s with toks:=s.toks+1 }) :
  Ag (Ap prog w) A (getAttr (.ref x) name expr) Q E s:=by
 obtain⟨od,J,hl⟩:=I.look;exact PySem.W.get_value X J (OU hg).1 (PySem.W.findObj_own hh ha rfl (by rw[hl,hv])) W' h
theorem il(X:K.In s.heap)(I:aW s.heap x dx C mA)(hg:LO K C name=true)
  (hf:EC K (.ref C) name=some (some (.ref f))) (ht:WD K (.ref f)=true) (hv:mA name=none) (h:Q (.ref f,[.ref x]) s) :
  Ag (Ap prog w) A (eJ (.ref x) name pl) Q E s:=by
 obtain⟨od,J,hl⟩:=I.look;exact PySem.W.method_fn X J (OU hg).1 (OU hg).2 hf (beq_iff_eq.mp ht) (by show(NK name od).map (·.isSome)=some false;rw[hl,hv];rfl) h
theorem ku(X:K.In s.heap)(I:aW s.heap x dx C mA)
  (hs:EC K (.ref C) "__setattr__" = some (some (.builtin "object.__setattr__"))) (hp:aZ K C=true) (ht:Rb K C name=some none) (hh:PY K C=true)
  (hw:Xp mA ns) (hsz:ns.length<=sizeLine)
  (h:∀h',aW h' x dx C (λy=>if y=name then some v else mA y)->FE dx s.heap h'->Q () { s with heap:=h',toks:=s.toks+2 }) :
  Ag (Ap prog w) A (setAttr (.ref x) name v) Q E s:=by
 obtain⟨od,J,hl⟩:=I.look;refine PySem.W.set_plain X J hs (PySem.W.osa_open (s:={ s with toks:=s.toks+1 }) (r:=none) X J hp ht λb=>?_);obtain⟨cd,hc,y9⟩:=PySem.W.any_some hh;have hx:s.heap.get? x=some ⟨.ref C,some dx,.plain,#[]⟩:=I.obj;refine AB (AL (AB (AB (wpAny_loadPart hx (AB (tR (s:={ s with toks:=s.toks+1 }) (PySem.W.looks_clsIn X hc) ?_))))));rw[y9];refine AL (a:=some dx) (AB (AL (AB ?_)))
 refine wpAny_nsSet1 (s:={ s with toks:=s.toks+1 }) I.ns λh' xu wK=>?_
 obtain⟨oD,esD,epD,hoD,hdD,hcD⟩:=xu.count (vd name v hw);refine AB (wpAny_lookBehind hoD (by rw[hdD];exact pastItsLine_dict (At hcD (by rw[Av];lia))) ?_);exact AL (h _ ⟨(wK.2 _ (Br I.ne)).trans I.obj,xu,I.ne⟩ wK)
theorem iI(X:K.In s.heap)(hm:eN K C=true)
  (hi:EC K (.ref C) "__init__" = some (some (.ref f))) (hf:PySem.W.typeIn K (.ref f)=some (.type "function"))
  (h:NE (Ap prog w) (A.under (.builtin "type.__call__" ⟨.ref C :: vs,kw⟩)) (.call (.ref f) ⟨.ref (s.heap.objs.size+1) :: vs,kw⟩) (PySem.W.InitBack (s.heap.objs.size+1) R)
   { s with heap:=(s.heap.push DK).push (EU C s.heap.objs.size) }) :
  NE (Ap prog w) A (.call (.ref C) ⟨vs,kw⟩) R s:=by
 obtain⟨hh,g,d,t,os⟩:=s;exact PySem.W.make_core (PySem.W.makes_of X hm) (PySem.W.looks_findIn X hi) (λself=>PySem.W.bind_fn X self hf) (.inl rfl) h
end
def putF(f:Str)(v:V):List (Str×V)->List (Str×V)
 | []=>[(f,v)]
 | (g,x) :: r=>if g=f then(g,v) :: r else(g,x) :: putF f v r
theorem RV(f g:Str)(v:V):∀fs:List (Str×V),(putF f v fs).lookup g=if g=f then some v else fs.lookup g
 | []=>by
  show JI g [(f,v)]=_
  by_cases h:g=f
  ·have hb:(g==f)=true:=beq_iff_eq.mpr h
   simp only[JI,hb,qX h]
  ·have hb:(g==f)=false:=beq_eq_false_iff_ne.mpr h
   simp only[JI,hb,qY h]
 | (k,x) :: r=>by
  have ih:=RV f g v r;rw[show putF f v ((k,x) :: r)=(if k=f then(k,v) :: r else(k,x) :: putF f v r)from rfl]
  by_cases hk:k=f
  ·rw[qX hk]
   by_cases h:g=k
   ·have hb:(g==k)=true:=beq_iff_eq.mpr h
    simp only[JI,hb,qX (h.trans hk)]
   ·have hb:(g==k)=false:=beq_eq_false_iff_ne.mpr h
    simp only[JI,hb,qY (λe:g=f=>h (e.trans hk.symm))]
  ·rw[qY hk]
   by_cases h:g=k
   ·have hb:(g==k)=true:=beq_iff_eq.mpr h
    simp only[JI,hb,qY (λe:g=f=>hk (h.symm.trans e))]
   ·have hb:(g==k)=false:=beq_eq_false_iff_ne.mpr h
    simp only[JI,hb];exact ih
theorem Qz(f:Str)(v:V):∀fs:List (Str×V),f∈(putF f v fs).map (·.1)/\∀g,g∈fs.map (·.1)->g∈(putF f v fs).map (·.1)
 | []=>⟨by simp[putF],λg h=>by simp at h⟩
 | (k,x) :: r=>by
  obtain⟨i1,i2⟩:=Qz f v r;rw[show putF f v ((k,x) :: r)=(if k=f then(k,v) :: r else(k,x) :: putF f v r)from rfl]
  by_cases hk:k=f
  ·rw[qX hk]
   subst hk;exact⟨by simp,λg h=>by simpa using h⟩
  ·rw[qY hk]
   refine⟨?_,λg h=>?_⟩
   ·rw[BC]
    exact AS _ i1
   ·rw[BC]at h ⊢
    rcases Ae.mp h with e | e
    ·exact Ae.mpr (.inl e)
    ·exact AS _ (i2 g e)
theorem RX(f:Str)(v:V):∀fs:List (Str×V),(putF f v fs).length<=fs.length+1
 | []=>by simp[putF]
 | (k,x) :: r=>by
  have ih:=RX f v r;rw[show putF f v ((k,x) :: r)=(if k=f then(k,v) :: r else(k,x) :: putF f v r)from rfl]
  by_cases hk:k=f
  ·rw[qX hk,Av,Av];lia
  ·rw[qY hk,Av,Av];lia
theorem Oc.some_of(r:Oc (some v) o):∃u,o=some u/\RelV v u:=by
 cases o with
 | none=>exact(show False from r).elim
 | some u=>exact⟨u,rfl,r⟩
theorem Oc.none_of(r:Oc none o):o=none:=by
 cases o with
 | none=>rfl
 | some u=>exact(show False from r).elim
theorem db(r:RelV v u):cK u=true:=by
 cases v with
 | non=>cases(show u=EL from r);rfl
 | bl b=>cases(show u=PV b from r);rfl
 | int i=>obtain⟨t,e⟩:=(show ∃t,u=Xi i t from r);cases e;rfl
 | str x=>obtain⟨t,e⟩:=(show ∃t,u=Xh x t from r);cases e;rfl
 | byt b=>obtain⟨t,e⟩:=(show ∃t,u=sw b t from r);cases e;rfl
 | flt b=>obtain⟨t,e⟩:=(show ∃t,u=su b t from r);cases e;rfl
 | ref a=>cases(show u=BY a from r);rfl
 | ty n=>cases(show u=GM n from r);rfl
section
variable{P:Bg}{w:CL}{H:Hp}{h:Cz}{a C dx:AW}{fs:List (Str×V)}
theorem XB(hok:HOk P w H h)(e:H a=some (.ins C dx fs)):∃mA,aW h a dx C mA/\(∀f,Oc (fs.lookup f) (mA f))/\Xp mA (fs.map (·.1))/\fs.length<=1000/\H dx=some (.own a):=by
 obtain⟨d,z,ne,ob,mA,n,r,q⟩:=(show Do P w H h a (.ins C dx fs)from hok a _ e);exact⟨mA,⟨ob,n,ne⟩,r,q,z,d⟩
end
structure Cls(K:AG)(C:AW):Prop where
 pg:LO K C Str.empty=true
 hd:PY K C=true
 po:aZ K C=true
 sa:EC K (.ref C) "__setattr__" = some (some (.builtin "object.__setattr__"))
theorem Cls.get{K}{C}(c:Cls K C)(f:Str):LO K C f=true:=c.pg
def FR(K:AG)(C:AW)(f:Str):Prop:=EC K (.ref C) f=some none
theorem FR.taker{K}{C}{f}(n:FR K C f):Rb K C f=some none:=by
 unfold Rb;rw[show EC K (.ref C) f=some none from n];rfl
structure VV(K:AG)(C:AW)(m:Str)(f:AW):Prop where
 at_:EC K (.ref C) m=some (some (.ref f))
 fn:WD K (.ref f)=true
 kp:Fi K (.ref f)=true
section
variable{X:Cx}{ζ:List (AW×Obj)}{σ:St}{H:Hp}{s:AQ}{a C dx:AW}{fs:List (Str×V)}{f:Str}{v:V}{A:CO}{E:AI->AQ->Prop}
theorem aC(I:Inv X ζ σ H s)(e:H a=some (.ins C dx fs))(c:Cls X.K C)(n:FR X.K C f)(l:fs.lookup f=some v)
  (h:∀u s',Inv X ζ σ H s'->RelV v u->Q u s'):Ag (Ap X.prog X.w) A (getAttr (.ref a) f b) Q E s:=by
 obtain⟨mA,O,r,_,_,_⟩:=XB I.hok e;obtain⟨u,hu,ru⟩:=Oc.some_of (v:=v) (o:=mA f) (by rw[<-l];exact r f);exact mX I.kIn O (c.get f) c.hd n hu (db ru) (h u _ (I.tok _) ru)
theorem aB(I:Inv X ζ σ H s)(e:H a=some (.ins C dx fs))(c:Cls X.K C)(k:VV X.K C m g)(l:fs.lookup m=none)
  (h:Q (.ref g,[.ref a]) s):Ag (Ap X.prog X.w) A (eJ (.ref a) m pl) Q E s:=by
 obtain⟨mA,O,r,_,_,_⟩:=XB I.hok e;have hn:mA m=none:=Oc.none_of (by rw[<-l];exact r m);exact il I.kIn O (c.get m) k.at_ k.fn hn h
theorem Zh(I:Inv X ζ σ H s)(e:H a=some (.ins C dx fs))(c:Cls X.K C)(n:FR X.K C f)(hl:fs.length < 1000)(ry:RelV y u)
  (h:∀s',Inv X ζ σ (upd H a (.ins C dx (putF f y fs))) s'->Q () s'):Ag (Ap X.prog X.w) A (setAttr (.ref a) f u) Q E s:=by
 obtain⟨mA,O,r,wi,_,ho⟩:=XB I.hok e
 have hz:(fs.map (·.1)).length<=sizeLine:=by rw[AF,jh];lia
 refine ku I.kIn O c.sa c.po n.taker c.hd wi hz λh' O' sb=>h _ ?_
 have hd:∃o,h'.get? dx=some o:=let ⟨o,_,_,e',_⟩:=O'.ns;⟨o,e'⟩
 refine I.write (x:=a) (e:=dx) (by rw[e];exact NF) (.inr ho) (λb q hb z=>(sb.2 b hb).trans z) hd ?_;refine⟨by rw[Bj O.ne];exact ho,?_,O.ne,O'.obj,_,O'.ns,λg=>?_,λg hg=>?_⟩
 ·have:=RX f y fs;lia
 ·show Oc ((putF f y fs).lookup g) (if g=f then some u else mA g)
  rw[RV]
  by_cases q:g=f
  ·rw[qX q,qX q];exact ry
  ·rw[qY q,qY q];exact r g
 ·by_cases q:g=f
  ·rw[q];exact(Qz f y fs).1
  ·refine(Qz f y fs).2 g (wi g λz=>hg ?_)
   show(if g=f then some u else mA g)=none;rw[qY q];exact z
theorem Inv.made(I:Inv X ζ σ H s):Inv X ζ σ (upd (upd H s.heap.objs.size (.own (s.heap.objs.size+1))) (s.heap.objs.size+1) (.ins C s.heap.objs.size []))
  { s with heap:=(s.heap.push DK).push (EU C s.heap.objs.size) }:=by
 have e1:(s.heap.push DK).get? s.heap.objs.size=some DK:=Aa s.heap rfl
 have e2:((s.heap.push DK).push (EU C s.heap.objs.size)).get? (s.heap.objs.size+1)=some (EU C s.heap.objs.size):=by
  have:=Aa (s.heap.push DK) (o:=EU C s.heap.objs.size) rfl;rwa [C0]at this
 have e3:(s.heap.push DK).Ns s.heap.objs.size (λ_=>none):=⟨DK,#[],_,e1,rfl,(λe he=>zX he (by simp)),λ_=>rfl⟩;have I1:=I.laid (a:=s.heap.objs.size) (o:=.own (s.heap.objs.size+1)) (h':=s.heap.push DK) (t':=s.toks) (λb u q=>AJ _ q) (AO _) ⟨_,e1⟩;refine I1.laid (a:=s.heap.objs.size+1) (o:=.ins C s.heap.objs.size []) (t':=s.toks) (λb u q=>AJ _ q) (tV (C0 _ _)) ?_;have ne:s.heap.objs.size≠s.heap.objs.size+1:=BE (DH _);refine⟨by rw[Bj ne,B2],ED _,ne,e2,λ_=>none,(Cz.Ns1.of_empty e3).at λo q=>AJ _ q,λ_=>NF,λy hy=>zX rfl hy⟩
theorem nK(hb:Ht e f env (Cj e env)=Cj e env)
  (h:Ag (Ap prog w) A (Cj e env) (λo s₁=>Ag (Ap prog w) A (getAttr o f true) Q E s₁) E s):Ag (Ap prog w) A (Cj (.Attribute e f pos) env) Q E s:=
 Attribute_any_ h (by rw[arm_eval_Attribute,hb])
end
def tFld(K:AG)(ta:TE)(f:Str):TE:=λσ H Q=>ta σ H λx H1=>∃a C dx fs v,x=.ref a/\H1 a=some (.ins C dx fs)/\Cls K C/\FR K C f/\fs.lookup f=some v/\Q v H1
def sFld(K:AG)(ta tv:TE)(f:Str):TS:=λD σ H=>tv σ H λy H1=>ta σ H1 λx H2=>∃a C dx fs,x=.ref a/\H2 a=some (.ins C dx fs)/\Cls K C/\FR K C f/\fs.length < 1000 /\
 D.nx σ (upd H2 a (.ins C dx (putF f y fs)))
section
variable{X:Cx}{o e value:Expr}{f:Str}{pos pos':Pos}{ta tv:TE}
theorem qW(he:PE X e ta)(hb:Ht e f X.env (Cj e X.env)=Cj e X.env):PE X (.Attribute e f pos) (tFld X.K ta f):=by
 intro ζ s σ H Q I h;refine nK hb (thn (he ζ s σ H _ I h) λu s1 ⟨x,H1,I1,rx,a,C,dx,fs,v,ex,ea,c,n,l,q⟩=>?_);subst ex;obtain rfl:u=BY a:=rx
 exact aC I1 ea c n l λu' s2 I2 ru=>⟨v,H1,I2,ru,q⟩
theorem qM(ha:PE X o ta)(hv:PE X value tv)(hs:HE value (some (.Attribute o f pos')) pos.line X.env=pure false):PS X (.Assign [.Attribute o f pos'] value pos) (sFld X.K ta tv f):=by
 intro ζ s σ H D I h;refine plainObj_wpAny_Assign_Attribute (thn (hv ζ s σ H _ I h) λu s1 ⟨y,H1,I1,ry,q⟩=>thn (ha ζ s1 σ H1 _ I1 q) λov s2 ⟨x,H2,I2,rx,a,C,dx,fs,ex,ea,c,n,l,q2⟩=>?_) hs;subst ex;obtain rfl:ov=BY a:=rx
 exact Zh I2 ea c n l ry λs3 I3=>⟨σ,_,I3,q2⟩
end
structure Hu(k:Nat)(A:CO):Prop where
 hd:A.handled=none
 dp:A.depth+3 * k+5 < recursionLimit
 un:A.units+16 * k+200 < Ey
theorem Hu.mono(r:Hu k A)(h:j<=k):Hu j A:=⟨r.hd,by have:=r.dp;lia,by have:=r.un;lia⟩
theorem Hu.deeper(r:Hu (k+1) A)(env:Env):Hu k (A.deeper env):=
 ⟨r.hd,by have:=r.dp;show A.depth+1+3 * k+5 < _;lia,by have:=r.un;show A.units+3+16 * k+200 < _;lia⟩
theorem Z0{A:CO}{C:AW}{us:List AI}{kw:List (Str×AI)}:(A.under (.builtin "type.__call__" ⟨.ref C :: us,kw⟩)).depth=A.depth+1:=by
 first | rfl | simp[Xl,Code.weight,Code.isCreation,Code.isGuard,Code.isCaller,tX,Y8,guardIds]
theorem Zz{A:CO}{C:AW}{us:List AI}{kw:List (Str×AI)}:(A.under (.builtin "type.__call__" ⟨.ref C :: us,kw⟩)).units=A.units+1:=by
 first | rfl | simp[Xl,Code.cUnits,tX,Y8]
theorem Hu.make{k}{A}(r:Hu (k+1) A)(C:AW)(us:List AI)(kw:List (Str×AI)):Hu k (A.under (.builtin "type.__call__" ⟨.ref C :: us,kw⟩)):=
 ⟨r.hd,by have:=r.dp;rw[Z0];lia,by have:=r.un;rw[Zz];lia⟩
theorem Hu.depth(r:Hu k A):A.depth < recursionLimit:=by have:=r.dp;lia
theorem Hu.units(r:Hu k A):A.units+64 < Ey:=by have:=r.un;lia
def tNil:TA:=λ_ H Q=>Q [] H
def uG(ta:TE)(tr:TA):TA:=λσ H Q=>ta σ H λx H1=>tr σ H1 λxs H2=>Q (x :: xs) H2
section
variable{X:Cx}{e:Expr}{es:List Expr}{te:TE}{t:TA}{pos:Pos}
theorem Kx:PA X [] tNil:=λ_ _ _ _ H Q I h=>Calls.spliced_nil ⟨[],H,I,.nil,h⟩
theorem Ie(ha:PE X e te)(hr:PA X es t)(hs:Ad (e :: es) X.env=(false,Cj e X.env) :: Ad es X.env:=by rfl):PA X (e :: es) (uG te t):=by
 intro pos ζ s σ H Q I h;rw[hs];show Ag _ _ (spliced ((false,Cj e X.env) :: EB pos (Ad es X.env))) _ _ s;refine Calls.spliced_cons (thn (ha ζ s σ H _ I h) λu s1 ⟨x,H1,I1,r1,q1⟩=>?_)
 exact thn (hr pos ζ s1 σ H1 _ I1 q1) λus s2 ⟨xs,H2,I2,r2,q2⟩=>⟨x :: xs,H2,I2,.cons r1 r2,q2⟩
def tTup(t:TA):TE:=λσ H Q=>t σ H λxs H1=>xs.length<=sizeLine/\∀p,H1 p=none->Q (.ref p) (upd H1 p (.tup xs))
def tLst(t:TA):TE:=λσ H Q=>t σ H λxs H1=>xs.length<=sizeLine/\∀p,H1 p=none->Q (.ref p) (upd H1 p (.lst xs))
theorem qS{x1}(h:PA X es t):PE X (.Tuple es x1 pos) (tTup t):=by
 intro ζ s σ H Q I hq;refine wpAny_Tuple_spliced (thn (h pos ζ s σ H _ I hq) λus s1 ⟨xs,H1,I1,r,z,q⟩=>⟨by rw[<-r.length];exact z,?_⟩);have hf:H1 s1.heap.objs.size=none:=I1.hok.fresh (AO _);refine⟨.ref s1.heap.objs.size,upd H1 s1.heap.objs.size (.tup xs),I1.laid (t':=s1.toks) (λb u e=>AJ _ e) (AO _) ?_,rfl,q _ hf⟩;exact⟨⟨z,⟨_,Aa _ rfl,rfl⟩⟩,us,r,⟨_,Aa _ rfl,rfl,_,rfl⟩⟩
theorem qV(h:PA X es t):PE X (.List es pos) (tLst t):=by
 intro ζ s σ H Q I hq;refine wpAny_List_spliced (thn (h pos ζ s σ H _ I hq) λus s1 ⟨xs,H1,I1,r,z,q⟩=>⟨by rw[<-r.length];exact z,?_⟩);have hf:H1 s1.heap.objs.size=none:=I1.hok.fresh (AO _);refine⟨.ref s1.heap.objs.size,upd H1 s1.heap.objs.size (.lst xs),I1.laid (t':=s1.toks) (λb u e=>AJ _ e) (AO _) ?_,rfl,q _ hf⟩;exact⟨z,us,0,r,Aa _ rfl⟩
end
abbrev Sp:=List V->Hp->VK->XK->Prop
abbrev CXT:=List Env->Hp->AQ->XK->AI->AQ->Prop
structure aX(P:Bg)(w:CL)(K:AG)(mg:Str->Option AI)(base:Cz)(A:CO)(outer:List Env)(s:AQ)(H:Hp):Prop where
 frames:A.frames=some outer
 mod:Mod K mg base
 bs:∀b o,base.get? b=some o->s.heap.get? b=some o/\H b=none
 bsz:base.objs.size<=s.heap.objs.size
 funs:s.heap.FunFrames base outer
 frf:∀b∈frs outer,H b=none
 hok:HOk P w H s.heap
 bare:LQ s.gens
def CE(outer:List Env)(P:Bg)(w:CL)(H:Hp)(s:AQ)(Q:VK)(u:AI)(s':AQ):Prop:=
 ∃v H',s'.os=s.os/\LQ s'.gens/\Un (frs outer) [] H H' s.heap s'.heap/\HOk P w H' s'.heap/\RelV v u/\Q v H'
def CR(CX:CXT)(outer:List Env)(P:Bg)(w:CL)(H:Hp)(s:AQ)(Q:VK)(E:XK)(r:Result)(s':AQ):Prop:=
 match r with
 | .ok (.ret u)=>CE outer P w H s Q u s'
 | .ok _=>False
 | .error e=>CX outer H s E e s'
structure Cg(P:Bg)(w:CL)(K:AG)(mg:Str->Option AI)(base:Cz)(CX:CXT)(k:Nat)(f:AW)(fd:Lv)(ps:List Str)(sp:Sp):Prop where
 len:∀vs H Q E,sp vs H Q E->vs.length=ps.length
 run:∀(A:CO) (outer:List Env) (s:AQ) (H:Hp) (args:Args) (us:List AI) (vs:List V) (Q:VK) (E:XK),Hu k A->aX P w K mg base A outer s H->Y9 s fd args (ps.zip us)->Bv vs us->sp vs H Q E ->
  NE (Ap P w) A (.call (.ref f) args) (CR CX outer P w H s Q E) s
theorem Cg.imp{P}{w}{K}{mg}{base}{CX}{k}{f}{fd}{ps}{sp sp'}(F:Cg P w K mg base CX k f fd ps sp)
  (h:∀vs H Q E,sp' vs H Q E->sp vs H Q E):Cg P w K mg base CX k f fd ps sp':=
 ⟨λvs H Q E q=>F.len vs H Q E (h _ _ _ _ q),λA outer s H args us vs Q E hr he hb hv hs=>F.run A outer s H args us vs Q E hr he hb hv (h _ _ _ _ hs)⟩
theorem aX.make{P}{w}{K}{mg}{base}{A}{outer}{s}{H}(e:aX P w K mg base A outer s H)(C:AW)(us:List AI)(kw:List (Str×AI)) :
  aX P w K mg base (A.under (.builtin "type.__call__" ⟨.ref C :: us,kw⟩)) outer s H:=⟨by first | exact e.frames | (simpa[Xl,Code.envs,Y8,pushEnvs]using e.frames),e.mod,e.bs,e.bsz,e.funs,e.frf,e.hok,e.bare⟩
section
variable{X:Cx}{ζ:List (AW×Obj)}{σ:St}{H:Hp}{s s':AQ}
theorem Inv.env0(I:Inv X ζ σ H s):aX X.prog X.w X.K X.mg X.base X.A X.stack s H:=
 ⟨I.ok.frames,I.ok.mod,I.bs,At I.ok.bsz I.sz,I.stack,I.stkFree,I.hok,I.bare⟩
theorem Inv.after(I:Inv X ζ σ H s)(h:CE X.stack X.prog X.w H s Q u s'):EP X ζ σ Q u s':=by
 obtain⟨v,H',os,bare,un,hok,r,q⟩:=h;obtain⟨hh,g,d,t,os'⟩:=s';obtain rfl:os'=s.os:=os;exact⟨v,H',I.call (h':=hh) (g':=g) (d':=d) (t':=t) (ch:=[]) un hok bare (λb z=>zX z (by simp)),r,q⟩
end
def uH(sp:Sp)(xi:List V)(E:St->XK)(t:TA):TE:=λσ H Q=>t σ H λvs H1=>sp (vs++xi) H1 Q (E σ)
def oB(C:AW)(m:Str)(sp:Sp)(xi:List V)(E:St->XK)(ta:TE)(t:TA):TE:=λσ H Q=>ta σ H λx H1=>∃a dx fs,x=.ref a/\H1 a=some (.ins C dx fs)/\fs.lookup m=none /\
 t σ H1 λvs H2=>sp (x :: (vs++xi)) H2 Q (E σ)
def uC(C:AW)(sp:Sp)(xi:List V)(E:St->XK)(t:TA):TE:=λσ H Q=>t σ H λvs H1=>∀x dx,H1 x=none->H1 dx=none->dx≠x ->
 sp (.ref x :: (vs++xi)) (upd (upd H1 dx (.own x)) x (.ins C dx [])) (λv H2=>v=.non/\Q (.ref x) H2) (E σ)
def Binds(K:AG)(fd:Lv)(ps:List Str)(ds:List AI):Prop:=
 ∀(s:AQ) (us:List AI),K.In s.heap->(us++ds).length=ps.length->Y9 s fd ⟨us,[]⟩ (ps.zip (us++ds))
theorem Binds.all{K}{fd}{ps}(h:∀us:List AI,us.length=ps.length->jo fd ⟨us,[]⟩=pure (ps.zip us)):Binds K fd ps []:=λs us _ hl=>by
 rw[Bq]at hl ⊢;exact .of_eq (h us hl)
def Mv(CX:CXT)(X:Cx)(E:St->XK):Prop:=∀(ζ:List (AW×Obj)) (σ:St) (H:Hp) (s:AQ) (e:AI) (s':AQ),Inv X ζ σ H s->CX X.stack H s (E σ) e s'->X.xe e s'
section
variable{X:Cx}{k:Nat}{f C:AW}{fd:Lv}{ps:List Str}{sp:Sp}{E:St->XK}{x m:Str}{p pos apos:Pos}{e o:Expr}{es:List Expr}{ta:TE}{t:TA}
theorem gV(F:Cg X.prog X.w X.K X.mg X.base CX k f fd ps sp)(hr:Hu k X.A)(hb:Binds X.K fd ps ds)(hd:Bv xi ds)(hx:Mv CX X E)
  (I:Inv X ζ σ H s) (r:Bv vs us) (h:sp (vs++xi) H Q (E σ)):Ag (Ap X.prog X.w) X.A (call (.ref f) us) (EP X ζ σ Q) X.xe s:=by
 have r2:Bv (vs++xi) (us++ds):=r.append hd
 have hl:(us++ds).length=ps.length:=by rw[<-r2.length];exact F.len _ _ _ _ h
 refine oh (LN (F.run X.A X.stack s H ⟨us,[]⟩ (us++ds) (vs++xi) Q (E σ) hr I.env0 (hb s us I.kIn hl) r2 h) λr s' hq=>?_)
 cases r with
 | error e=>exact hx ζ σ H s e s' I hq
 | ok fl=>
  cases fl with
  | ret u=>exact I.after hq
  | next=>exact Es hq
  | brk=>exact Es hq
  | cont=>exact Es hq
theorem lg(F:Cg X.prog X.w X.K X.mg X.base CX k f fd ps sp)(hr:Hu k X.A)(hg:Gl X x)(hm:X.mg x=some (.ref f))(hk:Fi X.K (.ref f)=true)(hb:Binds X.K fd ps ds)(hd:Bv xi ds)(hx:Mv CX X E)
  (ha:PA X (e :: es) t) (xl:(x==("__debug__" : Str))=false:=by decide) (he:Ad (e :: es) X.env=(false,Cj e X.env) :: Ad es X.env:=by rfl) (wD:(EB pos (Ad es X.env)).any (·.1)=false:=by rfl) :
  PE X (.Call (.Name x p) (e :: es) [] pos) (uH sp xi E t):=by
 intro ζ s σ H Q I h;refine IE (W9 I hg hm ?_ xl);refine Ot (h₀:=X.base) I.ok.mod.kin hk (thn (ha pos ζ s σ H _ I h) λus s1 ⟨vs,H1,I1,r,q⟩=>⟨I1.kIn,?_⟩) he wD;exact gV F hr hb hd hx I1 r q
theorem lV(he:PE X o ta)(c:Cls X.K C)(hm:VV X.K C m f)(F:Cg X.prog X.w X.K X.mg X.base CX k f fd ps sp)(hr:Hu k X.A)(hb:Binds X.K fd ps ds)(hd:Bv xi ds)(hx:Mv CX X E)(ha:PA X (e :: es) t)
  (yB:Ad (e :: es) X.env=(false,Cj e X.env) :: Ad es X.env:=by rfl) (wD:(EB pos (Ad es X.env)).any (·.1)=false:=by rfl)
  (ht:Cj (.Call (.Attribute o m apos) (e :: es) [] pos) X.env=(do
   let ov <-Cj o X.env
   Y4 apos.atName
   let (f,fts) <-Oq [ov] (eJ ov m pl)
   jn pos f fts (EB pos (Ad (e :: es) X.env)) (KL pos (Fd [] X.env))):=by rfl) :
  PE X (.Call (.Attribute o m apos) (e :: es) [] pos) (oB C m sp xi E ta t):=by
 intro ζ s σ H Q I h;refine PySem.W.methodCall_KW (pl:=pl) (thn (he ζ s σ H _ I h) λu s1 ⟨x,H1,I1,rx,a,dx,fs,ex,ea,l,q⟩=>?_) ht;subst ex;obtain rfl:u=BY a:=rx;refine aB I1 ea c hm l ?_;refine Ot (first:=[.ref a]) (h₀:=X.base) I.ok.mod.kin hm.kp (thn (ha pos ζ s1 σ H1 _ I1 q) λus s2 ⟨vs,H2,I2,r,q2⟩=>⟨I2.kIn,?_⟩) yB wD;exact gV (us:=.ref a :: us) (vs:=.ref a :: vs) F hr hb hd hx I2 (.cons rfl r) q2
structure Mk(K:AG)(C f:AW):Prop where
 makes:eN K C=true
 init:EC K (.ref C) "__init__" = some (some (.ref f))
 fn:WD K (.ref f)=true
 kp:Fi K (.ref C)=true
theorem gU(M:Mk X.K C f)(F:Cg X.prog X.w X.K X.mg X.base CX k f fd ps sp)(hr:Hu (k+1) X.A)(hb:Binds X.K fd ps ds)(hd:Bv xi ds)
  (hx:Mv CX X E) (I:Inv X ζ σ H s) (r:Bv vs us)
  (h:∀x dx,H x=none->H dx=none->dx≠x->sp (.ref x :: (vs++xi)) (upd (upd H dx (.own x)) x (.ins C dx [])) (λv H2=>v=.non/\Q (.ref x) H2) (E σ)) :
  Ag (Ap X.prog X.w) X.A (call (.ref C) us) (EP X ζ σ Q) X.xe s:=by
 have hq:=h (s.heap.objs.size+1) s.heap.objs.size (I.hok.fresh (JN _)) (I.hok.fresh (AO _)) (BE (DH _));have I2:=Inv.made (C:=C) I;have r2:Bv (V.ref (s.heap.objs.size+1) :: (vs++xi)) (BY (s.heap.objs.size+1) :: (us++ds)):=.cons rfl (r.append hd)
 have hl:(BY (s.heap.objs.size+1) :: us++ds).length=ps.length:=by
  have e:=r2.length;rw[F.len _ _ _ _ hq]at e;exact e.symm
 refine oh (iI (f:=f) I.kIn M.makes M.init (beq_iff_eq.mp M.fn) (LN (F.run _ X.stack _ _ ⟨BY (s.heap.objs.size+1) :: us,[]⟩ (BY (s.heap.objs.size+1) :: (us++ds)) _ _ (E σ) (hr.make C us [])
  (I2.env0.make C us []) (hb _ (BY (s.heap.objs.size+1) :: us) I2.kIn hl) r2 hq) λr s' Y'=>?_))
 cases r with
 | error e=>exact hx ζ σ _ _ e s' I2 Y'
 | ok fl=>
  cases fl with
  | ret u=>
   obtain⟨v,H',I3,rv,ev,q3⟩:=I2.after Y';subst ev;exact⟨rv,⟨V.ref (s.heap.objs.size+1),H',I3,rfl,q3⟩⟩
  | next=>exact Es Y'
  | brk=>exact Es Y'
  | cont=>exact Es Y'
theorem lW(M:Mk X.K C f)(F:Cg X.prog X.w X.K X.mg X.base CX k f fd ps sp)(hr:Hu (k+1) X.A)(hg:Gl X x)(hm:X.mg x=some (.ref C))(hb:Binds X.K fd ps ds)(hd:Bv xi ds)(hx:Mv CX X E)
  (ha:PA X (e :: es) t) (xl:(x==("__debug__" : Str))=false:=by decide) (he:Ad (e :: es) X.env=(false,Cj e X.env) :: Ad es X.env:=by rfl) (wD:(EB pos (Ad es X.env)).any (·.1)=false:=by rfl) :
  PE X (.Call (.Name x p) (e :: es) [] pos) (uC C sp xi E t):=by
 intro ζ s σ H Q I h;refine IE (W9 I hg hm ?_ xl);refine Ot (h₀:=X.base) I.ok.mod.kin M.kp (thn (ha pos ζ s σ H _ I h) λus s1 ⟨vs,H1,I1,r,q⟩=>⟨I1.kIn,?_⟩) he wD;exact gU M F hr hb hd hx I1 r q
end
structure BU(N P:List Str)(sc:Uq):Prop where
 kind:sc.kind=.function
 co:sc.isCoroutine=false
 gen:sc.isGenerator=false
 nd:N.Nodup
 pre:N.take P.length=P
 par:∀x∈P,sc.names.lookup x=some .local∨sc.names.lookup x=some .cell
 nofree:∀y∈sc.names,y.2≠.free
theorem V4{kindOf}{x}:∀{binds:List (Str×AI)} {m:Str->Option AI},(∀v,(x,v)∉binds)->eL kindOf binds m x=m x
 | [],_,_=>rfl
 | (n,v) :: r,m,h=>by
  unfold eL;rw[V4 λw hw=>h w (AS _ hw)];split
  ·have:x≠n:=by rintro rfl;exact h v AV
   simp[this]
  ·rfl
theorem V6{kindOf}{x}:∀{binds:List (Str×AI)} {m:Str->Option AI},(∀v,(x,v)∉binds)->eM kindOf binds m x=m x
 | [],_,_=>rfl
 | (n,v) :: r,m,h=>by
  unfold eM;rw[V6 λw hw=>h w (AS _ hw)];split
  ·rfl
  ·have:x≠n:=by rintro rfl;exact h v AV
   simp[this]
theorem V5{kindOf}{x}{v}:∀{P:List Str} {vs:List AI} {i:Nat} {m:Str->Option AI},P.Nodup->P[i]?=some x->vs[i]?=some v->kindOf x=some .local ->
  eL kindOf (P.zip vs) m x=some v
 | [],_,_,_,_,h,_,_=>by simp at h
 | _ :: _,[],_,_,_,_,h,_=>by simp at h
 | p :: P,w :: vs,0,m,nd,h1,h2,hk=>by
  simp at h1 h2;subst h1;subst h2;show eL kindOf ((p,w) :: P.zip vs) m p=_;unfold eL;rw[V4 λv hv=>(Bh.mp nd).1 (Jb hv).1,qX hk];simp
 | p :: P,w :: vs,i+1,m,nd,h1,h2,hk=>by
  show eL kindOf ((p,w) :: P.zip vs) m x=_;unfold eL;exact V5 (i:=i) (Bh.mp nd).2 (by simpa using h1) (by simpa using h2) hk
theorem V7{kindOf}{x}{v}:∀{P:List Str} {vs:List AI} {i:Nat} {m:Str->Option AI},P.Nodup->P[i]?=some x->vs[i]?=some v->kindOf x≠some .local ->
  eM kindOf (P.zip vs) m x=some v
 | [],_,_,_,_,h,_,_=>by simp at h
 | _ :: _,[],_,_,_,_,h,_=>by simp at h
 | p :: P,w :: vs,0,m,nd,h1,h2,hk=>by
  simp at h1 h2;subst h1;subst h2;show eM kindOf ((p,w) :: P.zip vs) m p=_;unfold eM;rw[V6 λv hv=>(Bh.mp nd).1 (Jb hv).1,qY hk];simp
 | p :: P,w :: vs,i+1,m,nd,h1,h2,hk=>by
  show eM kindOf ((p,w) :: P.zip vs) m x=_;unfold eM;exact V7 (i:=i) (Bh.mp nd).2 (by simpa using h1) (by simpa using h2) hk
def start(N:List Str)(vs:List V):St:=vs.map some++Bt (N.length - vs.length) none
def aH(CX:CXT)(P:Bg)(w:CL)(K:AG)(mg:Str->Option AI)(base:Cz)(N:List Str)(qual:Str)(scope:Uq)(f:AW)(cd:AI)(A:CO)(outer:List Env)(s:AQ)(H:Hp)(E:XK):Cx where
 prog:=P
 w:=w
 K:=K
 mg:=mg
 base:=base
 A:=A.deeper (Os qual scope s.heap.objs.size f cd)
 N:=N
 s₀:=s
 H₀:=H
 env:=Os qual scope s.heap.objs.size f cd
 outer:=outer
 stack:=Os qual scope s.heap.objs.size f cd :: outer
 ex:=[]
 calm:=true
 fn:=λ_=>true
 pn:=[]
 xe:=λe s'=>Ag (Ap P w) (A.deeper (Os qual scope s.heap.objs.size f cd)) (leaving (Os qual scope s.heap.objs.size f cd) e) (λ_ s''=>CX outer H s E e s'') (λe' s''=>CX outer H s E e' s'') s'
theorem Yt{sc:Uq}{n:Nat}{x:Str}(h:sc.names.lookup x=some .cell):∃c,(CQ n sc.names []).lookup x=some c:=by
 have q:=WE sc.names n [] (.inl h);exact Cv.mp q
theorem dY{CX:CXT}{P:Bg}{w:CL}{K:AG}{mg:Str->Option AI}{base:Cz}{N ps:List Str}{qual:Str}{scope:Uq}{f:AW}{cd:AI}{A:CO}{outer:List Env}{s s1:AQ}{H:Hp}{E:XK}{us:List AI}{vs:List V}
  (S:BU N ps scope) (hd:A.handled=none) (e0:aX P w K mg base A outer s H) (hl:vs.length=ps.length) (r:Bv vs us)
  (x:InCallC s s.heap.objs.size (eL (Os qual scope s.heap.objs.size f cd).kindOf (ps.zip us) λ_=>none) (CQ (s.heap.objs.size+1) scope.names []) (eM (Os qual scope s.heap.objs.size f cd).kindOf (ps.zip us) λ_=>none) s1) :
  Inv (aH CX P w K mg base N qual scope f cd A outer s H E) [] (start N vs) H s1:=by
 have wD:ps.length<=N.length:=by have:=congrArg Of S.pre;rw[EE]at this;lia
 obtain⟨h1,tk,rfl,hk⟩:=x.done
 have Z':∀b:AW,b∉(aH CX P w K mg base N qual scope f cd A outer s H E).ex:=λb z=>zX (show b∈([]:List AW)from z) (by simp)
 refine⟨⟨e0.mod,S.kind,rfl,rfl,AO _,λy z c h1 h2=>?_,λy hy=>?_,λy c _ h=>?_,λ_=>hd,CO.frames_deeper e0.frames,.inr ⟨rfl,rfl⟩,λb z=>zX z (Z' b),e0.bs,e0.bsz,λb _ _=>Z' b,λb z=>zX z (Z' b),e0.funs,e0.frf⟩,
  rfl,e0.bare,Un.kept hk,⟨_,x.toInCall.ns,λi y v h1 h2 h3=>?_⟩,λy c h=>⟨_,x.cell y c h⟩,e0.hok.fresh (AO _),λy c h=>?_,λp hp=>zX (show p∈([]:List (AW×Obj))from hp) (by simp),e0.hok.kept hk,?_⟩
 ·exact name_of_addr x.apart (D5 h1) (D5 h2)
 ·have hy:scope.names.lookup y=some .cell∨scope.names.lookup y=some .free:=hy
  rcases hy with hy | hy
  ·exact Yt hy
  ·exact zX rfl (S.nofree _ (D5 hy))
 ·exact NM (x.above y c (D5 h))
 ·have hi:i < vs.length:=by
   unfold start at h2
   by_cases hi:i < vs.length
   ·exact hi
   ·rw[Be (by simpa using hi)]at h2
    rw[Dy]at h2
    split at h2 <;> cases h2
  have ha:vs[i]?=some v:=by
   unfold start at h2;rw[A9 (by simpa using hi),AZ]at h2
   cases e:vs[i]? with
   | none=>rw[e]at h2;cases h2
   | some a=>rw[e]at h2;cases h2;rfl
  obtain⟨u,hu,rv⟩:=r.get ha
  have hp:ps[i]?=some y:=by
   rw[<-S.pre,List.getElem?_take_of_lt (by lia)];exact h1
  have ndP:ps.Nodup:=by rw[<-S.pre];exact S.nd.sublist (eZ _ _)
  refine⟨u,rv,?_⟩
  rcases S.par y (BB hp)with k | k
  ·exact .inl ⟨k,V5 ndP hp hu k⟩
  ·obtain⟨c,e⟩:=Yt (n:=s.heap.objs.size+1) k
   refine .inr ⟨.inl k,c,e,?_⟩;have q:=x.cell y c e;rw[V7 ndP hp hu (by show scope.names.lookup y≠_;rw[k];decide)]at q;exact q
 ·exact e0.hok.fresh (NM (x.above y c (D5 h)))
 ·unfold start
  show _=N.length;rw[AY,AF,OG]
  lia
theorem vJ{CX}{P}{w}{K}{mg}{base}{k}{f}{name qual}{params}{body}{scope}{dV kV doc pm wj ct oc}{an od}
  {xY} {N ps} {sp} (lk:K.lookup f=some ⟨oc,od,.func (JM name qual params body scope dV kV doc pm an wj ct),xY⟩) (xP:Se K wj qual=true) (S:BU N ps scope)
  (len:∀vs H Q E,sp vs H Q E->vs.length=ps.length)
  (xm:∀(A:CO) (outer:List Env) (s:AQ) (H:Hp) (vs:List V) (Q:VK) (E:XK),Hu k (A.deeper (Os qual scope s.heap.objs.size f wj))->sp vs H Q E ->
   ∃t,PSs (aH CX P w K mg base N qual scope f wj A outer s H E) body t/\t { nx:=λ_ H'=>Q .non H',rt:=Q } (start N vs) H) :
  Cg P w K mg base CX (k+1) f (JM name qual params body scope dV kV doc pm an wj ct) ps sp:=by
 refine⟨len,λA outer s H args us vs Q E hr e0 hb r zV=>?_⟩;have hl:=len _ _ _ _ zV
 have KX:K.In s.heap:=e0.mod.kin.keeps λb o e=>(e0.bs b o e).1
 have lim:s.heap.NoLimit:=e0.mod.nolimit.keeps λb o e=>(e0.bs b o e).1
 have Α:∀y∈ps.zip us,scope.names.lookup y.1=some .local∨(scope.names.lookup y.1=some .cell/\((CQ (s.heap.objs.size+1) scope.names []).lookup y.1).isSome=true):=λ⟨n,v⟩ hy=>by
  rcases S.par n (Jb hy).1 with q | q
  ·exact .inl q
  ·exact .inr ⟨q,WE _ _ _ (.inl q)⟩
 refine codeAny_call_function hr.depth (KX _ _ lk) rfl S.co S.gen rfl (PySem.W.codeRec_of KX xP) (hb _ _ _ _ ?_)
 refine wpAny_newFunctionEnv_cells S.kind Α λenv he s1 x=>?_
 subst he;refine⟨lim.keeps x.toInCall.keep,codeAny_func ?_⟩;obtain⟨t,ht,hq⟩:=xm A outer s H vs Q E (hr.deeper _) zV;have I:Inv (aH CX P w K mg base N qual scope f wj A outer s H E) [] (start N vs) H s1:=dY S hr.hd e0 hl r x
 refine Ei (ht [] s1 (start N vs) H _ I hq) (λfl s' hs=>?_) λe s' hs=>hs
 have fin:∀{σ':St} {H':Hp} {v:V} {u:AI},Inv (aH CX P w K mg base N qual scope f wj A outer s H E) [] σ' H' s'->RelV v u->Q v H'->CE outer P w H s Q u s':=
  λ{σ' H' v u} J rv q=>⟨v,H',J.os,J.bare,J.base,J.hok,rv,q⟩
 cases fl with
 | ret u=>
  obtain⟨v,σ',H',J,rv,q⟩:=hs;exact fin J rv q
 | next=>
  obtain⟨σ',H',J,q⟩:=hs;exact fin (v:=V.non) (u:=EL) J rfl q
 | brk=>
  obtain⟨_,_,_,q⟩:=hs;exact Es q
 | cont=>
  obtain⟨_,_,_,q⟩:=hs;exact Es q
section
variable{X:Cx}{x:Str}{p pos:Pos}{e:Expr}{es:List Expr}{t:TA}{id T:String}{r:List V->Hp->VK->Prop}
def tCB(r:List V->Hp->VK->Prop)(t:TA):TE:=λσ H Q=>t σ H λvs H1=>r vs H1 Q
theorem Nd(hc:Kl X (.builtin id) r)(hg:Gl X x)(hm:X.mg x=none)(hv:Ix x=some (.builtin id))(ha:PA X (e :: es) t)(hn:x≠"__name__":=by decide) (xl:(x==("__debug__" : Str))=false:=by decide)
  (he:Ad (e :: es) X.env=(false,Cj e X.env) :: Ad es X.env:=by rfl) (wD:(EB pos (Ad es X.env)).any (·.1)=false:=by rfl):PE X (.Call (.Name x p) (e :: es) [] pos) (tCB r t):=by
 intro ζ s σ H Q I h;refine IE (Qx I hg hm hv ?_ hn xl);exact vf (thn (ha pos ζ s σ H _ I h) λus s1 ⟨vs,H1,I1,r1,q1⟩=>hc ζ s1 σ H1 vs us Q I1 r1 q1) he wD
theorem Vk(hc:Kl X (.type T) r)(hg:Gl X x)(hm:X.mg x=none)(hv:Ix x=some (.type T))(ha:PA X (e :: es) t)(hn:x≠"__name__":=by decide) (xl:(x==("__debug__" : Str))=false:=by decide)
  (he:Ad (e :: es) X.env=(false,Cj e X.env) :: Ad es X.env:=by rfl) (wD:(EB pos (Ad es X.env)).any (·.1)=false:=by rfl):PE X (.Call (.Name x p) (e :: es) [] pos) (tCB r t):=by
 intro ζ s σ H Q I h;refine IE (Qx I hg hm hv ?_ hn xl);exact E2 (thn (ha pos ζ s σ H _ I h) λus s1 ⟨vs,H1,I1,r1,q1⟩=>hc ζ s1 σ H1 vs us Q I1 r1 q1) he wD
end
end L2
namespace HT
open PySem PyProof.Rows
def lexLt:List Int->List Int->Bool
 | [],[]=>false
 | [],_ :: _=>true
 | _ :: _,[]=>false
 | x :: xs,y :: ys=>if x=y then lexLt xs ys else decide (x < y)
theorem Z5(x y:Int)(xs ys:List Int):lexLt (x :: xs) (y :: ys)=if x=y then lexLt xs ys else decide (x < y):=rfl
theorem VN:lexLt [] []=false:=rfl
theorem UF(y:Int)(ys:List Int):lexLt [] (y :: ys)=true:=rfl
theorem UG(x:Int)(xs:List Int):lexLt (x :: xs) []=false:=rfl
theorem jB(A:CO)(s:AQ)(a:Int)(t:Tok)(c:Int)(u:Tok):∃e,SeqAt.EqAt A s (.int a t) (.int c u) e/\(e=true↔a=c):=
 ⟨(a==c),SeqAt.EqAt.int_int a t c u,by simp⟩
theorem gY(A:CO)(s:AQ)(a:Int)(t:Tok)(c:Int)(u:Tok)(prog:Bg)(w:CL)(E:AI->AQ->Prop)(Q:AI->AQ->Prop)(h:Q (.bool (decide (a < c))) s) :
  Ag (Ap prog w) A (jk .Lt (.int a t) (.int c u)) Q E s:=
 (ve h:Ag (Ap prog w) A (Bu .Lt (.int a t) (.int c u)) Q E s)
section
open PySem.SeqAt
open PySem.AutoSeq1 (wpAny_loadPart')
open PySem.MeetsSeq PySem.MeetsSeq2 PySem.MeetsSeq3
theorem Uw(l b:AW)(items wk:Array AI)(n n2:Nat)(dd yS:Option AW)(sl yT:Array (Option AI))(ns ms:List Int)(hi:D8 items.toList ns)(hj:D8 wk.toList ms) :
  Meets (RM.«tuple.__lt__» ⟨[.ref l,.ref b],[]⟩)
   (λ_ R s=>s.heap.get? l=some { cls:=.type "tuple",dict:=dd,data:=.seq items n,slots:=sl }/\s.heap.get? b=some { cls:=.type "tuple",dict:=yS,data:=.seq wk n2,slots:=yT } /\
    R (.ok (.ret (.bool (lexLt ns ms)))) s):=
 .of_wp λprog w A R s h=>by
  obtain⟨hp,g,d,tk,os⟩:=s;obtain⟨hl,hb,h⟩:=h;have f2:=AutoSeq1.sub_tuple_tuple
  have z1:items.size=ns.length:=by rw[<-hi.length];simp
  have z2:wk.size=ms.length:=by rw[<-hj.length];simp
  wp_walk using De hl,De hb,wpAny_forIn_list _ (λrest b s'=>b.1=none/\s'=⟨hp,g,d,tk,os⟩/\∃(vs ws:List AI) (zW zY:List Int),rest=vs.zip ws /\
   D8 vs zW/\D8 ws zY/\zW.length+wk.size=zY.length+items.size/\R (.ok (.ret (.bool (lexLt zW zY)))) ⟨hp,g,d,tk,os⟩) _
  case turn=>
   rintro⟨y,x⟩ rest b s' ⟨wc,rfl,vs,ws,zW,zY,hz,hvi,hwi,hlen,hR⟩
   cases hvi with
   | nil=>rw[eY]at hz;cases hz
   | cons a t hvi'=>
    cases hwi with
    | nil=>rw[HI]at hz;cases hz
    | cons c u hwi'=>
     rw[FD]at hz
     injection hz with hyx hrest
     injection hyx with hy hx
     subst hy hx;rw[Z5]at hR;simp only[Av]at hlen;obtain⟨e,he,Β⟩:=jB A.in1 ⟨hp,g,d,tk,os⟩ a t c u;refine AB (he prog w _ _ ?_)
     cases e with
     | true=>
      rw[qX (Β.mp rfl)]at hR
      wp_walk
      exact⟨rfl,rfl,_,_,_,_,hrest,hvi',hwi',by lia,hR⟩
     | false=>
      rw[qY (λq=>zX (Β.mpr q) AK)]at hR;have hri:=gY A.in1 ⟨hp,g,d,tk,os⟩ a t c u prog w
      wp_walk using hri
      exact⟨_,rfl,by simpa using hR⟩
  case fin=>
   rintro⟨b1,b2⟩ s' ⟨wc,rfl,vs,ws,zW,zY,hz,hvi,hwi,hlen,hR⟩;simp only at wc;subst wc
   have hv:lexLt zW zY=decide (items.size < wk.size):=by
    cases hvi with
    | nil=>
     cases hwi with
     | nil=>
      simp only[D4]at hlen;rw[VN];exact(wY (by lia)).symm
     | cons c u hw=>
      simp only[D4,Av]at hlen;rw[UF];exact(wX (by lia)).symm
    | cons a t hv=>
     cases hwi with
     | nil=>
      simp only[D4,Av]at hlen;rw[UG];exact(wY (by lia)).symm
     | cons c u hw=>
      rw[FD]at hz;cases hz
   rw[hv]at hR
   wp_walk
   exact⟨_,rfl,by simpa[tZ]using hR⟩
  case h=>
   exact⟨rfl,rfl,items.toList,wk.toList,ns,ms,rfl,hi,hj,by lia,h⟩
end
section
variable{prog:Bg}{w:CL}{A:CO}{E:AI->AQ->Prop}{s:AQ}
theorem Z2(hl:ZM s.heap l items)(hb:ZM s.heap b wk)(hi:D8 items.toList ns)(hj:D8 wk.toList ms)
  (hu:A.units < Ey) (h:Q (.bool (lexLt ns ms)) s):Ag (Ap prog w) A (Bu .Lt (.ref l) (.ref b)) Q E s:=by
 obtain⟨⟨cls,dd,data,sl⟩,ho,hc,n,hd⟩:=id hl;obtain⟨⟨cls2,yS,data2,yT⟩,ho2,hc2,n2,hd2⟩:=id hb;simp only at hc hd hc2 hd2;subst hc hd hc2 hd2
 exact richCompare_meets_room (op:=.Lt) ⟨_,ho,rfl⟩ ⟨_,ho2,rfl⟩ PySem.F.slot_tuple_lt PySem.F.entry_tuple_lt (PySem.F.args_tuple_lt_2 _ _) (Uw l b items wk n n2 dd yS sl yT ns ms hi hj)
  ⟨ho,ho2,show PV (lexLt ns ms)≠AI.notImplemented/\Q (.bool (lexLt ns ms)) s from⟨(λx=>nomatch x),h⟩⟩ hu
theorem nE(ht:ZM s.heap t vs.toArray)(hb:ZM s.heap b ws.toArray)(hv:vs≠[])
  (h1:ws=[]->Q (.ref t) s) (h2:ws≠[]->Q (.ref s.heap.objs.size) { s with heap:=s.heap.push { cls:=.type "tuple",data:=.seq (vs++ws).toArray } })
  (hsz:vs.length+ws.length<=sizeLine):Ag (Ap prog w) A (Cy .Add (.ref t) (.ref b)) Q E s:=by
 obtain⟨⟨cls,dd,data,sl⟩,ho,hc,n,hd⟩:=id ht;obtain⟨⟨cls2,yS,data2,yT⟩,ho2,hc2,n2,hd2⟩:=id hb;simp only at hc hd hc2 hd2;subst hc hd hc2 hd2
 have e:vs.toArray++ws.toArray=(vs++ws).toArray:=by simp
 by_cases hw:ws=[]
 ·exact eX ⟨_,ho,rfl⟩ ⟨_,ho2,rfl⟩ WC cG Lr LP (Kn _ _)
   (tuple_addW1 t b vs.toArray ws.toArray n n2 dd yS sl yT (by simpa using hv) (by simp[hw])) ⟨ho,ho2,h1 hw⟩
 ·refine eX ⟨_,ho,rfl⟩ ⟨_,ho2,rfl⟩ WC cG Lr LP (Kn _ _)
   (tuple_addW2 t b vs.toArray ws.toArray n n2 dd yS sl yT (by simpa using hv) (by simpa using hw) (by rw[Ak,Ak];exact hsz)) ⟨ho,ho2,?_⟩
  rw[e];exact h2 hw
def sIx(n d:Nat):Option Int->Nat
 | none=>d
 | some v=>if v < 0 then(v+(n:Int)).toNat else min v.toNat n
theorem gR(n d:Nat):sIx n d none=d:=rfl
theorem k9(n d k:Nat):sIx n d (some (k:Int))=min k n:=by
 show(if (k:Int) < 0 then((k:Int)+(n:Int)).toNat else min (k:Int).toNat n)=min k n;rw[qY (by lia),An]
theorem qC(n d:Nat)(hd:d<=n)(o:Option Int):sIx n d o<=n:=by
 cases o with
 | none=>exact hd
 | some v=>
  show(if v < 0 then(v+(n:Int)).toNat else min v.toNat n)<=n
  by_cases hv:v < 0
  ·rw[qX hv];lia
  ·rw[qY hv];exact jp _ _
theorem b7(v:Int)(n d:Nat):(if v < 0 then max (v+(n:Int)) 0 else min v (n:Int))=((sIx n d (some v):Nat):Int):=by
 show(if v < 0 then max (v+(n:Int)) 0 else min v (n:Int))=(((if v < 0 then(v+(n:Int)).toNat else min v.toNat n):Nat):Int)
 by_cases hv:v < 0
 ·simp only[qX hv];lia
 ·simp only[qY hv];lia
theorem aT(lo hi:Option Int)(n:Nat):Iz lo hi 1 (n:Int)=(((sIx n 0 lo:Nat):Int),((sIx n n hi:Nat):Int)):=by
 have h1:¬((1:Int) < 0):=by lia
 unfold Iz;simp only[h1,if_false];refine Prod.ext ?_ ?_
 ·cases lo with
  | none=>rfl
  | some v=>exact b7 v n 0
 ·cases hi with
  | none=>rfl
  | some v=>exact b7 v n n
theorem Zp(i j:Nat):FS (i:Int) (j:Int) 1=j - i:=by
 unfold FS
 have h1:(1:Int) > 0:=by lia
 simp only[h1,if_true,Int.ediv_one]
 split <;> lia
theorem TW(p:QT v o)(h:Q o s):Ag (Ap prog w) A (tf v) Q E s:=by
 cases p with
 | none=>exact slicePart_none h
 | int i t=>exact slicePart_int h
theorem LW{sl:AW}{vl vu:AI}{lo hi:Option Int}{n:Nat}{Q:Int×Int×Nat->AQ->Prop}(hs:s.heap.IsSliceOf sl vl vu .none)(pl:QT vl lo)(pu:QT vu hi)
  (h:Q (((sIx n 0 lo:Nat):Int),1,sIx n n hi - sIx n 0 lo) s):Ag (Ap prog w) A (Pb (.ref sl) (pure (n:Int))) Q E s:=by
 obtain⟨os,yC,hcs,Γ⟩:=id hs;unfold Pb tj;refine AB (AB (G2 yC Γ (x:=vl) rfl (AB (G2 yC Γ (x:=vu) rfl (AB (G2 yC Γ (x:=.none) rfl (AL ?_)))))));refine AB (slicePart_none ?_);show Ag _ _ (if ((1:Int)==0)=true then _ else _) _ _ s;rw[qY (by decide)];refine AB (TW pl (AB (TW pu (AB (AL ?_)))));show Ag _ _ (match Iz lo hi 1 (n:Int)with | (lo,hi)=>pure (lo,(1:Int),FS lo hi 1)) _ _ s;rw[aT lo hi n];show Ag _ _ (pure (((sIx n 0 lo:Nat):Int),(1:Int),FS ((sIx n 0 lo:Nat):Int) ((sIx n n hi:Nat):Int) 1)) _ _ s;rw[Zp];exact AL h
theorem gj(xs:Array AI)(i k:Nat):((DD k).filterMap λ(m:Nat)=>xs[((i:Int)+(m:Int) * 1).toNat]?).toArray=((xs.toList.drop i).take k).toArray:=by
 have e:(λ(m:Nat)=>xs[((i:Int)+(m:Int) * 1).toNat]?)=λm=>xs[i+m]?:=by
  funext m
  have:((i:Int)+(m:Int) * 1).toNat=i+m:=by lia
  rw[this]
 rw[e];have:=pick_run xs i k;rw[List.filterMap_map]at this
 have e2:((λx=>xs[x]?)∘λx=>i+x)=λm=>xs[i+m]?:=rfl
 rw[e2]at this;rw[this]
theorem P6{t sl}{items}{vl vu}{lo hi}{Q}(ht:ZM s.heap t items)(hs:s.heap.IsSliceOf sl vl vu .none)(pl:QT vl lo)(pu:QT vu hi)
  (hw:¬(sIx items.size 0 lo=0/\sIx items.size items.size hi=items.size))
  (h:Q (.ref s.heap.objs.size) { s with heap:=s.heap.push { cls:=.type "tuple",data:=.seq ((items.toList.drop (sIx items.size 0 lo)).take (sIx items.size items.size hi - sIx items.size 0 lo)).toArray } })
  (hsz:items.size<=sizeLine):Ag (Ap prog w) A (LL (.ref t) (.ref sl)) Q E s:=by
 have xG:sizeOk (.seq ((items.toList.drop (sIx items.size 0 lo)).take (sIx items.size items.size hi - sIx items.size 0 lo)).toArray):=by
  show((items.toList.drop (sIx items.size 0 lo)).take (sIx items.size items.size hi - sIx items.size 0 lo)).toArray.size<=sizeLine;rw[Ak,EE,Gn,CD];omega
 have hj:sIx items.size items.size hi<=items.size:=qC _ _ (AO _) hi;obtain⟨os,yC,hcs,Γ⟩:=id hs;have hTs:s.TypeIs (.ref sl) "slice":=⟨os,yC,hcs⟩;unfold LL
 try with_reducible refine E1 ?_
 first | refine AB (AL ?_) | skip
 refine AB (sZ ht.typeIs (by decide) ?_)
 refine AB (Ch (name:=Gp "__getitem__") ht.typeIs CV
  (DP CV ht.typeIs nY ?_ (ot _ _)))
 show Ag _ _ (Pa (.ref t) >>= _) _ _ s;refine AB (tupleItemsOf_ ht ?_);refine AB (Ui hTs ?_);rw[qX (by decide)];refine AB (LW hs pl pu ?_)
 have hno:¬((((sIx items.size 0 lo:Nat):Int)==0&&(1:Int)==1&&(sIx items.size items.size hi - sIx items.size 0 lo)==items.size)=true):=by
  intro q;rw[CU,CU]at q;have q1:((sIx items.size 0 lo:Nat):Int)=0:=eq_of_beq q.1.1;have q2:sIx items.size items.size hi - sIx items.size 0 lo=items.size:=eq_of_beq q.2;exact hw ⟨by lia,by omega⟩
 show Ag _ _ (if (((sIx items.size 0 lo:Nat):Int)==0&&(1:Int)==1&&(sIx items.size items.size hi - sIx items.size 0 lo)==items.size)=true then _ else _) _ _ s;rw[qY hno,gj]
 first
  | exact AB (m:=Fj _) (Cf (AL ⟨_,rfl,AL h⟩) xG)
  | exact AB (m:=Fj _) (Cf (AB (AL (AL ⟨_,rfl,AL h⟩))) xG)
  | exact AB (AB (m:=Fj _) (Cf (AL (AL ⟨_,rfl,AL h⟩)) xG))
  | exact AB (AB (m:=Fj _) (Cf (AL ⟨_,rfl,AL h⟩) xG))
end
end HT
namespace L2
open PySem PySem.Spec PyProof.Rows
section
abbrev TO:=St->Hp->(Option Int->Hp->Prop)->Prop
def PO(X:Cx)(e:Option Expr)(t:TO):Prop:=
 ∀(ζ:List (AW×Obj)) (s:AQ) (σ:St) (H:Hp) (Q:Option Int->Hp->Prop),Inv X ζ σ H s->t σ H Q ->
  Ag (Ap X.prog X.w) X.A (evalPart e X.env) (λu s'=>∃o H',Inv X ζ σ H' s'/\QT u o/\Q o H') X.xe s
def kg:TO:=λ_ H Q=>Q none H
def uA(t:TE):TO:=λσ H Q=>t σ H λx H1=>∃i,x=.int i/\Q (some i) H1
theorem intsAre_of:∀{us:List AI},Bv (ns.map V.int) us->D8 us ns:=by
 induction ns with
 | nil=>intro us r;rw[NG]at r;cases r;exact .nil
 | cons n ns ih=>
  intro us r;rw[BC]at r
  cases r with
  | cons r1 r2=>
   obtain⟨t,e⟩:=r1;subst e;exact .cons n t (ih r2)
section
variable{κ:Type}[DecidableEq κ]
def Ly(f':List (κ×V))(k:κ):Option V:=(f'.find? λkv=>decide (kv.1=k)).map (·.2)
def M5(f':List (κ×V))(k:κ)(v:V):List (κ×V):=
 if (f'.any λkv=>decide (kv.1=k))=true then f'.map (λkv=>if kv.1=k then(kv.1,v)else kv)else f'++[(k,v)]
theorem S9{p:κ×V}{r:List (κ×V)}{k:κ}(e:p.1=k):Ly (p :: r) k=some p.2:=by simp[Ly,CT,e]
theorem TB{p:κ×V}{r:List (κ×V)}{k:κ}(e:¬p.1=k):Ly (p :: r) k=Ly r k:=by simp[Ly,CT,e]
theorem X2(k:κ):∀f':List (κ×V),(f'.any λkv=>decide (kv.1=k))=(Ly f' k).isSome
 | []=>rfl
 | p :: r=>by
  rw[Iy]
  by_cases e:p.1=k
  ·simp only[S9 e,wX e,Bool.true_or,aa]
  ·rw[TB e,wY e,pA];exact X2 k r
theorem RW(f':List (κ×V))(k:κ)(v:V):(M5 f' k v).length<=f'.length+1:=by
 unfold M5;split
 ·rw[AF];lia
 ·rw[AY,Av,D4];lia
theorem Oc.isSome_eq(r:Oc o u):o.isSome=u.isSome:=by
 cases o with
 | none=>cases u with
  | none=>rfl
  | some _=>exact(show False from r).elim
 | some _=>cases u with
  | none=>exact(show False from r).elim
  | some _=>rfl
theorem KV.val{f':List (κ×V)}{vs:List (κ×AI)}(r:KV f' vs)(k:κ):Oc (Ly f' k) (Ul vs k):=by
 unfold KV at r
 induction r with
 | nil=>exact NF
 | @cons p q ps qs h t ih=>
  obtain⟨h1,h2⟩:=h
  by_cases e:p.1=k
  ·have e':q.1=k:=h1.symm.trans e
   have b:Ul (q :: qs) k=some q.2:=by simp[Ul,CT,e']
   rw[S9 e,b];exact h2
  ·have e':¬q.1=k:=λz=>e (h1.trans z)
   have b:Ul (q :: qs) k=Ul qs k:=by simp[Ul,CT,e']
   rw[TB e,b];exact ih
theorem KV.any(r:KV f' vs)(k:κ):(f'.any λkv=>decide (kv.1=k))=vs.any λkv=>decide (kv.1=k):=by
 unfold KV at r
 induction r with
 | nil=>rfl
 | cons h t ih=>rw[Iy,Iy,ih,h.1]
theorem KV.repl(r:KV f' vs)(k:κ)(ry:RelV y u) :
  KV (f'.map λkv=>if kv.1=k then(kv.1,y)else kv) (vs.map λkv=>if kv.1=k then(kv.1,u)else kv):=by
 unfold KV at r ⊢
 induction r with
 | nil=>exact .nil
 | @cons p q ps qs h t ih=>
  rw[BC,BC];refine .cons ?_ ih;obtain⟨h1,h2⟩:=h
  by_cases e:p.1=k
  ·rw[qX e,qX (h1.symm.trans e)];exact⟨h1,ry⟩
  ·rw[qY e,qY (λz=>e (h1.trans z))];exact⟨h1,h2⟩
theorem KV.put(r:KV f' vs)(k:κ)(ry:RelV y u):KV (M5 f' k y) (stored vs k u):=by
 unfold M5 stored;rw[r.any k]
 by_cases e:(vs.any λkv=>decide (kv.1=k))=true
 ·rw[qX e,qX e];exact r.repl k ry
 ·rw[qY e,qY e];exact Y6 r ⟨rfl,ry⟩
theorem KV.length(r:KV f' vs):f'.length=vs.length:=FJ r
end
theorem Yi(r:RelV (kV k) u):(Et P w).is k u=true:=by
 cases k with
 | inl i=>obtain⟨t,e⟩:=(show ∃t,u=Xi i t from r);subst e;exact Yb P w i t
 | inr x=>obtain⟨t,e⟩:=(show ∃t,u=Xh x t from r);subst e;exact Ya P w x t
theorem Vu:∀{ks:List Key} {us:List AI},Bv (ks.map kV) us->ItemsAre (Et P w) ks us
 | [],_,r=>by rw[NG]at r;cases r;exact .nil
 | k :: ks,_,r=>by
  rw[BC]at r
  cases r with
  | cons h t=>exact .cons (Yi h) (Vu t)
abbrev KT(H:Hp):List (List Key×V)->List (List Key×AW×AI)->Prop:=G3 λp q=>p.1=q.1/\H q.2.1=some (.tup (p.1.map kV))/\RelV p.2 q.2.2
theorem KT.val{H:Hp}{f':List (List Key×V)}{xs:List (List Key×AW×AI)}(r:KT H f' xs)(k:List Key):Oc (Ly f' k) ((ZI xs k).map (·.2)):=by
 induction r with
 | nil=>exact NF
 | @cons p q ps qs h t ih=>
  obtain⟨h1,_,h2⟩:=h
  by_cases e:p.1=k
  ·have e':q.1=k:=h1.symm.trans e
   have b:ZI (q :: qs) k=some q.2:=by simp[ZI,CT,e']
   rw[S9 e,b];exact h2
  ·have e':¬q.1=k:=λz=>e (h1.trans z)
   have b:ZI (q :: qs) k=ZI qs k:=by simp[ZI,CT,e']
   rw[TB e,b];exact ih
theorem KT.repl(r:KT H f' xs)(k:List Key)(ry:RelV y u) :
  KT H (f'.map λkv=>if kv.1=k then(kv.1,y)else kv) (xs.map (putAt k u)):=by
 induction r with
 | nil=>exact .nil
 | @cons p q ps qs h t ih=>
  rw[BC,BC];refine .cons ?_ ih;obtain⟨h1,h2,h3⟩:=h;unfold putAt
  by_cases e:p.1=k
  ·rw[qX e,qX (h1.symm.trans e)];exact⟨h1,h2,ry⟩
  ·rw[qY e,qY (λz=>e (h1.trans z))];exact⟨h1,h2,h3⟩
theorem KT.put(r:KT H f' xs)(k:List Key)(hb:H b=some (.tup (k.map kV)))(ry:RelV y u) :
  KT H (M5 f' k y) (storedH xs k b u):=by
 have e:(f'.any λkv=>decide (kv.1=k))=(ZI xs k).isSome:=by
  rw[X2,(r.val k).isSome_eq,Hr]
 unfold M5 storedH;rw[e]
 by_cases q:(ZI xs k).isSome=true
 ·rw[qX q,qX q];exact r.repl k ry
 ·rw[qY q,qY q];exact Y6 r ⟨rfl,hb,ry⟩
theorem KT.keeps(r:KT H f' xs)(ht:∀b ys,H b=some (.tup ys)->H' b=some (.tup ys)):KT H' f' xs:=
 G3.mapP r λ_ _ z=>⟨z.1,ht _ _ z.2.1,z.2.2⟩
variable{X:Cx}{e:Expr}{lo hi:Option Expr}{pos p2:Pos}
theorem lP:PO X none kg:=by
 intro ζ s σ H Q I h;rw[evalPart_none];exact AL ⟨none,H,I,.none,h⟩
theorem lO(h:PE X e te):PO X (some e) (uA te):=by
 intro ζ s σ H Q I hw;rw[evalPart_some]
 refine thn (h ζ s σ H _ I hw) λu s1 ⟨x,H1,I1,r1,q1⟩=>?_
 obtain⟨i,rfl,q⟩:=q1;obtain⟨t,rfl⟩:=r1;exact⟨some i,H1,I1,.int i t,q⟩
def SlR(X:Cx)(r:V->Option Int->Option Int->Hp->VK->Prop):Prop:=
 ∀(ζ:List (AW×Obj)) (s:AQ) (σ:St) (H:Hp) (x:V) (v vl vu:AI) (lo hi:Option Int) (sl:AW) (Q:VK),Inv X ζ σ H s->RelV x v->s.heap.IsSliceOf sl vl vu .none->QT vl lo->QT vu hi->r x lo hi H Q ->
  ∃T id,oj (.type T) "__getitem__" = pure (some (.builtin id))/\s.TypeIs v T/\Ag (Ap X.prog X.w) X.A (LL v (.ref sl)) (EP X ζ σ Q) X.xe s
theorem SlR.or(h:SlR X r)(h':SlR X r'):SlR X (λx lo hi H Q=>r x lo hi H Q∨r' x lo hi H Q):=by
 intro ζ s σ H x v vl vu lo hi sl Q I rx hs pl pu q
 rcases q with q | q
 ·exact h ζ s σ H x v vl vu lo hi sl Q I rx hs pl pu q
 ·exact h' ζ s σ H x v vl vu lo hi sl Q I rx hs pl pu q
def tSl(r:V->Option Int->Option Int->Hp->VK->Prop)(te:TE)(tl th:TO):TE:=λσ H Q=>te σ H λx H1=>tl σ H1 λl H2=>th σ H2 λu H3=>r x l u H3 Q
theorem YS(hr:SlR X r)(he:PE X e te)(hl:PO X lo tl)(hu:PO X hi th):PE X (.Subscript e (.Slice lo hi none p2) pos) (tSl r te tl th):=by
 intro ζ s σ H Q I h;refine ou (thn (he ζ s σ H _ I h) λv s1 ⟨x,H1,I1,r1,q1⟩=>?_);refine wpAny_Slice (thn (hl ζ s1 σ H1 _ I1 q1) λvl s2 ⟨l,H2,I2,pl,q2⟩=>thn (hu ζ s2 σ H2 _ I2 q2) λvu s3 ⟨u,H3,I3,pu,q3⟩=>?_);rw[evalPart_none];refine AL ?_
 have I4:Inv X ζ σ H3 { s3 with heap:=s3.heap.push { cls:=.type "slice",data:=.fields #[vl,vu,.none] } }:=I3.kept (t':=s3.toks) λb ob q=>AJ _ q
 obtain⟨T,id,hT,ht,hg⟩:=hr ζ { s3 with heap:=s3.heap.push { cls:=.type "slice",data:=.fields #[vl,vu,.none] } } σ H3 x v vl vu l u s3.heap.objs.size Q I4 r1 (tH ..) pl pu q3;show Ag (Ap X.prog X.w) X.A (cF e (.Slice lo hi none p2) v (.ref s3.heap.objs.size)) (EP X ζ σ Q) X.xe { s3 with heap:=s3.heap.push { cls:=.type "slice",data:=.fields #[vl,vu,.none] } };exact tail_any (ops:=[.ref s3.heap.objs.size,v]) ht hT hg (by with_unfolding_all rfl)
def R8(xs:List V)(lo hi:Option Int):List V:=(xs.drop (HT.sIx xs.length 0 lo)).take (HT.sIx xs.length xs.length hi - HT.sIx xs.length 0 lo)
theorem RZ(xs:List V)(lo hi:Option Int):(R8 xs lo hi).length<=xs.length:=by
 unfold R8;rw[EE,Gn]
 lia
def rSlT(K:AG):V->Option Int->Option Int->Hp->VK->Prop:=λx lo hi H Q=>∃a xs,x=.ref a/\SqT K H a xs /\
 ¬(HT.sIx xs.length 0 lo=0/\HT.sIx xs.length xs.length hi=xs.length)/\∀p,H p=none->Q (.ref p) (upd H p (.tup (R8 xs lo hi)))
theorem gJ:SlR X (rSlT X.K):=by
 intro ζ s σ H x v vl vu lo hi sl Q I rx hs pl pu h;obtain⟨a,xs,rfl,hx,hw,q⟩:=h;cases rx;obtain⟨tx,r,ht,hz⟩:=I.tuple hx
 have hlen:tx.toArray.size=xs.length:=by rw[Ak];exact r.length.symm
 refine⟨"tuple",_,CV.lookup,ht.typeIs,?_⟩;refine HT.P6 ht hs pl pu (by rw[hlen];exact hw) ?_ (by rw[hlen];exact hz);rw[hlen];refine⟨.ref s.heap.objs.size,_,I.laid (t':=s.toks) (o:=.tup (R8 xs lo hi)) (λb ob q=>AJ _ q) (AO _) ?_,rfl,q _ (I.hok.fresh (AO _))⟩;exact⟨⟨At (RZ xs lo hi) hz,⟨_,Aa _ rfl,rfl⟩⟩,_,(r.drop (HT.sIx xs.length 0 lo)).take (HT.sIx xs.length xs.length hi - HT.sIx xs.length 0 lo),en _ _⟩
def uT(K:AG):R2:=λx y H Q=>∃a b xs ys,x=.ref a/\y=.ref b/\SqT K H a xs/\SqT K H b ys/\xs≠[]/\xs.length+ys.length<=sizeLine /\
 (ys=[]->Q (.ref a) H)/\(ys≠[]->∀p,H p=none->Q (.ref p) (upd H p (.tup (xs++ys))))
theorem Bv.nil_iff(r:Bv xs us):us=[]↔xs=[]:=by
 cases r with
 | nil=>simp
 | cons _ _=>simp
theorem lr:OpR X (Cy .Add) (uT X.K):=by
 intro ζ s σ H x y v u Q I rx ry h;obtain⟨a,b,xs,ys,rfl,rfl,ha,hb,hx,hz,q1,q2⟩:=h;cases rx;cases ry;obtain⟨tx,r1,p1,_⟩:=I.tuple ha;obtain⟨wG,r2,p2,_⟩:=I.tuple hb;refine HT.nE p1 p2 (λz=>hx (r1.nil_iff.mp z)) (λz=>⟨.ref a,H,I,rfl,q1 (r2.nil_iff.mp z)⟩) (λz=>?_) (by rw[<-r1.length,<-r2.length];exact hz);refine⟨.ref s.heap.objs.size,_,I.laid (t':=s.toks) (o:=.tup (xs++ys)) (λb ob q=>AJ _ q) (AO _) ?_,rfl,q2 (λw=>z (r2.nil_iff.mpr w)) _ (I.hok.fresh (AO _))⟩;exact⟨⟨by rw[AY];exact hz,⟨_,Aa _ rfl,rfl⟩⟩,_,r1.append r2,en _ _⟩
end
section
def ixN(n:Nat)(i:Int):Option Nat:=if 0<=i then(if i < n then some i.toNat else none)else if -(n:Int)<=i then some (i+n).toNat else none
def atI{α:Type}(xs:List α)(i:Int):Option α:=(ixN xs.length i).bind λj=>xs[j]?
theorem bb(h:ixN n i=some j):seqIndex? i n=some j/\j < n/\-(n:Int)<=i/\i < n:=by
 unfold ixN at h
 by_cases h0:0<=i
 ·rw[qX h0]at h
  by_cases h1:i < n
  ·rw[qX h1]at h
   have e:i.toNat=j:=Bw h;exact⟨by rw[ji h0 h1,e],by lia,by lia,h1⟩
  ·rw[qY h1]at h;cases h
 ·rw[qY h0]at h
  by_cases h1:-(n:Int)<=i
  ·rw[qX h1]at h
   have e:(i+n).toNat=j:=Bw h;exact⟨by rw[seqIndex_neg (by lia) h1,e],by lia,h1,by lia⟩
  ·rw[qY h1]at h;cases h
theorem cB{α:Type}{xs:List α}{i:Int}{v:α}(h:atI xs i=some v):∃j,seqIndex? i xs.length=some j/\xs[j]?=some v/\j < xs.length/\-(xs.length:Int)<=i/\i < xs.length:=by
 unfold atI at h
 cases e:ixN xs.length i with
 | none=>rw[e]at h;cases h
 | some j=>
  rw[e]at h;obtain⟨h1,h2,h3,h4⟩:=bb e;exact⟨j,h1,h,h2,h3,h4⟩
def Xb(b:Expr):Prop:=∀o i,Xf b false o i=operate [o,i] (LL o i)
def IxR(X:Cx)(r:R2):Prop:=
 ∀(value slice:Expr) (ζ:List (AW×Obj)) (s:AQ) (σ:St) (H:Hp) (x y:V) (v u:AI) (Q:VK),Inv X ζ σ H s->RelV x v->RelV y u->r x y H Q ->
  Xf slice false v u=operate [v,u] (LL v u)->Ag (Ap X.prog X.w) X.A (cF value slice v u) (EP X ζ σ Q) X.xe s
def MtR(X:Cx)(id:String)(r:V->List V->Hp->VK->Prop):Prop:=
 ∀(ζ:List (AW×Obj)) (s:AQ) (σ:St) (H:Hp) (x:V) (xs:List V) (v:AI) (us:List AI) (Q:VK),Inv X ζ σ H s->RelV x v->Bv xs us->r x xs H Q ->
  Ag (Ap X.prog X.w) X.A (call (.builtin id) (v :: us)) (EP X ζ σ Q) X.xe s
section
variable{P:Bg}{w:CL}{H:Hp}{h:Cz}{a:AW}
theorem oF(ok:HOk P w H h)(e:Rd H a u):Do P w H h a u:=e.ok ok
theorem Yp(ok:HOk P w H h)(e:Rd H a (.dK f')):f'.length<=sizeLine/\(a==EA)=false/\∃vs,KV f' vs/\h.DictOf (Et P w) a vs:=
 show Do P w H h a (.dK f')from oF ok e
theorem vO(ok:HOk P w H h)(e:H a=some (.dK f')):f'.length<=sizeLine/\(a==EA)=false/\∃vs,KV f' vs/\h.DictOf (Et P w) a vs:=Yp ok (.inl e)
theorem UJ(ok:HOk P w H h)(e:H a=some (.tup (ks.map kV))):(WA (Et P w)).is h ks a:=by
 obtain⟨_,tx,r,o,h1,h2,n,h3⟩:=(show Do P w H h a (.tup (ks.map kV))from ok a _ e);exact⟨o,tx.toArray,n,h1,h2,h3,by simpa using Vu r⟩
theorem Yo(ok:HOk P w H h)(e:Rd H a (.dT f')):f'.length<=sizeLine/\(a==EA)=false /\
  ∃xs,KT H f' xs/\h.DictOfH (WA (Et P w)) a xs:=by
 obtain⟨z,y,xs,r,o,es,ep,h1,h2,h3,h4,h5⟩:=(show Do P w H h a (.dT f')from oF ok e);refine⟨z,y,xs,r,o,es,ep,h1,h2,h3,h4,λx hx=>?_,h5⟩
 have all:∀{l:List (List Key×V)} {m:List (List Key×AW×AI)},KT H l m->∀x∈m,(WA (Et P w)).is h x.1 x.2.1:=by
  intro l m q
  induction q with
  | nil=>intro x hx;exact nomatch hx
  | @cons p q ps qs hq t ih=>
   intro x hx
   rcases Ae.mp hx with e | hx
   ·subst e
    exact UJ ok (by rw[<-hq.1];exact hq.2.1)
   ·exact ih x hx
 exact all r x hx
theorem vN(ok:HOk P w H h)(e:H a=some (.dT f')):f'.length<=sizeLine/\(a==EA)=false /\
  ∃xs,KT H f' xs/\h.DictOfH (WA (Et P w)) a xs:=Yo ok (.inl e)
end
def QH(H:Hp)(a:AW)(y:V)(r:Option V):Prop:=
 (∃f' k,Rd H a (.dK f')/\y=kV k/\r=Ly f' k)∨∃f' k b,Rd H a (.dT f')/\y=.ref b/\H b=some (.tup (k.map kV))/\r=Ly f' k
def Y1(H:Hp)(a:AW)(y v:V)(H':Hp):Prop:=
 (∃f' k,H a=some (.dK f')/\y=kV k/\f'.length < sizeLine/\H'=upd H a (.dK (M5 f' k v))) ∨
 ∃f' k b,H a=some (.dT f')/\y=.ref b/\H b=some (.tup (k.map kV))/\f'.length < sizeLine/\H'=upd H a (.dT (M5 f' k v))
theorem QH.k{H}{a}{f'}{k}(e:H a=some (.dK f')):QH H a (kV k) (Ly f' k):=.inl ⟨f',k,.inl e,rfl,rfl⟩
theorem QH.t{H}{a b}{f'}{k}(e:H a=some (.dT f'))(eb:H b=some (.tup (k.map kV))):QH H a (.ref b) (Ly f' k):=.inr ⟨f',k,b,.inl e,rfl,eb,rfl⟩
theorem Y1.k{H}{a}{f'}{k}{v}(e:H a=some (.dK f'))(hl:f'.length < sizeLine):Y1 H a (kV k) v (upd H a (.dK (M5 f' k v))):=.inl ⟨f',k,e,rfl,hl,rfl⟩
theorem Y1.t{H}{a b}{f'}{k}{v}(e:H a=some (.dT f'))(eb:H b=some (.tup (k.map kV)))(hl:f'.length < sizeLine) :
  Y1 H a (.ref b) v (upd H a (.dT (M5 f' k v))):=.inr ⟨f',k,b,e,rfl,eb,hl,rfl⟩
variable{X:Cx}{a b:Expr}{ta tb:TE}{pos:Pos}
theorem IxR.or(h:IxR X r)(h':IxR X r'):IxR X (λx y H Q=>r x y H Q∨r' x y H Q):=by
 intro value slice ζ s σ H x y v u Q I rx ry q hs
 rcases q with q | q
 ·exact h value slice ζ s σ H x y v u Q I rx ry q hs
 ·exact h' value slice ζ s σ H x y v u Q I rx ry q hs
theorem ua(hr:IxR X r)(ha:PE X a ta)(hb:PE X b tb)(hs:Xb b):PE X (.Subscript a b pos) (tOp r ta tb):=by
 intro ζ s σ H Q I h;exact ou (sP ha hb I h λv u s2 x y H2 I2 rx ry q=>hr a b ζ s2 σ H2 x y v u Q I2 rx ry q (hs _ _))
def rIxL(K:AG):R2:=λx y H Q=>∃p xs i v,x=.ref p/\y=.int i/\SqL K H p xs/\atI xs i=some v/\Q v H
def rIxT(K:AG):R2:=λx y H Q=>∃p xs i v,x=.ref p/\y=.int i/\SqT K H p xs/\atI xs i=some v/\Q v H
theorem mT:IxR X (rIxL X.K):=by
 intro value slice ζ s σ H x y v u Q I rx ry h hs;obtain⟨p,xs,i,z,rfl,rfl,hq,he,q⟩:=h;cases rx;obtain⟨t,rfl⟩:=ry;obtain⟨tx,r,pl,hz⟩:=I.list hq;obtain⟨j,h1,h2,h3,h4,h5⟩:=cB he;obtain⟨w,ew,wZ⟩:=r.get h2;have hl:=r.length;have hn:=Qw;have fin:EP X ζ σ Q w s:=⟨z,H,I,wZ,q⟩
 by_cases h0:0<=i
 ·have hj:i.toNat=j:=by
   rw[ji h0 h5]at h1;exact Bw h1
  exact item_listR pl.isList h0 (by lia) (by rw[hj];simpa using ew) fin hs
 ·have hj:(i+(tx.toArray.size:Int)).toNat=j:=by
   rw[seqIndex_neg (by lia) h4]at h1;rw[Ak,<-hl];exact Bw h1
  exact eW (x:=w) pl.isList.typeIs sf.lookup
   (wpAny_getItem_list_neg (Q:=λr s'=>r=w/\EP X ζ σ Q r s') pl.isList (by lia) (by rw[Ak] <;> lia) (by lia) (by rw[hj];simpa using ew) ⟨rfl,fin⟩) hs
theorem rG:IxR X (rIxT X.K):=by
 intro value slice ζ s σ H x y v u Q I rx ry h hs;obtain⟨p,xs,i,z,rfl,rfl,hq,he,q⟩:=h;cases rx;obtain⟨t,rfl⟩:=ry;obtain⟨tx,r,pl,hz⟩:=I.tuple hq;obtain⟨j,h1,h2,h3,h4,h5⟩:=cB he;obtain⟨w,ew,wZ⟩:=r.get h2;have hl:=r.length;have hn:=Qw;have fin:EP X ζ σ Q w s:=⟨z,H,I,wZ,q⟩
 exact eW (x:=w) pl.typeIs slot_tuple_getitem.lookup
  (getItem_tuple (j:=j) (Q:=λr s'=>r=w/\EP X ζ σ Q r s') pl (by lia) (by lia) (by rw[Ak,<-hl];exact h1) (by simpa using ew) ⟨rfl,fin⟩) hs
theorem Zy(tx:List AI)(n j:Nat)(u:AI):Gc (·.setIfInBounds j u) { cls:=.type "list",data:=.seq tx.toArray n }={ cls:=.type "list",data:=.seq (tx.set j u).toArray n }:=by
 simp[Gc]
theorem Inv.lst(I:Inv X ζ σ H s)(h:H p=some (.lst xs)) :
  ∃(tx:List AI) (n:Nat),Bv xs tx/\s.heap.get? p=some { cls:=.type "list",data:=.seq tx.toArray n }/\xs.length<=sizeLine:=by
 obtain⟨z,tx,n,r,e⟩:=I.hok p _ h;exact⟨tx,n,r,e,z⟩
theorem Inv.lstUpd{ζ:List (AW×Obj)}{σ:St}{H:Hp}{s:AQ}{p:AW}{xs ys:List V}{tx its':List AI}{n n':Nat}{f:Obj->Obj}(I:Inv X ζ σ H s)(h:H p=some (.lst xs))
  (ho:s.heap.get? p=some { cls:=.type "list",data:=.seq tx.toArray n }) (hf:f { cls:=.type "list",data:=.seq tx.toArray n }={ cls:=.type "list",data:=.seq its'.toArray n' }) (r:Bv ys its') (hz:ys.length<=sizeLine) (t:Nat) :
  Inv X ζ σ (upd H p (.lst ys)) { s with heap:=s.heap.update p f,toks:=t }:=by
 have e:(s.heap.update p f).get? p=some { cls:=.type "list",data:=.seq its'.toArray n' }:=by
  rw[Fe f ho (by rw[hf] <;> rfl),hf]
 refine I.write (x:=p) (e:=p) (by rw[h];trivial) (.inl rfl) (λb u hb q=>(B0 _ _ (Br hb)).trans q) ⟨_,e⟩ ?_;exact⟨hz,its',n',r,e⟩
def uP:V->V->V->Hp->(Hp->Prop)->Prop:=λo i v H Q=>∃p xs k j,o=.ref p/\i=.int k/\H p=some (.lst xs)/\ixN xs.length k=some j/\Q (upd H p (.lst (xs.set j v)))
theorem gM:vY X uP:=by
 intro ζ s σ H o i v ov iv u Q I ro ri rv h;obtain⟨p,xs,k,j,rfl,rfl,hp,hj,q⟩:=h;cases ro;obtain⟨t,rfl⟩:=ri;obtain⟨tx,n,r,ho,hz⟩:=I.lst hp;obtain⟨h1,h2,h3,h4⟩:=bb hj;have hl:=r.length;have hn:=Qw
 have I':Inv X ζ σ (upd H p (.lst (xs.set j v))) { s with heap:=s.heap.update p (Gc (·.setIfInBounds j u)) }:=
  I.lstUpd hp ho (Zy tx n j u) (r.set rv j) (by rw[D3];exact hz) s.toks
 by_cases h0:0<=k
 ·have hk:k.toNat=j:=by
   rw[ji h0 h4]at h1;exact Bw h1
  exact PySem.W.ki_setAt ho h0 (by lia) (by rw[Ak,<-hl];exact h4) (by rw[hk];exact⟨_,I',q⟩)
 ·have hk:(k+(tx.toArray.size:Int)).toNat=j:=by
   rw[seqIndex_neg (by lia) h3]at h1;rw[Ak,<-hl];exact Bw h1
  exact PySem.W.ki_setBack ho (by lia) (by rw[Ak,<-hl];exact h3) (by lia) (by rw[hk];exact⟨_,I',q⟩)
theorem Wn(lo hi:Option Int)(n:Nat):(KJ lo hi none n).1=((HT.sIx n 0 lo:Nat):Int)/\(KJ lo hi none n).2.1=((HT.sIx n n hi:Nat):Int)/\(KJ lo hi none n).2.2=1:=by
 refine⟨?_,?_,rfl⟩
 ·cases lo with
  | none=>simp[KJ,HT.sIx]
  | some i=>
   simp only[KJ,HT.sIx,eQ,show(1:Int) > 0 by decide,if_true]
   by_cases h:i < 0
   ·simp only[h,if_true] <;> lia
   ·simp only[h,if_false] <;> lia
 ·cases hi with
  | none=>simp[KJ,HT.sIx]
  | some i=>
   simp only[KJ,HT.sIx,eQ,show(1:Int) > 0 by decide,if_true]
   by_cases h:i < 0
   ·simp only[h,if_true] <;> lia
   ·simp only[h,if_false] <;> lia
theorem Ux(tx:List AI)(lo hi:Option Int):slicePick tx.toArray lo hi none=((tx.drop (HT.sIx tx.length 0 lo)).take (HT.sIx tx.length tx.length hi - HT.sIx tx.length 0 lo)).toArray:=by
 obtain⟨h1,h2,h3⟩:=Wn lo hi tx.toArray.size;unfold slicePick;rw[h1,h2,h3]
 simp only[sliceRange_one,pick_run,Ak] <;> rfl
def uO(K:AG):V->Option Int->Option Int->Hp->VK->Prop:=λx lo hi H Q=>∃a xs,x=.ref a/\SqL K H a xs/\∀p,H p=none->Q (.ref p) (upd H p (.lst (R8 xs lo hi)))
theorem ko:SlR X (uO X.K):=by
 intro ζ s σ H x v vl vu lo hi sl Q I rx hs pl pu h;obtain⟨a,xs,rfl,hx,q⟩:=h;cases rx;obtain⟨tx,r,ht,hz⟩:=I.list hx;have hlen:=r.length;refine⟨"list",_,sf.lookup,ht.isList.typeIs,?_⟩;refine wpAny_getItem_list_slice ht.isList hs pl pu .none (by simp) ?_ (by rw[Ak] <;> lia);rw[Ux,<-hlen];refine⟨.ref s.heap.objs.size,_,I.laid (t':=s.toks) (o:=.lst (R8 xs lo hi)) (λb ob q=>AJ _ q) (AO _) ?_,rfl,q _ (I.hok.fresh (AO _))⟩;exact⟨At (RZ xs lo hi) hz,_,0,(r.drop (HT.sIx xs.length 0 lo)).take (HT.sIx xs.length xs.length hi - HT.sIx xs.length 0 lo),Aa _ rfl⟩
theorem XU:Kl X (.builtin "len") (λxs H Q=>∃p ys,xs=[.ref p]/\(SqL X.K H p ys∨SqT X.K H p ys)/\Q (.int ys.length) H):=by
 intro ζ s σ H xs us Q I r h;obtain⟨p,ys,rfl,hq,q⟩:=h;obtain⟨u,rfl,rx⟩:=vals1 r;cases rx;have hn:=Qw
 rcases hq with hq | hq
 ·obtain⟨tx,r',pl,hz⟩:=I.list hq
  have hlen:=r'.length;exact Calls.call_len_list pl.isList (by simp only[Ak] <;> lia) ⟨.int ys.length,H,I.tok _,⟨s.toks+1,by rw[Ak,hlen]⟩,q⟩
 ·obtain⟨tx,r',pl,hz⟩:=I.tuple hq
  have hlen:=r'.length;exact len_tuple pl (by simp only[Ak] <;> lia) ⟨.int ys.length,H,I.tok _,⟨s.toks+1,by rw[Ak,hlen]⟩,q⟩
theorem VQ:Kl X (.type "tuple") (λxs H Q=>∃p ys,xs=[.ref p]/\((SqL X.K H p ys/\∀l,H l=none->Q (.ref l) (upd H l (.tup ys)))∨(SqT X.K H p ys/\Q (.ref p) H))):=by
 intro ζ s σ H xs us Q I r h;obtain⟨p,ys,rfl,h⟩:=h;obtain⟨u,rfl,rx⟩:=vals1 r;cases rx
 rcases h with⟨hq,q⟩ | ⟨hq,q⟩
 ·obtain⟨tx,r',pl,hz⟩:=I.list hq
  have hlen:=r'.length;refine call_tuple_list pl.isList (λh' kp=>?_) (by simp only[Ak] <;> lia);have I1:Inv X ζ σ H { s with heap:=h' }:=I.kept (t':=s.toks) kp
  have I2:Inv X ζ σ (upd H h'.objs.size (.tup ys)) { s with heap:=h'.push { cls:=.type "tuple",data:=.seq tx.toArray } }:=
   I1.laid (t':=s.toks) (λb o e=>AJ _ e) (AO _) (show Do X.prog X.w _ _ _ (.tup ys)from⟨⟨hz,⟨_,Aa _ rfl,rfl⟩⟩,tx,r',en _ _⟩)
  exact⟨.ref h'.objs.size,_,I2,rfl,q _ (I1.hok.fresh (AO _))⟩
 ·obtain⟨tx,r',pl,hz⟩:=I.tuple hq
  exact call_tuple_same pl ⟨.ref p,H,I,rfl,q⟩
def tyV(K:AG)(T:String)(x:V)(H:Hp):Prop:=match x with
 | .str _=>T = "str"
 | .int _=>T = "int"
 | .ref p=>(T = "list"/\∃xs,SqL K H p xs)∨(T = "tuple"/\∃o,K.lookup p=some o/\o.cls=.type "tuple"/\o.dict=none) ∨
   (T = "dict"/\((∃f',H p=some (.dK f'))∨∃f',H p=some (.dT f')))∨(T = "set"/\∃S n,H p=some (.set S n))
 | _=>False
theorem fZ(I:Inv X ζ σ H s)(r:RelV x v)(ty:tyV X.K T x H) :
  s.TypeIs v T/\∀a,v=.ref a->∃ob,s.heap.get? a=some ob/\ob.dict=none:=by
 cases x with
 | str z=>
  obtain⟨t,rfl⟩:=r;cases(show T = "str" from ty);exact⟨typeIs_str s z t,λ_ e=>nomatch e⟩
 | int i=>
  obtain⟨t,rfl⟩:=r;cases(show T = "int" from ty);exact⟨typeIs_int s i t,λ_ e=>nomatch e⟩
 | ref p=>
  cases r
  rcases ty with⟨rfl,xs,hq⟩ | ⟨rfl,o,hk,hc,hd⟩ | ⟨rfl,hk⟩ | ⟨rfl,S,n,hk⟩
  ·obtain⟨tx,_,pl,_⟩:=I.list hq
   refine⟨pl.isList.typeIs,λa e=>?_⟩;cases e;obtain⟨o,n,e,c,hd,_⟩:=pl;exact⟨o,e,hd⟩
  ·refine⟨⟨o,I.kIn p o hk,hc⟩,λa e=>?_⟩
   cases e;exact⟨o,I.kIn _ o hk,hd⟩
  ·have z:∃o,s.heap.get? p=some o/\o.ExactDict:=by
    rcases hk with⟨f',hk⟩ | ⟨f',hk⟩
    ·obtain⟨_,_,_,_,o,_,_,e,ex,_⟩:=I.hok p _ hk
     exact⟨o,e,ex⟩
    ·obtain⟨_,_,_,_,o,_,_,e,ex,_⟩:=I.hok p _ hk
     exact⟨o,e,ex⟩
   obtain⟨o,e,ex⟩:=z;refine⟨⟨o,e,ex.1⟩,λa e2=>?_⟩;cases e2;exact⟨o,e,ex.2.1⟩
  ·obtain⟨o,_,_,_,e,ex,_⟩:=I.hok p _ hk
   refine⟨⟨o,e,ex.1⟩,λa e2=>?_⟩;cases e2;exact⟨o,e,ex.2.1⟩
 | _=>exact Es ty
def tBM0(K:AG)(T:String)(r:V->List V->Hp->VK->Prop)(to:TE):TE:=λσ H Q=>to σ H λx H1=>tyV K T x H1/\r x [] H1 Q
def tBM(K:AG)(T:String)(r:V->List V->Hp->VK->Prop)(to:TE)(t:TA):TE:=λσ H Q=>to σ H λx H1=>tyV K T x H1/\t σ H1 λxs H2=>r x xs H2 Q
variable{o e:Expr}{es:List Expr}{to:TE}{t:TA}{name:Str}{apos wz:Pos}{T id:String}{r:V->List V->Hp->VK->Prop}
theorem qc(pa:PlainAttrs T)(slot:Slot T name id)(hty:typeOf (.builtin id)=pure (.type "method_descriptor")) (hm:MtR X id r) (ho:PE X o to)
  (wO:Ht o name X.env (Cj o X.env)=Cj o X.env:=by rfl) (wQ:(apos.endLine==wz.line)=true:=by rfl):PE X (.Call (.Attribute o name apos) [] [] wz) (tBM0 X.K T r to):=by
 intro ζ s σ H Q I h;refine wpAny_Call_method0_late wO wQ (thn (ho ζ s σ H _ I h) λv s1 ⟨x,H1,I1,r1,ty,q1⟩=>?_);obtain⟨h1,h2⟩:=fZ I1 r1 ty;exact⟨T,id,pa,slot,hty,h1,h2,Xx rfl (PySem.evalArgs_none (hm ζ s1 σ H1 x [] v [] Q I1 r1 .nil q1))⟩
theorem ub(pa:PlainAttrs T)(slot:Slot T name id)(hty:typeOf (.builtin id)=pure (.type "method_descriptor")) (hm:MtR X id r) (ho:PE X o to) (ha:PA X (e :: es) t)
  (wO:Ht o name X.env (Cj o X.env)=Cj o X.env:=by rfl)
  (zm:((EB wz (Ad (e :: es) X.env)).all (λx=>!x.1)&&(KL wz (Fd [] X.env)).all (λx=>x.1.isSome)
    &&decide ((e :: es).length+([]:List tF).length+(if ([]:List tF).isEmpty then 0 else 1) < 30))=true:=by rfl)
  (wQ:(apos.endLine==wz.line)=true:=by rfl) (hs:Ad (e :: es) X.env=(false,Cj e X.env) :: Ad es X.env:=by rfl) (wR:(EB wz (Ad es X.env)).any (·.1)=false:=by rfl) :
  PE X (.Call (.Attribute o name apos) (e :: es) [] wz) (tBM X.K T r to t):=by
 intro ζ s σ H Q I h;refine wpAny_Call_method_late wO zm wQ rfl (thn (ho ζ s σ H _ I h) λv s1 ⟨x,H1,I1,r1,ty,q1⟩=>?_);obtain⟨h1,h2⟩:=fZ I1 r1 ty;refine⟨T,id,pa,slot,hty,h1,h2,?_⟩;have hA:=ha wz ζ s1 σ H1 _ I1 q1;rw[hs]at hA ⊢;refine Xx (by show(false||(EB wz (Ad es X.env)).any (·.1))=false;rw[wR] <;> rfl) (Calls.evalArgs_plain ?_)
 exact thn hA λus s2 ⟨vs,H2,I2,r2,q2⟩=>hm ζ s2 σ H2 x vs v us Q I2 r1 r2 q2
end
section
def MtM(X:Cx)(id:String)(r:V->List V->Hp->VK->Prop):Prop:=
 ∀(ζ:List (AW×Obj)) (s:AQ) (σ:St) (H:Hp) (x:V) (xs:List V) (v:AI) (us:List AI) (Q:VK),Inv X ζ σ H s->RelV x v->Bv xs us->r x xs H Q ->
  Ag (Ap X.prog X.w) X.A (call (.builtin id) (v :: us)) (EP X ζ σ Q) X.xe s
theorem Bv.one:∀{x:V} {us:List AI},Bv [x] us->∃u,us=[u]/\RelV x u
 | _,_,.cons r .nil=>⟨_,rfl,r⟩
section
variable{X:Cx}{ζ:List (AW×Obj)}{σ:St}{H:Hp}{s:AQ}{a:AW}{y v:V}{u r:AI}{o:Option V}{A:CO}{E:AI->AQ->Prop}
theorem Inv.big(I:Inv X ζ σ H s):EA < s.heap.objs.size:=by
 have h:BZ < s.heap.objs.size:=(I.mod.glob.keeps I.bk).lt;exact tU (by decide) h
theorem du(hu:A.units+1 < Ey)(I:Inv X ζ σ H s)(g:QH H a y (some v))(ry:RelV y u)(h:∀w' s',Inv X ζ σ H s'->RelV v w'->Q w' s') :
  Ag (Ap X.prog X.w) A (LL (.ref a) u) Q E s:=by
 rcases g with⟨f',k,e,ey,l⟩ | ⟨f',k,b,e,ey,eb,l⟩
 ·subst ey
  obtain⟨z,hd,vs,rel,dd⟩:=Yp I.hok e;obtain⟨w',hw,wZ⟩:=Oc.some_of (v:=v) (o:=Ul vs k) (by rw[l];exact rel.val k);exact wpAny_getItem_of (Yi ry) dd.mapOf hw (h w' _ (I.tok _) wZ)
 ·subst ey
  cases(show u=BY b from ry);obtain⟨z,hd,xs,rel,dd⟩:=Yo I.hok e;obtain⟨w',hw,wZ⟩:=Oc.some_of (v:=v) (o:=(ZI xs k).map (·.2)) (by rw[l];exact rel.val k);obtain⟨p,hp,xQ⟩:=FA.mp hw;refine wpAny_getItem_heap (Lm hu) (UJ I.hok eb) dd hp ?_;rw[xQ];exact h w' _ (I.tok _) wZ
theorem d_in(hu:A.units+1 < Ey)(I:Inv X ζ σ H s)(g:QH H a y o)(ry:RelV y u)(h:∀s',Inv X ζ σ H s'->Q (.bool o.isSome) s') :
  Ag (Ap X.prog X.w) A (Bu .In u (.ref a)) Q E s:=by
 rcases g with⟨f',k,e,ey,l⟩ | ⟨f',k,b,e,ey,eb,l⟩
 ·subst ey
  obtain⟨z,hd,vs,rel,dd⟩:=Yp I.hok e;refine wpAny_in_of (Yi ry) hd dd.mapOf ?_;rw[<-(rel.val k).isSome_eq,<-l];exact h _ (I.tok _)
 ·subst ey
  cases(show u=BY b from ry);obtain⟨z,hd,xs,rel,dd⟩:=Yo I.hok e;refine wpAny_in_heap (Lm hu) (UJ I.hok eb) hd dd ?_;have q:=(rel.val k).isSome_eq;rw[Hr]at q;rw[<-q,<-l];exact h _ (I.tok _)
theorem nB(hu:A.units+1 < Ey)(I:Inv X ζ σ H s)(g:QH H a y o)(ry:RelV y u)(h:∀s',Inv X ζ σ H s'->Q (.bool (!o.isSome)) s') :
  Ag (Ap X.prog X.w) A (Bu .NotIn u (.ref a)) Q E s:=by
 rcases g with⟨f',k,e,ey,l⟩ | ⟨f',k,b,e,ey,eb,l⟩
 ·subst ey
  obtain⟨z,hd,vs,rel,dd⟩:=Yp I.hok e;refine wpAny_notIn_of (Yi ry) hd dd.mapOf ?_;rw[<-(rel.val k).isSome_eq,<-l];exact h _ (I.tok _)
 ·subst ey
  cases(show u=BY b from ry);obtain⟨z,hd,xs,rel,dd⟩:=Yo I.hok e;refine wpAny_notIn_heap (Lm hu) (UJ I.hok eb) hd dd ?_;have q:=(rel.val k).isSome_eq;rw[Hr]at q;rw[<-q,<-l];exact h _ (I.tok _)
theorem bz(I:Inv X ζ σ H s)(mu:Mut (H a))(hs:FE a s.heap h')(he:∃q,h'.get? a=some q)(new:Do X.prog X.w (upd H a ob) h' a ob) :
  Inv X ζ σ (upd H a ob) { s with heap:=h',toks:=t' }:=
 I.write (x:=a) (e:=a) mu (.inl rfl) (λb q hb z=>(hs.2 b hb).trans z) he new
theorem sK(z:f'.length<=sizeLine)(hd:(a==EA)=false)(rel:KV f' vs)(dd:h'.DictOf (Et P w) a vs) :
  Do P w H' h' a (.dK f'):=⟨z,hd,vs,rel,dd⟩
theorem dr(hu:A.units+1 < Ey)(I:Inv X ζ σ H s)(g:Y1 H a y v H')(ry:RelV y u)(rv:RelV v r)(h:∀s',Inv X ζ σ H' s'->Q () s') :
  Ag (Ap X.prog X.w) A (sg (.ref a) u r) Q E s:=by
 rcases g with⟨f',k,e,ey,l,eH⟩ | ⟨f',k,b,e,ey,eb,l,eH⟩
 ·subst ey eH
  obtain⟨z,hd,vs,rel,dd⟩:=vO I.hok e
  have hz:vs.length<=sizeLine:=by rw[<-rel.length];exact z
  have hl:(M5 f' k v).length<=sizeLine:=by have:=RW f' k v;lia
  refine wpAny_setItem_pairs (hsz:=hz) (Yi ry) dd λh' dd' hs=>h _ ?_
  have he:∃q,h'.get? a=some q:=let ⟨q,_,_,hq,_⟩:=dd';⟨q,hq⟩
  exact bz I (by rw[e];exact NF) hs he (sK hl hd (rel.put k rv) dd')
 ·subst ey eH
  cases(show u=BY b from ry);obtain⟨z,hd,xs,rel,dd⟩:=vN I.hok e
  have hz:xs.length<=sizeLine:=by rw[<-FJ rel];exact z
  have hl:(M5 f' k v).length<=sizeLine:=by have:=RW f' k v;lia
  refine wpAny_setItem_heap (hsz:=hz) (Lm hu) (UJ I.hok eb) dd λh' dd' hs=>h _ ?_
  obtain⟨q,es,ep,hq,h2,h3,h4,_,h5⟩:=dd';refine bz I (by rw[e];exact NF) hs ⟨q,hq⟩ ⟨hl,hd,_,(rel.put k eb rv).keeps λc ys ec=>?_,q,es,ep,hq,h2,h3,h4,h5⟩;rw[Bj (uq ec e (λz=>nomatch z))];exact ec
variable{X:Cx}{ζ:List (AW×Obj)}{σ:St}{H:Hp}{s:AQ}{l:AW}{xs ys:List V}
theorem Inv.lset{tx its':List AI}{n:Nat}{f:Array AI->Array AI}{t':Nat}(I:Inv X ζ σ H s)(hH:H l=some (.lst xs))
  (e:s.heap.get? l=some { cls:=.type "list",data:=.seq tx.toArray n }) (hf:f tx.toArray=its'.toArray) (hv:Bv ys its') (hz:ys.length<=sizeLine) :
  Inv X ζ σ (upd H l (.lst ys)) { s with heap:=s.heap.update l (Gc f),toks:=t' }:=by
 have q:=PySem.IsL.update e f;rw[hf]at q;refine I.write (x:=l) (e:=l) (by rw[hH];exact trivial) (.inl rfl) (λb' u hb hu=>(B0 s.heap (Gc f) (Br hb)).trans hu) ⟨_,q⟩ ?_;exact⟨hz,its',_,hv,q⟩
theorem Inv.lnew(I:Inv X ζ σ H s)(hv:Bv ys tx)(hz:ys.length<=sizeLine) :
  Inv X ζ σ (upd H s.heap.objs.size (.lst ys)) { s with heap:=s.heap.push { cls:=.type "list",data:=.seq tx.toArray },toks:=t' }:=
 I.laid (λ_ _ q=>AJ _ q) (AO _) ⟨hz,tx,0,hv,Aa _ rfl⟩
theorem Inv.fresh(I:Inv X ζ σ H s):H s.heap.objs.size=none:=I.hok.fresh (AO _)
theorem Inv.lstM(I:Inv X ζ σ H s)(hH:H l=some (.lst xs)):xs.length<=sizeLine/\∃(tx:List AI) (n:Nat),Bv xs tx/\xs.length=tx.length/\s.heap.get? l=some { cls:=.type "list",data:=.seq tx.toArray n }:=by
 obtain⟨z,tx,n,r,e⟩:=I.hok l _ hH;exact⟨z,tx,n,r,r.length,e⟩
end
def sW(i:Expr):Prop:=∀ov iv,Xf i false ov iv=operate [ov,iv] (LL ov iv)
theorem kl{prog}{w}{A}{E}{s}{env}{value slice}{pos}{T id}{Q}
  (hl:oj (.type T) "__getitem__" = pure (some (.builtin id))) (hs:sW slice)
  (h:Ag (Ap prog w) A (Cj value env) (λo s₁=>Ag (Ap prog w) A (Cj slice env) (λi s₂=>s₂.TypeIs o T/\Ag (Ap prog w) A (LL o i) Q E s₂) E s₁) E s) :
  Ag (Ap prog w) A (Cj (.Subscript value slice pos) env) Q E s:=by
 refine ou (Ei h (λo s₁ h₁=>Ei h₁ (λi s₂ h₂=>?_) λ_ _ x=>x) λ_ _ x=>x);obtain⟨hT,h₂⟩:=h₂;unfold cF;refine AB ?_;rw[getitemInPython_of_ne hT.not_modules];refine AB (wpAny_specialOf hT hl ?_)
 have fin:Ag (Ap prog w) A (Xf slice false o i) (λr s₃=>Ag (Ap prog w) A (letTemporaryGo value o r >>= λ_=>pure r) Q E s₃) E s₂:=by
  rw[hs o i];exact wpAny_operating (Ei h₂ (λr s₃ h₃=>AB (wpAny_letTemporaryGo (AL h₃))) λ_ _ x=>x)
 first
  | exact AL (AB fin)
  | exact AB (AL (AB fin))
  | exact AB fin
theorem Yq(I:Inv X ζ σ H s)(g:QH H a y o):s.TypeIs (.ref a) "dict":=by
 rcases g with⟨f',k,e,_,_⟩ | ⟨f',k,b,e,_,_,_⟩
 ·obtain⟨_,_,vs,_,dd⟩:=Yp I.hok e
  exact dd.typeIs
 ·obtain⟨_,_,xs,_,dd⟩:=Yo I.hok e
  exact dd.typeIs
def uF(td ty:TE):TE:=λσ H Q=>td σ H λx H1=>ty σ H1 λy H2=>∃a v,x=.ref a/\QH H2 a y (some v)/\Q v H2
def uE(ty td:TE):TE:=λσ H Q=>ty σ H λy H1=>td σ H1 λx H2=>∃a o,x=.ref a/\QH H2 a y o/\Q (.bl o.isSome) H2
def az(ty td:TE):TE:=λσ H Q=>ty σ H λy H1=>td σ H1 λx H2=>∃a o,x=.ref a/\QH H2 a y o/\Q (.bl (!o.isSome)) H2
def uM(td ty tv:TE):TS:=λD σ H=>tv σ H λv H1=>td σ H1 λx H2=>ty σ H2 λy H3=>∃a H4,x=.ref a/\Y1 H3 a y v H4/\D.nx σ H4
variable{X:Cx}
def lB:V->List V->Hp->VK->Prop:=λx vs H Q=>∃l xs y,x=.ref l/\vs=[y]/\H l=some (.lst xs)/\xs.length < sizeLine/\Q .non (upd H l (.lst (xs++[y])))
theorem Vo:MtM X "list.append" lB:=by
 intro ζ s σ H x vs v us Q I rx rv h;obtain⟨l,xs,y,rfl,rfl,hH,hz,q⟩:=h;cases rx;obtain⟨u,rfl,ru⟩:=rv.one;obtain⟨z,tx,n,r,hl,e⟩:=I.lstM hH;refine call_meets F.slot_list_append ⟨_,e,rfl⟩ F.entry_list_append (F.args_list_append_2 _ _) (PySem.list_append l tx.toArray n u (by rw[Ak];lia)) ⟨e,?_⟩;refine⟨.non,_,I.lset (its':=tx++[u]) hH e (by simp) (r.append (.cons ru .nil)) ?_,rfl,q⟩;rw[AY,Ai]
 lia
def rCat:R2:=λx y H Q=>∃l b xs zs,x=.ref l/\y=.ref b/\H l=some (.lst xs)/\H b=some (.lst zs)/\xs.length+zs.length<=sizeLine/\∀p,H p=none->Q (.ref p) (upd H p (.lst (xs++zs)))
theorem ql:OpR X (Cy .Add) rCat:=by
 intro ζ s σ H x y v u Q I rx ry h;obtain⟨l,b,xs,zs,rfl,rfl,hH,hB,hz,q⟩:=h;cases rx;cases ry;obtain⟨z,tx,n,r,hl,e⟩:=I.lstM hH;obtain⟨z2,wG,n2,r2,xC,e2⟩:=I.lstM hB;refine PySem.P.add_list e e2 ?_ (by rw[Ak,Ak];lia)
 have ea:tx.toArray++wG.toArray=(tx++wG).toArray:=by simp
 rw[ea];exact⟨.ref _,_,I.lnew (t':=s.toks) (r.append r2) (by rw[AY];omega),rfl,q _ I.fresh⟩
section
variable{X:Cx}{o i value:Expr}{pos pos':Pos}{td ty tv:TE}
theorem lY(hu:X.A.units+1 < Ey)(ho:PE X o td)(hi:PE X i ty)(hs:sW i):PE X (.Subscript o i pos) (uF td ty):=by
 intro ζ s σ H Q I h;refine kl PySem.F.slot_dict_getitem.lookup hs (thn (ho ζ s σ H _ I h) λu s1 ⟨x,H1,I1,rx,q1⟩=>thn (hi ζ s1 σ H1 _ I1 q1) λiv s2 ⟨y,H2,I2,ry,a,v,ex,g,q2⟩=>?_);subst ex;obtain rfl:u=BY a:=rx;exact⟨Yq I2 g,du hu I2 g ry λw' s3 I3 wZ=>⟨v,H2,I3,wZ,q2⟩⟩
theorem gt(hu:X.A.units+1 < Ey)(hi:PE X i ty)(ho:PE X o td):PC X .In i o (uE ty td):=by
 intro ζ s σ H Q I h
 refine thn (hi ζ s σ H _ I h) λiv s1 ⟨y,H1,I1,ry,q1⟩=>thn (ho ζ s1 σ H1 _ I1 q1) λu s2 ⟨x,H2,I2,rx,a,ov,ex,g,q2⟩=>?_
 subst ex;obtain rfl:u=BY a:=rx
 exact d_in hu I2 g ry λs3 I3=>⟨.bl ov.isSome,H2,I3,rfl,q2⟩
theorem dJ(hu:X.A.units+1 < Ey)(hi:PE X i ty)(ho:PE X o td):PC X .NotIn i o (az ty td):=by
 intro ζ s σ H Q I h
 refine thn (hi ζ s σ H _ I h) λiv s1 ⟨y,H1,I1,ry,q1⟩=>thn (ho ζ s1 σ H1 _ I1 q1) λu s2 ⟨x,H2,I2,rx,a,ov,ex,g,q2⟩=>?_
 subst ex;obtain rfl:u=BY a:=rx
 exact nB hu I2 g ry λs3 I3=>⟨.bl (!ov.isSome),H2,I3,rfl,q2⟩
theorem lJ(hu:X.A.units+1 < Ey)(ho:PE X o td)(hi:PE X i ty)(hv:PE X value tv)(hs:HE value (some (.Subscript o i pos')) pos.line X.env=pure false) :
  PS X (.Assign [.Subscript o i pos'] value pos) (uM td ty tv):=by
 intro ζ s σ H D I h;refine wpAny_Assign_Subscript (thn (hv ζ s σ H _ I h) λr s1 ⟨v,H1,I1,rv,q1⟩=>thn (ho ζ s1 σ H1 _ I1 q1) λu s2 ⟨x,H2,I2,rx,q2⟩=>thn (hi ζ s2 σ H2 _ I2 q2) λiv s3 ⟨y,H3,I3,ry,a,H4,ex,g,q3⟩=>?_) hs;subst ex;obtain rfl:u=BY a:=rx
 exact dr hu I3 g ry rv λs4 I4=>⟨σ,H4,I4,q3⟩
end
theorem jG(h:Cz)(hb:EA < h.objs.size):Do P w H (h.push { cls:=.type "dict",data:=.dict #[] }) h.objs.size (.dK []):=
 ⟨ED _,beq_eq_false_iff_ne.mpr (Br (BE hb)),[],.nil,Cz.DictOf.new h⟩
theorem jD(h:Cz)(hb:EA < h.objs.size):Do P w H (h.push { cls:=.type "dict",data:=.dict #[] }) h.objs.size (.dT []):=
 ⟨ED _,beq_eq_false_iff_ne.mpr (Br (BE hb)),[],.nil,_,#[],0,Aa _ rfl,⟨rfl,rfl,rfl⟩,rfl,rfl,EM⟩
def pq:TE:=λ_ H Q=>∀p,H p=none->Q (.ref p) (upd H p (.dK []))
def pd:TE:=λ_ H Q=>∀p,H p=none->Q (.ref p) (upd H p (.dT []))
variable{s:AQ}
section
variable{X:Cx}{pos:Pos}
theorem gr:PE X (.Dict [] [] pos) pq:=λζ s σ H Q I h=>
 tM ⟨.ref s.heap.objs.size,_,I.laid (a:=s.heap.objs.size) (o:=.dK []) (t':=s.toks) (λ_ _ q=>AJ _ q) (AO _) (jG s.heap I.big),rfl,h _ (I.hok.fresh (AO _))⟩
theorem gq:PE X (.Dict [] [] pos) pd:=λζ s σ H Q I h=>
 tM ⟨.ref s.heap.objs.size,_,I.laid (a:=s.heap.objs.size) (o:=.dT []) (t':=s.toks) (λ_ _ q=>AJ _ q) (AO _) (jD s.heap I.big),rfl,h _ (I.hok.fresh (AO _))⟩
end
end
end L2
namespace Att
open PySem PySem.W PySem.Calls PyProof.Rows
theorem R5:∀(ns:List Int) (vs:List AI),WellAll P h vs (ns.map vc)->D8 vs ns:=by
 intro ns
 induction ns with
 | nil=>
  intro vs w;rw[NG]at w;cases w;exact .nil
 | cons n ns ih=>
  intro vs w;rw[BC]at w
  cases w with
  | cons a b=>
   cases a;exact .cons _ _ (ih _ b)
theorem cw{l:OpenLaw}{n:Nat}(hn:l.most=some n){P:Params}{h:Cz}{args:List WData}{vals:List AI}
  (yD:l.row.toRowW.claim.pre args=true) (hwl:WellAll P h vals args) :
  ∃a vs ns,vals=[BY a]/\args=[WData.list (ns.map vc)]/\h.get? a=some { cls:=.type "list",data:=.seq vs.toArray }/\D8 vs ns/\ns.length<=n:=by
 have hsh:WShape.hasAll [] args [.list .int]=true:=(pre_splitW yD).1;have hc:l.pre.holds [] { args:=args }=true:=(pre_splitW yD).2;obtain⟨d,r,rfl,h1,h2⟩:=hasAllW_cons hsh;obtain rfl:=hasAllW_nil h2;obtain⟨xs,rfl,h3⟩:=hasW_list h1;obtain⟨ns,rfl⟩:=items_int h3
 have hlen:ns.length<=n:=by
  unfold OpenLaw.pre at hc
  have h4:(WTm.not (.lt (.lit (.int (n:Int))) (.len (.arg 0)))).holds [] { args:=[.list (ns.map .int)] }=true:=by
   have h4:=(holds_andW hc).1;rw[hn]at h4;exact h4
  have h5:=condW_of h4 (w_not (w_lt w_lit (w_len_list (w_arg rfl))));rw[AF]at h5
  refine Sk λq=>?_
  have q':(n:Int) < ((ns.length:Nat):Int):=by omega
  first
   | (rw[wX q']at h5;exact zX h5 (by decide))
   | (simp at h5;omega)
 cases hwl with
 | cons w1 w2=>
  cases w2
  cases w1 with
  | list ho ya=>exact⟨_,_,ns,rfl,rfl,ho,R5 ns _ ya,hlen⟩
theorem dG(l:OpenLaw)(args:List WData):l.row.toRowW.claim.post args (.bool true) args=true:=
 postW_of (r:=l.row.toRowW) (X:=(true==true))
  (show sr [] (.bool true) .bool=true by first | rfl | decide | simp[sr,WShape.arms,WShape.armsAll])
  (show(WTm.eq .res (.lit (.bool true))).value [] { args:=args,res:=some (.bool true),after:=args }=some (.bool (true==true))from w_eq_bool (w_res rfl) w_lit) rfl
theorem Yw{l:OpenLaw}{n:Nat}{q:Bg}{loose:List Str}{XP:(Str->Option AI)->Cz->Prop}{YP:CL->Cz->Prop}{d:DefRec}
  (hn:l.most=some n) (Δ:d.params.defaults=[])
  (call:∀(w:CL) (s₀ s₁:AQ) (mg mb:Str->Option AI) (fa:AW) (o:Obj) (pm cd doc:AI) (a:AW) (vs:List AI) (ns:List Int),
   Ground q loose [] XP w s₀ mg mb s₁.heap->YP w s₁.heap ->
   s₁.heap.get? fa=some o->o.data=.func (docDef d.name d.params d.body d.scope pm cd doc)->s₁.heap.CodeRec cd d.name->mg d.name=some (.ref fa) ->
   s₁.heap.get? a=some { cls:=.type "list",data:=.seq vs.toArray }->D8 vs ns->ns.length<=n->s₁.gens = #[] ->
   NE (Ap l.prog w) Uo (.call (.ref fa) ⟨[.ref a],[]⟩) (λr s'=>r=.ok (.ret (.bool true))/\OldK s₁.heap s'.heap/\s'.os=s₁.os/\LQ s'.gens) s₁) :
  WalkO q loose XP YP l.row.toRowW d [] (λf vs=>cJ f vs):=by
 intro w s₀ s₁ mg mb G Y fa o pm cd doc dV kV ho hd xP hD zo hg args vals as yD hlay hrd hwl zp;obtain rfl:dV=.none:=Dflts.none hD Δ;obtain rfl:kV=.none:=Dflts.noKw hD;obtain⟨a,vs,ns,rfl,rfl,zq,hints,hlen⟩:=cw hn yD hwl;refine enter_call (LN (call w s₀ s₁ mg mb fa o pm cd doc a vs ns G Y ho (fd_plain hd) xP zo zq hints hlen hg) λr s' hq=>?_);obtain⟨rfl,h2,h3,h4⟩:=hq;exact⟨.inl ⟨.bool true,.bool true,[],rfl,λ_=>rfl,.bool true,dG l _,λ_=>⟨tW,λ_ hm=>(nomatch hm)⟩⟩,h2,h3,h4⟩
end Att
namespace L2
open PySem PySem.Spec PyProof.Rows
theorem Vc:∀{vs:List AI} {ns:List Int},D8 vs ns->Bv (ns.map V.int) vs
 | _,_,.nil=>.nil
 | _,_,.cons n t h=>.cons ⟨t,rfl⟩ (Vc h)
def nT(H:Hp):Prop:=∀b,H b=none∨∃o xs,H b=some (.frz o (.lst xs))
theorem iQ{P}{w}{K}{mg mb}{CX}{k}{fa a}{fd}{x}{sp}{s₁}{vs}{ns}
  (KX:K.In s₁.heap) (yU:s₁.heap.Ns BZ mg) (hb:s₁.heap.Ns ZH mb) (Ε:∀x:Str,x≠"__name__"->mb x=Ix x) (hlim:s₁.heap.NoLimit) (hg:s₁.gens = #[])
  (ha:s₁.heap.get? a=some { cls:=.type "list",data:=.seq vs.toArray }) (hi:D8 vs ns) (hl:ns.length<=sizeLine) (hr:Hu k Uo)
  (F:∀base:Cz,K.In base->base.Ns BZ mg->Cg P w K mg base CX k fa fd [x] sp) (Ζ:∀(s:AQ) (u:AI),Y9 s fd ⟨[u],[]⟩ [(x,u)])
  (zV:∀H:Hp,nT H->SqL K H a (ns.map V.int)->sp [.ref a] H (λv _=>v=.bl true) λ_ _ _=>False)
  (hCX:∀H e s',CX [] H s₁ (λ_ _ _=>False) e s'->False) :
  NE (Ap P w) Uo (.call (.ref fa) ⟨[.ref a],[]⟩) (λr s'=>r=.ok (.ret (.bool true))/\OldK s₁.heap s'.heap/\s'.os=s₁.os/\LQ s'.gens) s₁:=by
 have rv:=Vc hi;have lenV:=hi.length
 have core:∀H:Hp,nT H->SqL K H a (ns.map V.int)->HOk P w H s₁.heap->(∀b,H b≠none->b=a)->(H a≠none->K.lookup a=none) ->
   NE (Ap P w) Uo (.call (.ref fa) ⟨[.ref a],[]⟩) (λr s'=>r=.ok (.ret (.bool true))/\OldK s₁.heap s'.heap/\s'.os=s₁.os/\LQ s'.gens) s₁:=by
  intro H hO hS hok hA hK
  have xH:∀{b:AW} {o:Obj},s₁.heap.get? b=some o->H b=none->(XE s₁.heap H).get? b=some o:=λe n=>ib e n
  have Z':∀{b:AW} {o:Obj} {es:Array RL} {ep:Nat},s₁.heap.get? b=some o->o.data=.dict es ep->H b=none:=λ{b o es ep} e d=>by
   cases q:H b with
   | none=>rfl
   | some u=>
    have e':b=a:=hA b (by rw[q];simp);subst e';rw[ha]at e;cases e;have d':Data.seq vs.toArray _=Data.dict es ep:=d;cases d'
  have nsK:∀{b:AW} {m:Str->Option AI},s₁.heap.Ns b m->(XE s₁.heap H).Ns b m:=λ{b m} ⟨o,es,ep,e,d,r⟩=>⟨o,es,ep,xH e (Z' e d),d,r⟩
  have hKb:K.In (XE s₁.heap H):=λb o e=>xH (KX b o e) (by
   cases q:H b with
   | none=>rfl
   | some u=>
    have e':b=a:=hA b (by rw[q];simp);subst e'
    rw[hK (by rw[q];simp)]at e;cases e)
  have hM:Mod K mg (XE s₁.heap H):=⟨hKb,nsK yU,⟨mb,nsK hb,Ε⟩,let ⟨mc,h1,h2⟩:=hlim;⟨mc,nsK h1,h2⟩⟩;have e0:aX P w K mg (XE s₁.heap H) Uo [] s₁ H:=⟨rfl,hM,λb o e=>lz e,tV (da _ _),trivial,λb hb=>zX (show b∈([]:List AW)from hb) (by simp),hok,.of_eq hg⟩
  refine LN ((F _ hKb (nsK yU)).run Uo [] s₁ H ⟨[.ref a],[]⟩ [.ref a] [.ref a] _ _ hr e0 (Ζ s₁ (.ref a)) (.cons rfl .nil) (zV H hO hS)) λr s' h=>?_
  cases r with
  | error e=>exact(hCX H e s' h).elim
  | ok fl=>
   cases fl with
   | next=>exact Es h
   | brk=>exact Es h
   | cont=>exact Es h
   | ret u=>
    obtain⟨v,H',os,bare,un,hok',r',q⟩:=h;have q':v=.bl true:=q;subst q';obtain rfl:u=PV true:=r';refine⟨rfl,OldK.of_keep λb o e=>?_,os,bare⟩
    cases q:H b with
    | none=>exact un.keep b o e q (by intro z;exact zX (show b∈([]:List AW)from z) (by simp)) (by simp)
    | some u=>
     rcases hO b with z | ⟨ob,xs,z⟩
     ·rw[q]at z;cases z
     ·have z2:=un.frzs b ob _ z
      obtain⟨e1,_⟩:=hok b _ z;obtain⟨e2,_⟩:=hok' b _ z2;rw[e]at e1;cases e1;exact e2
 cases hk:K.lookup a with
 | some o=>
  have e:=KX a o hk;rw[ha]at e;cases e
  refine core (λ_=>none) (λ_=>.inl rfl) (.inr ⟨_,vs.toArray,_,hk,rfl,rfl,rfl,by rw[Ak,lenV];exact hl,by simpa using rv⟩) (λb u z=>by have z':(none:Option HO)=some u:=z;cases z') (λb z=>zX rfl z) λz=>zX rfl z
 | none=>
  refine core (λb=>if b=a then some (.frz { cls:=.type "list",data:=.seq vs.toArray } (.lst (ns.map V.int)))else none) (λb=>?_) (.inl (.inr ⟨{ cls:=.type "list",data:=.seq vs.toArray },qX rfl⟩)) (λb u z=>?_) (λb z=>?_) λ_=>hk
  ·by_cases hb:b=a
   ·exact .inr ⟨_,_,qX hb⟩
   ·exact .inl (qY hb)
  ·by_cases hb:b=a
   ·have z':=(qX hb).symm.trans z
    cases z';subst hb;exact⟨ha,by rw[AF];exact hl,vs,_,rv,ha⟩
   ·have z':=(qY hb).symm.trans z
    cases z'
  ·by_cases hb:b=a
   ·exact hb
   ·exact zX (qY hb) z
theorem j5{l:PySem.W.OpenLaw}{n k:Nat}{q:Bg}{loose:List Str}{XP:(Str->Option AI)->Cz->Prop}{YP:CL->Cz->Prop}{d:DefRec}{K:Params->AG}{CX:CL->CXT}{sp:CL->Sp}{x:Str}
  (hn:l.most=some n) (xu:n<=sizeLine) (Δ:d.params.defaults=[]) (hr:Hu k Uo)
  (hY:∀(w:CL) (h:Cz),YP w h->(K w.params).In h)
  (F:∀(w:CL) (mg:Str->Option AI) (fa:AW) (h:Cz),(K w.params).In h->h.Ns BZ mg->mg d.name=some (.ref fa) ->
   ∃fd:Lv,(∀(s:AQ) (u:AI),Y9 s fd ⟨[u],[]⟩ [(x,u)]) /\
    ∀base:Cz,(K w.params).In base->base.Ns BZ mg->Cg l.prog w (K w.params) mg base (CX w) k fa fd [x] (sp w))
  (zV:∀(w:CL) (H:Hp) (a:AW) (ns:List Int),ns.length<=n->nT H->SqL (K w.params) H a (ns.map V.int)->sp w [.ref a] H (λv _=>v=.bl true) λ_ _ _=>False)
  (hCX:∀(w:CL) (H:Hp) (s:AQ) (e:AI) (s':AQ),CX w [] H s (λ_ _ _=>False) e s'->False) :
  PySem.W.WalkO q loose XP YP l.row.toRowW d [] (λf vs=>cJ f vs):=by
 refine Att.Yw hn Δ λw s₀ s₁ mg mb fa o pm cd doc a vs ns G Y ho hd xP zo zq hints hlen hg=>?_
 have KX:=hY w _ Y;obtain⟨fd,hb,hF⟩:=F w mg fa _ KX G.T.g zo
 exact iQ KX G.T.g G.T.b G.T.builtins G.T.nolimit hg zq hints (At hlen xu) hr hF hb (λH hO hS=>zV w H a ns hlen hO hS) λH e s'=>hCX w H s₁ e s'
def Kg(s:C2)(j:Nat):C2:=match s with
 | .ClassDef _ _ _ body _ _ _ _ _ _ _=>body.getD j (.Pass ⟨0,0,0,0⟩)
 | _=>.Pass ⟨0,0,0,0⟩
def Mo(s:C2):Arguments:=match s with
 | .FunctionDef _ a _ _ _ _ _ _ _ _=>a
 | _=>{ posonlyargs:=[],args:=[],vararg:=none,kwonlyargs:=[],kw_defaults:=[],kwarg:=none,defaults:=[] }
def JZ(s:C2):List C2:=match s with
 | .FunctionDef _ _ b _ _ _ _ _ _ _=>b
 | _=>[]
def Ay(s:C2):Uq:=match s with
 | .FunctionDef _ _ _ _ _ _ sc _ _ _=>sc
 | _=>{ kind:=.function,names:=[],isGenerator:=false,isCoroutine:=false }
structure Fun(K:AG)(x qual:Str)(st:C2)(f:AW)(fd:Lv):Prop where
 ex:∃(oc:AI) (od:Option AW) (kV doc pm:AI) (an:Option AW) (wj ct:AI) (xY:Array (Option AI)),
  fd=JM x qual (Mo st) (JZ st) (Ay st) .none kV doc pm an wj ct/\K.lookup f=some ⟨oc,od,.func fd,xY⟩/\Se K wj qual=true
 kp:Fi K (.ref f)=true
section
variable{K:AG}
theorem Fun.binds{x qual}{st}{f}{fd}{ps}(F:Fun K x qual st f fd)
  (h:∀(kV doc pm:AI) (an:Option AW) (wj ct:AI) (us:List AI),us.length=ps.length->jo (JM x qual (Mo st) (JZ st) (Ay st) .none kV doc pm an wj ct) ⟨us,[]⟩=pure (ps.zip us)):Binds K fd ps []:=by
 obtain⟨oc,od,kV,doc,pm,an,wj,ct,xY,rfl,lk,xP⟩:=F.ex;exact .all (h kV doc pm an wj ct)
theorem iu{x qual}{st}{f}{oc}{od an}{xY}{kV doc pm wj ct}(l:K.lookup f=some ⟨oc,od,.func (JM x qual (Mo st) (JZ st) (Ay st) .none kV doc pm an wj ct),xY⟩)
  (c:Se K wj qual=true) (k:Fi K (.ref f)=true):Fun K x qual st f (JM x qual (Mo st) (JZ st) (Ay st) .none kV doc pm an wj ct):=⟨⟨oc,od,kV,doc,pm,an,wj,ct,xY,rfl,l,c⟩,k⟩
end
section
variable{X:Cx}
theorem pv(i:Nat)(hN:X.N[i]?=some x:=by rfl)(hv:Vis X.env.scope x:=by first | exact RI rfl | exact PP (RI rfl) | exact PP (PP rfl))(hd:(x==("__debug__" : Str))=false:=by decide)
  (xP:(x==("__classdict__" : Str))=false:=by decide):PE X (.Name x pos) (pX i):=qR hN hv hd xP
end
inductive D where
 | non | bl (b:Bool) | int (i:Int) | str (x:Str) | tup (ds:List D) | fro (ds:List D) | ref (n:Nat) | exc (C:AW)
def VW(K:AG)(H:Hp)(a:AW)(vs:List V):Prop:=
 (∃o,H a=some (.frz o (.lst vs))) ∨
  ∃(o:Obj) (tx:Array AI) (n:Nat),K.lookup a=some o/\o.cls=.type "list"/\o.dict=none/\o.data=.seq tx n/\tx.size<=sizeLine/\Bv vs tx.toList
theorem VW.sq{K}{H}{a}{vs}(h:VW K H a vs):SqL K H a vs:=by
 rcases h with h | h
 ·exact .inl (.inr h)
 ·exact .inr h
def ExcO(o:Obj)(C:AW):Prop:=o.cls=.ref C/\o.dict=none/\∃vs,o.data=.fields vs
mutual
inductive CH(K:AG)(ρ:List AW)(H:Hp):D->V->Prop where
 | non:CH K ρ H .non .non
 | bl (b:Bool):CH K ρ H (.bl b) (.bl b)
 | int (i:Int):CH K ρ H (.int i) (.int i)
 | str (x:Str):CH K ρ H (.str x) (.str x)
 | tup {ds:List D} {a:AW} {vs:List V}:H a=some (.tup vs)->Az K ρ H ds vs->CH K ρ H (.tup ds) (.ref a)
 | fro {ds:List D} {a:AW} {vs:List V}:VW K H a vs->Az K ρ H ds vs->CH K ρ H (.fro ds) (.ref a)
 | ref {n:Nat} {a:AW}:ρ[n]?=some a->CH K ρ H (.ref n) (.ref a)
 | exc {C a:AW} {o:Obj} {u:HO}:H a=some (.frz o u)->ExcO o C->CH K ρ H (.exc C) (.ref a)
inductive Az(K:AG)(ρ:List AW)(H:Hp):List D->List V->Prop where
 | nil:Az K ρ H [] []
 | cons {d:D} {v:V} {ds:List D} {vs:List V}:CH K ρ H d v->Az K ρ H ds vs->Az K ρ H (d :: ds) (v :: vs)
end
structure Le(K:AG)(ρ:List AW)(H:Hp)(ρ':List AW)(H':Hp):Prop where
 pre:∀(n:Nat) a,ρ[n]?=some a->ρ'[n]?=some a
 tup:∀a xs,H a=some (.tup xs)->H' a=some (.tup xs)
 frz:∀a o u,H a=some (.frz o u)->H' a=some (.frz o u)
 oth:∀a o,H a=some o->(∀n:Nat,ρ[n]?≠some a)->H' a=some o/\∀n:Nat,ρ'[n]?≠some a
theorem VW.mono{K}{H H'}{a}{xs}(l:∀a o u,H a=some (.frz o u)->H' a=some (.frz o u))(h:VW K H a xs):VW K H' a xs:=by
 rcases h with⟨o,h⟩ | h
 ·exact .inl ⟨o,l _ _ _ h⟩
 ·exact .inr h
section
variable{K:AG}{ρ ρ' ρ'':List AW}{H H' yb:Hp}
theorem Le.fro(l:Le K ρ H ρ' H'):∀a xs,VW K H a xs->VW K H' a xs:=λ_ _ h=>h.mono l.frz
theorem Le.refl:Le K ρ H ρ H:=⟨λ_ _ h=>h,λ_ _ h=>h,λ_ _ _ h=>h,λ_ _ h n=>⟨h,n⟩⟩
theorem Le.trans(a:Le K ρ H ρ' H')(b:Le K ρ' H' ρ'' yb):Le K ρ H ρ'' yb:=
 ⟨λn x h=>b.pre n x (a.pre n x h),λx xs h=>b.tup x xs (a.tup x xs h),λx o u h=>b.frz x o u (a.frz x o u h),λx o h n=>b.oth x o (a.oth x o h n).1 (a.oth x o h n).2⟩
mutual
theorem CH.mono(l:Le K ρ H ρ' H'):∀{d:D} {v:V},CH K ρ H d v->CH K ρ' H' d v
 | _,_,.non=>.non
 | _,_,.bl b=>.bl b
 | _,_,.int i=>.int i
 | _,_,.str x=>.str x
 | _,_,.tup h r=>.tup (l.tup _ _ h) (Az.mono l r)
 | _,_,.fro h r=>.fro (l.fro _ _ h) (Az.mono l r)
 | _,_,.ref h=>.ref (l.pre _ _ h)
 | _,_,.exc h e=>.exc (l.frz _ _ _ h) e
theorem Az.mono(l:Le K ρ H ρ' H'):∀{ds:List D} {vs:List V},Az K ρ H ds vs->Az K ρ' H' ds vs
 | _,_,.nil=>.nil
 | _,_,.cons r t=>.cons (CH.mono l r) (Az.mono l t)
end
mutual
theorem CH.more(l:∀(n:Nat) a,ρ[n]?=some a->ρ'[n]?=some a):∀{d:D} {v:V},CH K ρ H d v->CH K ρ' H d v
 | _,_,.non=>.non
 | _,_,.bl b=>.bl b
 | _,_,.int i=>.int i
 | _,_,.str x=>.str x
 | _,_,.tup h r=>.tup h (Az.more l r)
 | _,_,.fro h r=>.fro h (Az.more l r)
 | _,_,.ref h=>.ref (l _ _ h)
 | _,_,.exc h e=>.exc h e
theorem Az.more(l:∀(n:Nat) a,ρ[n]?=some a->ρ'[n]?=some a):∀{ds:List D} {vs:List V},Az K ρ H ds vs->Az K ρ' H ds vs
 | _,_,.nil=>.nil
 | _,_,.cons r t=>.cons (CH.more l r) (Az.more l t)
end
mutual
theorem CH.keep(h1:∀a xs,H a=some (.tup xs)->H' a=some (.tup xs))(h2:∀a o u,H a=some (.frz o u)->H' a=some (.frz o u)):∀{d:D} {v:V},CH K ρ H d v->CH K ρ H' d v
 | _,_,.non=>.non
 | _,_,.bl b=>.bl b
 | _,_,.int i=>.int i
 | _,_,.str x=>.str x
 | _,_,.tup h r=>.tup (h1 _ _ h) (Az.keep h1 h2 r)
 | _,_,.fro h r=>.fro (h.mono h2) (Az.keep h1 h2 r)
 | _,_,.ref h=>.ref h
 | _,_,.exc h e=>.exc (h2 _ _ _ h) e
theorem Az.keep(h1:∀a xs,H a=some (.tup xs)->H' a=some (.tup xs))(h2:∀a o u,H a=some (.frz o u)->H' a=some (.frz o u)):∀{ds:List D} {vs:List V},Az K ρ H ds vs->Az K ρ H' ds vs
 | _,_,.nil=>.nil
 | _,_,.cons r t=>.cons (CH.keep h1 h2 r) (Az.keep h1 h2 t)
end
theorem Az.length:∀{ds:List D} {vs:List V},Az K ρ H ds vs->ds.length=vs.length
 | _,_,.nil=>rfl
 | _,_,.cons _ t=>by rw[Av,Av,Az.length t]
theorem Az.get:∀{ds:List D} {vs:List V} {i:Nat} {d:D},Az K ρ H ds vs->ds[i]?=some d->∃v,vs[i]?=some v/\CH K ρ H d v
 | _,_,_,_,.nil,e=>by simp at e
 | _,_,0,_,.cons r _,e=>by simp at e;subst e;exact⟨_,rfl,r⟩
 | _,_,i+1,d,.cons _ t,e=>by
  obtain⟨v,h1,h2⟩:=Az.get (i:=i) (d:=d) t (by simpa using e);exact⟨v,by simpa using h1,h2⟩
theorem Az.get':∀{ds:List D} {vs:List V} {i:Nat} {v:V},Az K ρ H ds vs->vs[i]?=some v->∃d,ds[i]?=some d/\CH K ρ H d v
 | _,_,_,_,.nil,e=>by simp at e
 | _,_,0,_,.cons r _,e=>by simp at e;subst e;exact⟨_,rfl,r⟩
 | _,_,i+1,d,.cons _ t,e=>by
  obtain⟨v,h1,h2⟩:=Az.get' (i:=i) (v:=d) t (by simpa using e);exact⟨v,by simpa using h1,h2⟩
theorem Az.append:∀{ds es:List D} {vs us:List V},Az K ρ H ds vs->Az K ρ H es us->Az K ρ H (ds++es) (vs++us)
 | _,_,_,_,.nil,s=>s
 | _,_,_,_,.cons r t,s=>.cons r (Az.append t s)
theorem Az.take:∀{ds:List D} {vs:List V} (n:Nat),Az K ρ H ds vs->Az K ρ H (ds.take n) (vs.take n)
 | _,_,0,_=>.nil
 | _,_,_+1,.nil=>.nil
 | _,_,n+1,.cons r t=>.cons r (Az.take n t)
theorem Az.drop:∀{ds:List D} {vs:List V} (n:Nat),Az K ρ H ds vs->Az K ρ H (ds.drop n) (vs.drop n)
 | _,_,0,r=>r
 | _,_,_+1,.nil=>.nil
 | _,_,n+1,.cons _ t=>Az.drop n t
theorem Az.set(r:CH K ρ H d v):∀{ds:List D} {vs:List V} (i:Nat),Az K ρ H ds vs->Az K ρ H (ds.set i d) (vs.set i v)
 | _,_,_,.nil=>.nil
 | _,_,0,.cons _ t=>.cons r t
 | _,_,i+1,.cons q t=>.cons q (Az.set r i t)
theorem Az.of_ints:∀(ns:List Int),Az K ρ H (ns.map D.int) (ns.map V.int)
 | []=>.nil
 | n :: ns=>.cons (.int n) (Az.of_ints ns)
theorem Az.ints:∀{ns:List Int} {vs:List V},Az K ρ H (ns.map D.int) vs->vs=ns.map V.int
 | [],_,.nil=>rfl
 | n :: ns,_,.cons r t=>by
  cases r;rw[Az.ints (ns:=ns) t];rfl
end
inductive Ob where
 | lst (ds:List D)
 | dK (f':List (Key×D))
 | dT (f':List (List Key×D))
 | ins (C:AW) (fs:List (Str×D))
 | fK (f':List (Key×D))
 | fT (f':List (List Key×D))
 | mem (L:Key->Int)
abbrev Sto:=List Ob
def W6:List Key:=(DD 1000).map λ(i:Nat)=>D2 (i:Int)
abbrev KVR{κ:Type}(K:AG)(ρ:List AW)(H:Hp):List (κ×D)->List (κ×V)->Prop:=G3 λ(p:κ×D) (q:κ×V)=>p.1=q.1/\CH K ρ H p.2 q.2
def EQ(K:AG)(ρ:List AW)(H:Hp)(a:AW):Ob->Prop
 | .lst ds=>∃vs,H a=some (.lst vs)/\Az K ρ H ds vs
 | .dK f'=>∃w6,H a=some (.dK w6)/\KVR K ρ H f' w6
 | .dT f'=>∃w6,H a=some (.dT w6)/\KVR K ρ H f' w6
 | .ins C fs=>∃dx yp,H a=some (.ins C dx yp)/\KVR K ρ H fs yp
 | .fK f'=>∃ob w6,H a=some (.frz ob (.dK w6))/\KVR K ρ H f' w6
 | .fT f'=>∃ob w6,H a=some (.frz ob (.dT w6))/\KVR K ρ H f' w6
 | .mem L=>∃w6,H a=some (.dK w6)/\(w6.map (·.1)).Nodup/\∀x∈w6,x.1∈W6/\x.2=V.int (L x.1)
structure CY(K:AG)(ρ:List AW)(S:Sto)(H:Hp):Prop where
 len:ρ.length=S.length
 nd:∀(i j:Nat) a,ρ[i]?=some a->ρ[j]?=some a->i=j
 ob:∀(n:Nat) o a,S[n]?=some o->ρ[n]?=some a->EQ K ρ H a o
section
variable{K:AG}{ρ ρ':List AW}{H H':Hp}{S:Sto}{a p:AW}{o:Ob}{n:Nat}{ho:HO}
theorem KVR.mono{κ:Type}(l:Le K ρ H ρ' H'){x:List (κ×D)}{y:List (κ×V)}(h:KVR K ρ H x y):KVR K ρ' H' x y:=G3.mapP h λ_ _ z=>⟨z.1,z.2.mono l⟩
theorem KVR.keys{κ:Type}:∀{x:List (κ×D)} {y:List (κ×V)},KVR K ρ H x y->x.map (·.1)=y.map (·.1)
 | _,_,.nil=>rfl
 | _,_,.cons r t=>by rw[BC,BC,r.1,KVR.keys t]
theorem EQ.has(h:EQ K ρ H a o):H a≠none:=by
 cases o with
 | lst ds=>obtain⟨_,e,_⟩:=h;rw[e];exact λz=>nomatch z
 | dK ds=>obtain⟨_,e,_⟩:=h;rw[e];exact λz=>nomatch z
 | dT ds=>obtain⟨_,e,_⟩:=h;rw[e];exact λz=>nomatch z
 | ins C fs=>obtain⟨_,_,e,_⟩:=h;rw[e];exact λz=>nomatch z
 | fK ds=>obtain⟨_,_,e,_⟩:=h;rw[e];exact λz=>nomatch z
 | fT ds=>obtain⟨_,_,e,_⟩:=h;rw[e];exact λz=>nomatch z
 | mem L=>obtain⟨_,e,_⟩:=h;rw[e];exact λz=>nomatch z
theorem EQ.mono(l:Le K ρ H ρ' H')(e:H' a=H a)(h:EQ K ρ H a o):EQ K ρ' H' a o:=by
 cases o with
 | lst ds=>obtain⟨vs,h1,h2⟩:=h;exact⟨vs,e.trans h1,h2.mono l⟩
 | dK ds=>obtain⟨vs,h1,h2⟩:=h;exact⟨vs,e.trans h1,h2.mono l⟩
 | dT ds=>obtain⟨vs,h1,h2⟩:=h;exact⟨vs,e.trans h1,h2.mono l⟩
 | ins C fs=>obtain⟨dx,vs,h1,h2⟩:=h;exact⟨dx,vs,e.trans h1,h2.mono l⟩
 | fK ds=>obtain⟨dx,vs,h1,h2⟩:=h;exact⟨dx,vs,e.trans h1,h2.mono l⟩
 | fT ds=>obtain⟨dx,vs,h1,h2⟩:=h;exact⟨dx,vs,e.trans h1,h2.mono l⟩
 | mem L=>obtain⟨vs,h1,h2⟩:=h;exact⟨vs,e.trans h1,h2⟩
theorem EQ.keep(h1:∀a xs,H a=some (.tup xs)->H' a=some (.tup xs))(h2:∀a o u,H a=some (.frz o u)->H' a=some (.frz o u))(e:H' a=H a)(h:EQ K ρ H a o):EQ K ρ H' a o:=by
 cases o with
 | lst ds=>obtain⟨vs,q1,q2⟩:=h;exact⟨vs,e.trans q1,q2.keep h1 h2⟩
 | dK ds=>obtain⟨vs,q1,q2⟩:=h;exact⟨vs,e.trans q1,G3.mapP q2 λ_ _ z=>⟨z.1,z.2.keep h1 h2⟩⟩
 | dT ds=>obtain⟨vs,q1,q2⟩:=h;exact⟨vs,e.trans q1,G3.mapP q2 λ_ _ z=>⟨z.1,z.2.keep h1 h2⟩⟩
 | ins C fs=>obtain⟨dx,vs,q1,q2⟩:=h;exact⟨dx,vs,e.trans q1,G3.mapP q2 λ_ _ z=>⟨z.1,z.2.keep h1 h2⟩⟩
 | fK ds=>obtain⟨dx,vs,q1,q2⟩:=h;exact⟨dx,vs,e.trans q1,G3.mapP q2 λ_ _ z=>⟨z.1,z.2.keep h1 h2⟩⟩
 | fT ds=>obtain⟨dx,vs,q1,q2⟩:=h;exact⟨dx,vs,e.trans q1,G3.mapP q2 λ_ _ z=>⟨z.1,z.2.keep h1 h2⟩⟩
 | mem L=>obtain⟨vs,q1,q2⟩:=h;exact⟨vs,e.trans q1,q2⟩
theorem EQ.mono'(l:∀(n:Nat) a,ρ[n]?=some a->ρ'[n]?=some a)(h:EQ K ρ H a o):EQ K ρ' H a o:=by
 cases o with
 | lst ds=>obtain⟨vs,h1,h2⟩:=h;exact⟨vs,h1,h2.more l⟩
 | dK ds=>obtain⟨vs,h1,h2⟩:=h;exact⟨vs,h1,G3.mapP h2 λ_ _ z=>⟨z.1,z.2.more l⟩⟩
 | dT ds=>obtain⟨vs,h1,h2⟩:=h;exact⟨vs,h1,G3.mapP h2 λ_ _ z=>⟨z.1,z.2.more l⟩⟩
 | ins C fs=>obtain⟨dx,vs,h1,h2⟩:=h;exact⟨dx,vs,h1,G3.mapP h2 λ_ _ z=>⟨z.1,z.2.more l⟩⟩
 | fK ds=>obtain⟨dx,vs,h1,h2⟩:=h;exact⟨dx,vs,h1,G3.mapP h2 λ_ _ z=>⟨z.1,z.2.more l⟩⟩
 | fT ds=>obtain⟨dx,vs,h1,h2⟩:=h;exact⟨dx,vs,h1,G3.mapP h2 λ_ _ z=>⟨z.1,z.2.more l⟩⟩
 | mem L=>exact h
theorem He(hp:H p=none∨Mut (H p)):(∀a xs,H a=some (.tup xs)->upd H p ho a=some (.tup xs))/\∀a o u,H a=some (.frz o u)->upd H p ho a=some (.frz o u):=by
 have ne:∀a u,H a=some u->¬Mut (some u)->a≠p:=λa u e nm z=>by
  subst z
  rcases hp with h | h
  ·rw[e]at h;cases h
  ·rw[e]at h;exact nm h
 refine⟨λa xs e=>?_,λa o u e=>?_⟩
 ·rw[Bj (ne a _ e λz=>z)];exact e
 ·rw[Bj (ne a _ e λz=>z)];exact e
theorem Le.fresh(hp:H p=none):Le K ρ H ρ (upd H p ho):=
 ⟨λ_ _ h=>h,(He (.inl hp)).1,(He (.inl hp)).2,λa o e n=>⟨by rw[Bj (Cm e hp)];exact e,n⟩⟩
theorem Le.write(hn:ρ[n]?=some p)(hm:Mut (H p)):Le K ρ H ρ (upd H p ho):=
 ⟨λ_ _ h=>h,(He (.inr hm)).1,(He (.inr hm)).2,λa o e h=>⟨by rw[Bj λz=>h n (by rw[z];exact hn)];exact e,h⟩⟩
theorem Jz{α:Type}{l:List α}{x:α}{m:Nat}{a:α}(e:(l++[x])[m]?=some a):(l[m]?=some a/\m < l.length)∨(m=l.length/\a=x):=by
 by_cases hm:m < l.length
 ·rw[A9 hm]at e;exact .inl ⟨e,hm⟩
 ·rw[Be (by lia)]at e
  have:m - l.length=0:=by
   have:=(AD.mp e).1;simp at this;omega
  rw[this]at e;exact .inr ⟨by lia,by simpa using e.symm⟩
theorem Le.alloc(hp:H p=none):Le K ρ H (ρ++[p]) (upd H p ho):=by
 refine⟨λn a h=>by rw[A9 (AD.mp h).1];exact h,(He (.inl hp)).1,(He (.inl hp)).2,λa o e h=>⟨by rw[Bj (Cm e hp)];exact e,λn q=>?_⟩⟩
 rcases Jz q with⟨q,_⟩ | ⟨_,q⟩
 ·exact h n q
 ·exact Cm e hp q
theorem CY.at(h:CY K ρ S H)(e:S[n]?=some o):∃a,ρ[n]?=some a/\EQ K ρ H a o:=by
 have hn:n < ρ.length:=by rw[h.len];exact(AD.mp e).1
 exact⟨ρ[n],by simp[hn],h.ob n o _ e (by simp[hn])⟩
theorem CY.there(h:CY K ρ S H){m:Nat}(e:ρ[m]?=some a):∃o,S[m]?=some o/\EQ K ρ H a o:=by
 have hn:m < S.length:=by rw[<-h.len];exact(AD.mp e).1
 exact⟨S[m],by simp[hn],h.ob m _ a (by simp[hn]) e⟩
theorem CY.notIn(h:CY K ρ S H)(hp:H p=none){m:Nat}(e:ρ[m]?=some p):False:=by
 obtain⟨o,_,r⟩:=h.there e;exact r.has hp
theorem CY.alloc(h:CY K ρ S H)(hp:H p=none)(Η:EQ K (ρ++[p]) (upd H p ho) p o):CY K (ρ++[p]) (S++[o]) (upd H p ho)/\Le K ρ H (ρ++[p]) (upd H p ho)/\(ρ++[p])[S.length]?=some p:=by
 have le:Le K ρ H (ρ++[p]) (upd H p ho):=Le.alloc hp
 have at':∀(m:Nat) a,(ρ++[p])[m]?=some a->(ρ[m]?=some a/\m < ρ.length)∨(m=ρ.length/\a=p):=λm a e=>Jz e
 refine⟨⟨by simp[h.len],λi j a hi hj=>?_,λm ob a hm ha=>?_⟩,le,by rw[<-h.len];simp⟩
 ·rcases at' i a hi with⟨yq,_⟩ | ⟨yq,ea⟩ <;> rcases at' j a hj with⟨xR,_⟩ | ⟨xR,ea'⟩
  ·exact h.nd i j a yq xR
  ·rw[ea']at yq;exact(h.notIn hp yq).elim
  ·rw[ea]at xR;exact(h.notIn hp xR).elim
  ·lia
 ·rcases at' m a ha with⟨ha1,wo⟩ | ⟨rfl,rfl⟩
  ·rw[A9 (by rw[<-h.len];exact wo)]at hm
   refine(h.ob m ob a hm ha1).mono le (Bj λz=>?_);rw[z]at ha1;exact h.notIn hp ha1
  ·rw[h.len]at hm
   simp at hm;subst hm;exact Η
theorem CY.write(h:CY K ρ S H)(hn:ρ[n]?=some a)(Η:EQ K ρ (upd H a ho) a o)(le:Le K ρ H ρ (upd H a ho)):CY K ρ (S.set n o) (upd H a ho)/\Le K ρ H ρ (upd H a ho):=by
 refine⟨⟨by simp[h.len],h.nd,λm ob b hm hb=>?_⟩,le⟩
 by_cases e:m=n
 ·subst e
  rw[hn]at hb;cases hb;rw[Aq (by rw[<-h.len];exact(AD.mp hn).1)]at hm;cases hm;exact Η
 ·rw[Ab (Br e)]at hm
  refine(h.ob m ob b hm hb).mono le (Bj λz=>?_);subst z;exact e (h.nd m n b hb hn)
theorem Le.back{S':Sto}(l:Le K ρ H ρ' H')(s:CY K ρ S H)(s':CY K ρ' S' H')(hp:H' p=none):H p=none:=by
 cases q:H p with
 | none=>rfl
 | some o=>
  by_cases hn:∃n:Nat,ρ[n]?=some p
  ·obtain⟨n,hn⟩:=hn
   exact(s'.notIn hp (l.pre n p hn)).elim
  ·have:=(l.oth p o q λn h=>hn ⟨n,h⟩).1
   rw[hp]at this;cases this
theorem CY.adopt(h:CY K ρ S H)(hn:∀m:Nat,ρ[m]?≠some p)(Η:EQ K (ρ++[p]) H p o):CY K (ρ++[p]) (S++[o]) H/\(ρ++[p])[S.length]?=some p:=by
 have le:∀a ob,EQ K ρ H a ob->EQ K (ρ++[p]) H a ob:=λa ob r=>by
  have l0:∀(n:Nat) a,ρ[n]?=some a->(ρ++[p])[n]?=some a:=λn a h=>by rw[A9 (AD.mp h).1];exact h
  exact r.mono' l0
 refine⟨⟨by simp[h.len],λi j a hi hj=>?_,λm ob a hm ha=>?_⟩,by rw[<-h.len];simp⟩
 ·rcases Jz hi with⟨yq,_⟩ | ⟨yq,ea⟩ <;> rcases Jz hj with⟨xR,_⟩ | ⟨xR,ea'⟩
  ·exact h.nd i j a yq xR
  ·rw[ea']at yq;exact(hn i yq).elim
  ·rw[ea]at xR;exact(hn j xR).elim
  ·lia
 ·rcases Jz ha with⟨ha,wo⟩ | ⟨rfl,rfl⟩
  ·rw[A9 (by rw[<-h.len];exact wo)]at hm
   exact le a ob (h.ob m ob a hm ha)
  ·rw[h.len]at hm
   simp at hm;subst hm;exact Η
end
inductive Res(α:Type) where
 | ok (a:α) (S:Sto) | err (c:AW) (S:Sto) | bad
def Res.bind{α β:Type}(r:Res α)(f:α->Sto->Res β):Res β:=match r with
 | .ok a S=>f a S
 | .err c S=>.err c S
 | .bad=>.bad
abbrev Lo:=List (Option D)
abbrev ME:=Lo->Sto->Res D
abbrev MT:=Lo->Sto->Res Bool
abbrev ML:=Lo->Sto->Res (List D)
inductive Fl where
 | nx (e:Lo) | rt (d:D) | bk (e:Lo) | ct (e:Lo) | ex (c:AW) (e:Lo)
abbrev MS:=Lo->Sto->Res Fl
abbrev MG:=D->Lo->Sto->Res Lo
abbrev SA:=Sto->Option (List D)
abbrev MI:=Lo->Sto->Res SA
structure G0(K:AG)(ρ:List AW)(H:Hp)(e:Lo)(σ:St):Prop where
 len:e.length=σ.length
 at':∀(i:Nat) d,e[i]?=some (some d)->∃v,σ[i]?=some (some v)/\CH K ρ H d v
section
variable{K:AG}{ρ ρ':List AW}{H H':Hp}{e:Lo}{σ:St}
theorem G0.mono(l:Le K ρ H ρ' H')(h:G0 K ρ H e σ):G0 K ρ' H' e σ:=⟨h.len,λi d q=>by
 obtain⟨v,h1,h2⟩:=h.at' i d q
 exact⟨v,h1,h2.mono l⟩⟩
theorem G0.set(h:G0 K ρ H e σ)(r:CH K ρ H d v)(i:Nat):G0 K ρ H (e.set i (some d)) (σ.set i (some v)):=by
 refine⟨by simp[h.len],λj d' q=>?_⟩
 by_cases hj:i=j
 ·subst hj
  have hi:i < e.length:=by
   have:=(AD.mp q).1;simpa using this
  rw[Aq hi]at q;cases q;exact⟨v,by rw[Aq (by rw[<-h.len];exact hi)],r⟩
 ·rw[Ab hj]at q ⊢
  exact h.at' j d' q
end
abbrev EW:=AW->St->Hp->Prop
abbrev EH:=AW->Hp->Prop
abbrev noE:EW:=λ_ _ _=>False
abbrev noH:EH:=λ_ _=>False
def Cb{α:Type}(K:AG)(E:EH)(ρ:List AW)(H:Hp)(r:Res α)(k:α->Sto->Prop):Prop:=match r with
 | .ok a S=>k a S
 | .err c S=>∀ρ' H',Le K ρ H ρ' H'->CY K ρ' S H'->E c H'
 | .bad=>False
section
variable{K:AG}{E:EH}{ρ ρ1:List AW}{H H1:Hp}
theorem Cb.seq(h:Cb K E ρ H (r.bind F) k)(f:∀a S,Cb K E ρ H (F a S) k->k' a S):Cb K E ρ H r k':=by
 cases r with
 | ok a S=>exact f a S h
 | err c S=>exact h
 | bad=>exact h
theorem Cb.later(h:Cb K E ρ H r k)(l:Le K ρ H ρ1 H1):Cb K E ρ1 H1 r k:=by
 cases r with
 | ok a S=>exact h
 | err c S=>exact λρ' H' l'=>h ρ' H' (l.trans l')
 | bad=>exact h
theorem Cb.imp(h:Cb K E ρ H r k)(f:∀a S,k a S->k' a S):Cb K E ρ H r k':=by
 cases r with
 | ok a S=>exact f a S h
 | err c S=>exact h
 | bad=>exact h
theorem Cb.go(h:Cb K E ρ H r k)(l:Le K ρ H ρ1 H1)(f:∀a S,k a S->k' a S):Cb K E ρ1 H1 r k':=(h.later l).imp f
end
def okR{α:Type}:Res α->Res α
 | .ok a S=>.ok a S
 | _=>.bad
theorem Cb.okR{α:Type}{K:AG}{E:EH}{ρ:List AW}{H:Hp}{r:Res α}{k:α->Sto->Prop}(h:Cb K E ρ H (L2.okR r) k):∃a S,r=.ok a S/\k a S:=by
 cases r with
 | ok a S=>exact⟨a,S,rfl,h⟩
 | err c S=>exact h.elim
 | bad=>exact h.elim
section
variable(K:AG)(E:EW)
def gE(m:ME):TE:=λσ H Q=>∃ρ e S,G0 K ρ H e σ/\CY K ρ S H/\Cb K (λc=>E c σ) ρ H (m e S) λd S'=>∀ρ' H' x,Le K ρ H ρ' H'->CY K ρ' S' H'->CH K ρ' H' d x->Q x H'
def gT(m:MT):TT:=λσ H Q=>∃ρ e S,G0 K ρ H e σ/\CY K ρ S H/\Cb K (λc=>E c σ) ρ H (m e S) λb S'=>∀ρ' H',Le K ρ H ρ' H'->CY K ρ' S' H'->Q b H'
def gA(m:ML):TA:=λσ H Q=>∃ρ e S,G0 K ρ H e σ/\CY K ρ S H/\Cb K (λc=>E c σ) ρ H (m e S) λds S'=>∀ρ' H' xs,Le K ρ H ρ' H'->CY K ρ' S' H'->Az K ρ' H' ds xs->Q xs H'
def gL(m:ML):TE:=λσ H Q=>∃ρ e S,G0 K ρ H e σ/\CY K ρ S H/\Cb K (λc=>E c σ) ρ H (m e S) λds S'=>∀ρ' H' p xs,Le K ρ H ρ' H'->CY K ρ' S' H'->Az K ρ' H' ds xs->H' p=some (.lst xs)->(∀n:Nat,ρ'[n]?≠some p)->H p=none->Q (.ref p) H'
def gQ(m:ML):TE:=λσ H Q=>∃ρ e S,G0 K ρ H e σ/\CY K ρ S H/\Cb K (λc=>E c σ) ρ H (m e S) λds S'=>∀ρ' H' p xs,Le K ρ H ρ' H'->CY K ρ' S' H'->Az K ρ' H' ds xs->(SqL K H' p xs∨SqT K H' p xs)->Q (.ref p) H'
def R6(K:AG)(E:EW)(ρ:List AW)(H:Hp)(S':Sto)(D:eG):Fl->Prop
 | .ex c e'=>∀ρ' H' σ',Le K ρ H ρ' H'->CY K ρ' S' H'->G0 K ρ' H' e' σ'->E c σ' H'
 | .nx e'=>∀ρ' H' σ',Le K ρ H ρ' H'->CY K ρ' S' H'->G0 K ρ' H' e' σ'->D.nx σ' H'
 | .bk e'=>∀ρ' H' σ',Le K ρ H ρ' H'->CY K ρ' S' H'->G0 K ρ' H' e' σ'->D.bk σ' H'
 | .ct e'=>∀ρ' H' σ',Le K ρ H ρ' H'->CY K ρ' S' H'->G0 K ρ' H' e' σ'->D.ct σ' H'
 | .rt d=>∀ρ' H' x,Le K ρ H ρ' H'->CY K ρ' S' H'->CH K ρ' H' d x->D.rt x H'
def gS(m:MS):TS:=λD σ H=>∃ρ e S,G0 K ρ H e σ/\CY K ρ S H/\Cb K noH ρ H (m e S) λfl S'=>R6 K E ρ H S' D fl
def gG(m:MG):TG:=λv σ H Q=>∃ρ e S d,CH K ρ H d v/\G0 K ρ H e σ/\CY K ρ S H/\Cb K noH ρ H (m d e S) λe' S'=>∀ρ' H' σ',Le K ρ H ρ' H'->CY K ρ' S' H'->G0 K ρ' H' e' σ'->Q σ' H'
def OC(ρ0:List AW)(H0:Hp)(J:It)(v:SA):Prop:=∀ρ H S ds (i:Nat),Le K ρ0 H0 ρ H->CY K ρ S H->v S=some ds ->
 (ds[i]?=none->J.stop i H)/\∀d,ds[i]?=some d->J.go i H/\∀x H',J.yld i H x H'->∃ρ',Le K ρ H ρ' H'/\CY K ρ' S H'/\CH K ρ' H' d x
def gI(m:MI):TI:=λσ H R=>∃ρ e S,G0 K ρ H e σ/\CY K ρ S H/\Cb K (λc=>E c σ) ρ H (m e S) λv S'=>∀ρ' H' J,Le K ρ H ρ' H'->CY K ρ' S' H'->OC K ρ' H' J v->R J H'
end
abbrev GE(X:Cx)(E:EW)(e:Expr)(m:ME):Prop:=PE X e (gE X.K E m)
abbrev GT(X:Cx)(E:EW)(e:Expr)(m:MT):Prop:=PT X e (gT X.K E m)
abbrev GA(X:Cx)(E:EW)(es:List Expr)(m:ML):Prop:=PA X es (gA X.K E m)
abbrev GL(X:Cx)(E:EW)(e:Expr)(m:ML):Prop:=PE X e (gL X.K E m)
abbrev GQ(X:Cx)(E:EW)(e:Expr)(m:ML):Prop:=PE X e (gQ X.K E m)
abbrev GS(X:Cx)(E:EW)(s:C2)(m:MS):Prop:=PS X s (gS X.K E m)
abbrev GSs(X:Cx)(E:EW)(s:List C2)(m:MS):Prop:=PSs X s (gS X.K E m)
abbrev GG(X:Cx)(t:Expr)(m:MG):Prop:=PG X t (gG X.K m)
abbrev GI(X:Cx)(E:EW)(tg t:Expr)(m:MI):Prop:=PI X tg t (gI X.K E m)
theorem PE.imp(h:PE X e t)(i:∀σ H Q,t' σ H Q->t σ H Q):PE X e t':=λζ s σ H Q I q=>h ζ s σ H Q I (i σ H Q q)
theorem PT.imp(h:PT X e t)(i:∀σ H Q,t' σ H Q->t σ H Q):PT X e t':=λζ s σ H Q I q=>h ζ s σ H Q I (i σ H Q q)
theorem PW.imp(h:PW X e t)(i:∀σ H Q,t' σ H Q->t σ H Q):PW X e t':=λwh ζ s σ H Q I q=>h wh ζ s σ H Q I (i σ H Q q)
theorem PA.imp(h:PA X e t)(i:∀σ H Q,t' σ H Q->t σ H Q):PA X e t':=λpos ζ s σ H Q I q=>h pos ζ s σ H Q I (i σ H Q q)
theorem PS.imp(h:PS X e t)(i:∀D σ H,t' D σ H->t D σ H):PS X e t':=λζ s σ H D I q=>h ζ s σ H D I (i D σ H q)
theorem PSs.imp(h:PSs X e t)(i:∀D σ H,t' D σ H->t D σ H):PSs X e t':=λζ s σ H D I q=>h ζ s σ H D I (i D σ H q)
theorem PG.imp(h:PG X e t)(i:∀v σ H Q,t' v σ H Q->t v σ H Q):PG X e t':=λζ s σ H v u Q I r q=>h ζ s σ H v u Q I r (i v σ H Q q)
theorem PI.imp(h:PI X tg e t)(i:∀σ H R,t' σ H R->t σ H R):PI X tg e t':=λζ s σ H R I q=>h ζ s σ H R I (i σ H R q)
theorem OpR.imp(h:OpR X f r)(i:∀x y H Q,r' x y H Q->r x y H Q):OpR X f r':=λζ s σ H x y v u Q I rx ry q=>h ζ s σ H x y v u Q I rx ry (i x y H Q q)
theorem IxR.imp(h:IxR X r)(i:∀x y H Q,r' x y H Q->r x y H Q):IxR X r':=λva sl ζ s σ H x y v u Q I rx ry q=>h va sl ζ s σ H x y v u Q I rx ry (i x y H Q q)
def AE(i:Nat):ME:=λe S=>match e[i]? with
 | some (some d)=>.ok d S
 | _=>.bad
def mC(d:D):ME:=λ_ S=>.ok d S
section
variable{X:Cx}{E:EW}{e a b:Expr}{pos:Pos}{ma mb:ME}
theorem AA(h:PE X e (pX i)):GE X E e (AE i):=h.imp λσ H Q ⟨ρ,l,S,hl,hs,hm⟩=>by
 unfold AE at hm;split at hm
 ·rename_i d' hd
  obtain⟨v,h1,h2⟩:=hl.at' i _ hd;exact⟨v,h1,hm ρ H v .refl hs h2⟩
 ·exact hm.elim
theorem ip(h:PE X e (tC v))(hd:∀ρ H,CH X.K ρ H d v):GE X E e (mC d):=h.imp λσ H Q ⟨ρ,l,S,hl,hs,hm⟩=>by
 exact hm ρ H v .refl hs (hd _ _)
theorem ge_int{i j pos}:GE X E (.Constant (.int i) j pos) (mC (.int i)):=ip gm λ_ _=>.int i
theorem ID{b j pos}:GE X E (.Constant (.bool b) j pos) (mC (.bl b)):=ip uc λ_ _=>.bl b
theorem Mb{j pos}:GE X E (.Constant .none j pos) (mC .non):=ip qU λ_ _=>.non
theorem Q2{x j pos}:GE X E (.Constant (.str x) j pos) (mC (.str x)):=ip qT λ_ _=>.str x
theorem UN(hg:Gl X x)(hm:X.mg x=some (.int i tk))(hd:(x==("__debug__" : Str))=false:=by decide):GE X E (.Name x pos) (mC (.int i)):=
 ip (lX (v:=.int i) hg hm ⟨tk,rfl⟩ hd) λ_ _=>.int i
def m2(f:D->D->Sto->Res D)(ma mb:ME):ME:=λe S=>(ma e S).bind λx S1=>(mb e S1).bind λy S2=>okR (f x y S2)
def rD(K:AG)(f:D->D->Sto->Res D):R2:=λu v H Q=>∃ρ S x y d S',CY K ρ S H/\CH K ρ H x u/\CH K ρ H y v/\f x y S=.ok d S' /\
 ∀ρ' H' z,Le K ρ H ρ' H'->CY K ρ' S' H'->CH K ρ' H' d z->Q z H'
theorem Ow{K:AG}{f:D->D->Sto->Res D}{σ:St}{H:Hp}{Q:VK}(h:gE K E (m2 f ma mb) σ H Q):tOp (rD K f) (gE K E ma) (gE K E mb) σ H Q:=by
 obtain⟨ρ,l,S,hl,hs,hm⟩:=h;refine⟨ρ,l,S,hl,hs,hm.seq λx S1 hm ρ1 H1 u l1 s1 r1=>⟨ρ1,l,S1,hl.mono l1,s1,(hm.later l1).seq λy S2 hm ρ2 H2 v l2 s2 r2=>?_⟩⟩;obtain⟨d,S',e,k⟩:=hm.okR;exact⟨ρ2,S2,x,y,d,S',s2,r1.mono l2,r2,e,λρ' H' z l' s' r'=>k ρ' H' z (l1.trans (l2.trans l')) s' r'⟩
theorem BP(ho:OpR X (Cy op) (rD X.K f))(ha:GE X E a ma)(hb:GE X E b mb):GE X E (.BinOp a op b pos) (m2 f ma mb):=(uZ ho ha hb).imp λ_ _ _ h=>Ow h
theorem K9(ho:OpR X (Bu op) (rD X.K f))(ha:GE X E a ma)(hb:GE X E b mb)(hm:Co op b=false):GE X E (.Compare a [op] [b] pos) (m2 f ma mb):=(lc ho ha hb hm).imp λ_ _ _ h=>Ow h
theorem vG(ho:IxR X (rD X.K f))(ha:GE X E a ma)(hb:GE X E b mb)(hs:Xb b:=by intro _ _;rfl):GE X E (.Subscript a b pos) (m2 f ma mb):=(ua ho ha hb hs).imp λ_ _ _ h=>Ow h
def mB(m:ME):MT:=λe S=>(m e S).bind λd S1=>match d with
 | .bl b=>.ok b S1
 | _=>.bad
def RU(d:D)(S:Sto):Option Bool:=match d with
 | .non=>some false
 | .bl b=>some b
 | .int i=>some (i != 0)
 | .tup ds=>some (!ds.isEmpty)
 | .fro ds=>some (!ds.isEmpty)
 | .ref n=>match S[n]? with
  | some (.lst ds)=>some (!ds.isEmpty)
  | some (.dK f')=>some (!f'.isEmpty)
  | _=>none
 | _=>none
def E5(m:ME):MT:=λe S=>(m e S).bind λd S1=>match RU d S1 with
 | some b=>.ok b S1
 | none=>.bad
theorem Az.empty{K}{ρ}{H}{ds}{vs}(h:Az K ρ H ds vs):ds.isEmpty=vs.isEmpty:=by cases h <;> rfl
theorem KVR.empty{κ:Type}{K:AG}{ρ:List AW}{H:Hp}{x:List (κ×D)}{y:List (κ×V)}(h:KVR K ρ H x y):x.isEmpty=y.isEmpty:=by cases h <;> rfl
theorem ke{K:AG}{ρ:List AW}{H:Hp}{S:Sto}{d:D}{x:V}{b:Bool}(hs:CY K ρ S H)(r:CH K ρ H d x)(h:RU d S=some b):sV K x H b:=by
 cases r with
 | non=>cases h;rfl
 | bl c=>cases h;rfl
 | int i=>cases h;rfl
 | str x=>cases h
 | tup h1 h2=>cases h;rw[h2.empty];exact .inr (.inl ⟨_,.inl (.inl h1),rfl⟩)
 | fro h1 h2=>cases h;rw[h2.empty];exact .inl ⟨_,h1.sq,rfl⟩
 | exc _ _=>cases h
 | @ref n a hn=>
  obtain⟨o,ho,ro⟩:=hs.there hn;unfold RU at h;simp only[ho]at h
  cases o with
  | lst ds=>cases h;obtain⟨vs,e,rr⟩:=ro;rw[rr.empty];exact .inl ⟨_,.inl (.inl e),rfl⟩
  | dK f'=>cases h;obtain⟨vs,e,rr⟩:=ro;rw[KVR.empty rr];exact .inr (.inr ⟨_,e,rfl⟩)
  | dT f'=>cases h
  | ins C fs=>cases h
  | fK _=>cases h
  | fT _=>cases h
  | mem _=>cases h
theorem ig(h:GE X E e ma)(he:∀whole,ZE e X.env whole=(do let v <-whole;Y4 e.pos;Oq [v] (om v)):=by intro _;rfl):GT X E e (mB ma):=(qH h he).imp λσ H Q ⟨ρ,l,S,hl,hs,hm⟩=>by
 refine⟨ρ,l,S,hl,hs,hm.seq λd S1 hm ρ1 H1 x l1 s1 r1=>?_⟩
 cases d <;> first | exact hm.elim | skip
 cases r1;exact⟨_,rfl,hm ρ1 H1 l1 s1⟩
theorem Dm(h:GE X E e ma)(he:∀whole,ZE e X.env whole=(do let v <-whole;Y4 e.pos;Oq [v] (om v)):=by intro _;rfl):GT X E e (E5 ma):=(gb h he).imp λσ H Q ⟨ρ,l,S,hl,hs,hm⟩=>by
 refine⟨ρ,l,S,hl,hs,hm.seq λd S1 hm ρ1 H1 x l1 s1 r1=>?_⟩
 cases hb:RU d S1 with
 | none=>rw[hb]at hm;exact hm.elim
 | some c=>
  rw[hb]at hm;exact⟨c,ke s1 r1 hb,hm ρ1 H1 l1 s1⟩
theorem FM{op}{f}(ho:OpR X (Bu op) (rD X.K f))(ha:GE X E a ma)(hb:GE X E b mb)(hm:Co op b=false):GT X E (.Compare a [op] [b] pos) (mB (m2 f ma mb)):=(lF ho ha hb hm).imp λσ H Q ⟨ρ,l,S,hl,hs,hm⟩=>by
 refine Ow (Q:=λx H'=>∃k,x=.bl k/\Q k H') ⟨ρ,l,S,hl,hs,hm.seq λd S1 hm ρ1 H1 x l1 s1 r1=>?_⟩
 cases d <;> first | exact hm.elim | skip
 cases r1;exact⟨_,rfl,hm ρ1 H1 l1 s1⟩
def Nn(m:MT):MT:=λe S=>(m e S).bind λb S1=>.ok (!b) S1
def R3(ma mb:MT):MT:=λe S=>(ma e S).bind λb S1=>if b=true then mb e S1 else .ok false S1
def mOr(ma mb:MT):MT:=λe S=>(ma e S).bind λb S1=>if b=true then .ok true S1 else mb e S1
variable{ta tb:MT}{rest:List Expr}
theorem K5(h:GT X E a ta):GT X E (.UnaryOp .Not a pos) (Nn ta):=(qI h).imp λσ H Q ⟨ρ,l,S,hl,hs,hm⟩=>by
 exact⟨ρ,l,S,hl,hs,hm.seq λd S1 hm ρ1 H1 l1 s1=>hm ρ1 H1 l1 s1⟩
theorem kh{K}{σ}{H}{Q}(h:gT K E (R3 ta tb) σ H Q):uJ (gT K E ta) (gT K E tb) σ H Q:=by
 obtain⟨ρ,l,S,hl,hs,hm⟩:=h;refine⟨ρ,l,S,hl,hs,hm.seq λc S1 hm ρ1 H1 l1 s1=>?_⟩
 cases c with
 | true=>rw[qX rfl]at hm ⊢;exact⟨ρ1,l,S1,hl.mono l1,s1,hm.go l1 λ_ _ k ρ2 H2 l2 s2=>k ρ2 H2 (l1.trans l2) s2⟩
 | false=>rw[qY AK]at hm ⊢;exact hm ρ1 H1 l1 s1
theorem pY{K}{σ}{H}{Q}(h:gT K E (mOr ta tb) σ H Q):tOr (gT K E ta) (gT K E tb) σ H Q:=by
 obtain⟨ρ,l,S,hl,hs,hm⟩:=h;refine⟨ρ,l,S,hl,hs,hm.seq λc S1 hm ρ1 H1 l1 s1=>?_⟩
 cases c with
 | false=>rw[qY AK]at hm ⊢;exact⟨ρ1,l,S1,hl.mono l1,s1,hm.go l1 λ_ _ k ρ2 H2 l2 s2=>k ρ2 H2 (l1.trans l2) s2⟩
 | true=>rw[qX rfl]at hm ⊢;exact hm ρ1 H1 l1 s1
abbrev GW(X:Cx)(E:EW)(e:Expr)(m:MT):Prop:=PW X e (gT X.K E m)
theorem XF(ha:GT X E a ta):GW X E (.BoolOp .And [a] pos) ta:=lD ha
theorem ic(ha:GT X E a ta):GW X E (.BoolOp .Or [a] pos) ta:=qF ha
theorem aA(ha:GT X E a ta)(hb:GW X E (.BoolOp .And (b :: rest) pos) tb):GW X E (.BoolOp .And (a :: b :: rest) pos) (R3 ta tb):=(qG ha hb).imp λ_ _ _ h=>kh h
theorem oW(ha:GT X E a ta)(hb:GW X E (.BoolOp .Or (b :: rest) pos) tb):GW X E (.BoolOp .Or (a :: b :: rest) pos) (mOr ta tb):=(uW ha hb).imp λ_ _ _ h=>pY h
theorem ie(h:GW X E e t):GT X E e t:=PW.pt h
def UC(t:MT)(ma mb:ME):ME:=λe S=>(t e S).bind λb S1=>if b=true then ma e S1 else mb e S1
theorem Nu(hc:GT X E c ta)(ha:GE X E a ma)(hb:GE X E b mb):GE X E (.IfExp c a b pos) (UC ta ma mb):=(gn hc ha hb).imp λσ H Q ⟨ρ,l,S,hl,hs,hm⟩=>by
 refine⟨ρ,l,S,hl,hs,hm.seq λc S1 hm ρ1 H1 l1 s1=>?_⟩
 cases c with
 | true=>rw[qX rfl]at hm ⊢;exact⟨ρ1,l,S1,hl.mono l1,s1,hm.go l1 λ_ _ k ρ2 H2 z l2 s2 r2=>k ρ2 H2 z (l1.trans l2) s2 r2⟩
 | false=>rw[qY AK]at hm ⊢;exact⟨ρ1,l,S1,hl.mono l1,s1,hm.go l1 λ_ _ k ρ2 H2 z l2 s2 r2=>k ρ2 H2 z (l1.trans l2) s2 r2⟩
def m3(f g:D->D->Sto->Res D)(ma mb mc:ME):ME:=λe S=>(ma e S).bind λx S1=>(mb e S1).bind λy S2=>(okR (f x y S2)).bind λz S3=>match z with
 | .bl true=>(mc e S3).bind λw S4=>okR (g y w S4)
 | .bl false=>.ok (.bl false) S3
 | _=>.bad
def BL:ML:=λ_ S=>.ok [] S
def AN(m:ME)(r:ML):ML:=λe S=>(m e S).bind λd S1=>(r e S1).bind λds S2=>.ok (d :: ds) S2
variable{es:List Expr}{ml:ML}
theorem Ao:GA X E [] BL:=Kx.imp λσ H Q ⟨ρ,l,S,hl,hs,hm⟩=>by
 exact hm ρ H [] .refl hs .nil
theorem AH(ha:GE X E e ma)(hr:GA X E es ml)(hs:Ad (e :: es) X.env=(false,Cj e X.env) :: Ad es X.env:=by rfl):GA X E (e :: es) (AN ma ml):=(Ie ha hr hs).imp λσ H Q ⟨ρ,l,S,hl,hs,hm⟩=>by
 exact⟨ρ,l,S,hl,hs,hm.seq λd S1 hm ρ1 H1 x l1 s1 r1=>⟨ρ1,l,S1,hl.mono l1,s1,(hm.later l1).seq λxf S2 hm ρ2 H2 xs l2 s2 r2=>hm ρ2 H2 (x :: xs) (l1.trans l2) s2 (.cons (r1.mono l2) r2)⟩⟩
def Jx(m:ML):ME:=λe S=>(m e S).bind λds S1=>if ds.length<=sizeLine then .ok (.tup ds) S1 else .bad
theorem IY{K}{ρ}{H}{S}{p}{ho}(hs:CY K ρ S H)(hp:H p=none):CY K ρ S (upd H p ho)/\Le K ρ H ρ (upd H p ho):=by
 have le:Le K ρ H ρ (upd H p ho):=Le.fresh hp;refine⟨⟨hs.len,hs.nd,λn o a h1 h2=>(hs.ob n o a h1 h2).mono le (Bj λz=>?_)⟩,le⟩;subst z;exact hs.notIn hp h2
theorem JG{x1}(h:GA X E es ml):GE X E (.Tuple es x1 pos) (Jx ml):=(qS h).imp λσ H Q ⟨ρ,l,S,hl,hs,hm⟩=>by
 refine⟨ρ,l,S,hl,hs,hm.seq λds S1 hm ρ1 H1 xs l1 s1 r1=>?_⟩;split at hm
 ·rename_i hz
  refine⟨by rw[<-r1.length];exact hz,λp hp=>?_⟩;obtain⟨s2,l2⟩:=IY (ho:=.tup xs) s1 hp;exact hm ρ1 _ _ (l1.trans l2) s2 (.tup B2 (r1.mono l2))
 ·exact hm.elim
def Ha(m:ML):ML:=λe S=>(m e S).bind λds S1=>if ds.length<=sizeLine then .ok ds S1 else .bad
theorem MZ(h:GA X E es ml):GL X E (.List es pos) (Ha ml):=(qV h).imp λσ H Q ⟨ρ,l,S,hl,hs,hm⟩=>by
 refine⟨ρ,l,S,hl,hs,hm.seq λds S1 hm ρ1 H1 xs l1 s1 r1=>?_⟩;split at hm
 ·rename_i hz
  refine⟨by rw[<-r1.length];exact hz,λp hp=>?_⟩;obtain⟨s2,l2⟩:=IY (ho:=.lst xs) s1 hp;exact hm ρ1 _ p xs (l1.trans l2) s2 (r1.mono l2) B2 (λn q=>s1.notIn hp q) (l1.back hs s1 hp)
 ·exact hm.elim
def FZ(m:ML):ME:=λe S=>(m e S).bind λds S1=>.ok (.ref S1.length) (S1++[.lst ds])
theorem D6(h:GL X E e ml):GE X E e (FZ ml):=PE.imp h λσ H Q ⟨ρ,l,S,hl,hs,hm⟩=>by
 refine⟨ρ,l,S,hl,hs,hm.seq λds S1 hm ρ1 H1 p xs l1 s1 r1 hp hn Θ=>?_⟩
 have l0:∀(n:Nat) a,ρ1[n]?=some a->(ρ1++[p])[n]?=some a:=λn a h=>by rw[A9 (AD.mp h).1];exact h
 obtain⟨s2,at2⟩:=s1.adopt (o:=.lst ds) hn ⟨xs,hp,r1.more l0⟩;refine hm _ _ _ ⟨λn a h=>l0 n a (l1.pre n a h),l1.tup,l1.frz,λa o e h=>⟨(l1.oth a o e h).1,λn q=>?_⟩⟩ s2 (.ref at2)
 rcases Jz q with⟨q,_⟩ | ⟨_,q⟩
 ·exact(l1.oth a o e h).2 n q
 ·exact Cm e Θ q
def HG(d:D)(S:Sto):Option (List D):=match d with
 | .tup ds=>some ds
 | .fro ds=>some ds
 | .ref n=>match S[n]? with
  | some (.lst ds)=>some ds
  | _=>none
 | _=>none
def Rz(m:ME):ML:=λe S=>(m e S).bind λd S1=>match HG d S1 with
 | some ds=>.ok ds S1
 | none=>.bad
theorem SJ{K}{ρ}{H}{S}{d}{x}{ds}(hs:CY K ρ S H)(r:CH K ρ H d x)(h:HG d S=some ds):∃p xs,x=.ref p/\Az K ρ H ds xs/\(SqL K H p xs∨SqT K H p xs):=by
 cases r with
 | tup h1 h2=>cases h;exact⟨_,_,rfl,h2,.inr (.inl (.inl h1))⟩
 | fro h1 h2=>cases h;exact⟨_,_,rfl,h2,.inl h1.sq⟩
 | @ref n a hn=>
  obtain⟨o,ho,ro⟩:=hs.there hn;unfold HG at h;simp only[ho]at h
  cases o with
  | lst es=>cases h;obtain⟨vs,e,rr⟩:=ro;exact⟨_,_,rfl,rr,.inl (.inl (.inl e))⟩
  | _=>cases h
 | _=>cases h
theorem ij(h:GE X E e ma):GQ X E e (Rz ma):=PE.imp h λσ H Q ⟨ρ,l,S,hl,hs,hm⟩=>by
 refine⟨ρ,l,S,hl,hs,hm.seq λx S1 hm ρ1 H1 v l1 s1 r1=>?_⟩
 cases hq:HG x S1 with
 | none=>rw[hq]at hm;exact hm.elim
 | some ds=>
  rw[hq]at hm;obtain⟨p,xs,rfl,r2,sq⟩:=SJ s1 r1 hq;exact hm ρ1 H1 p xs l1 s1 r2 sq
end
def Res.lift{α:Type}(r:Res α)(e:Lo)(f:α->Sto->Res Fl):Res Fl:=match r with
 | .ok a S=>f a S
 | .err c S=>.ok (.ex c e) S
 | .bad=>.bad
theorem Cb.lift{α:Type}{K:AG}{E:EW}{ρ ρ1:List AW}{H H1:Hp}{σ:St}{e:Lo}{D:eG}{r:Res α}{F:α->Sto->Res Fl}{k':α->Sto->Prop}(h:Cb K noH ρ1 H1 (r.lift e F) λfl S'=>R6 K E ρ H S' D fl)(hl:G0 K ρ1 H1 e σ)(l:Le K ρ H ρ1 H1)
  (f:∀a S,(Cb K noH ρ1 H1 (F a S) λfl S'=>R6 K E ρ H S' D fl)->k' a S):Cb K (λc=>E c σ) ρ1 H1 r k':=by
 cases r with
 | ok a S=>exact f a S h
 | err c S=>exact λρ' H' l' s'=>h ρ' H' σ (l.trans l') s' (hl.mono l')
 | bad=>exact h
def sNx:MS:=λe S=>.ok (.nx e) S
def Rr:MS:=λ_ _=>.bad
def BK(a b:MS):MS:=λe S=>(a e S).bind λf S1=>match f with
 | .nx e1=>b e1 S1
 | f=>.ok f S1
def Il(m:ME):MS:=λe S=>(m e S).lift e λ_ S1=>.ok (.nx e) S1
def CZ(m:ME):MS:=λe S=>(m e S).lift e λd S1=>.ok (.rt d) S1
def sIf(t:MT)(a b:MS):MS:=λe S=>(t e S).lift e λc S1=>if c=true then a e S1 else b e S1
def c8(m:ME)(g:MG):MS:=λe S=>(m e S).lift e λd S1=>(g d e S1).bind λe1 S2=>.ok (.nx e1) S2
def tgN(i:Nat):MG:=λd e S=>.ok (e.set i (some d)) S
def CP(i:Nat)(m:ME):MS:=c8 m (tgN i)
section
variable{X:Cx}{E:EW}{st:C2}{rest:List C2}{e:Expr}{pos:Pos}{a b:MS}{t:MT}
theorem R6.later{K}{ρ ρ1}{H H1}{S}{D}{f}(l:Le K ρ H ρ1 H1)(h:R6 K E ρ H S D f):R6 K E ρ1 H1 S D f:=by
 cases f with
 | nx e=>exact λρ' H' σ' l'=>h ρ' H' σ' (l.trans l')
 | bk e=>exact λρ' H' σ' l'=>h ρ' H' σ' (l.trans l')
 | ct e=>exact λρ' H' σ' l'=>h ρ' H' σ' (l.trans l')
 | ex c e=>exact λρ' H' σ' l'=>h ρ' H' σ' (l.trans l')
 | rt d=>exact λρ' H' x l'=>h ρ' H' x (l.trans l')
theorem CA:GSs X E [] sNx:=lH.imp λD σ H ⟨ρ,l,S,hl,hs,hm⟩=>by
 exact hm ρ H σ .refl hs hl
theorem AR(h1:GS X E st a)(h2:GSs X E rest b):GSs X E (st :: rest) (BK a b):=(ge h1 h2).imp λD σ H ⟨ρ,l,S,hl,hs,hm⟩=>by
 refine⟨ρ,l,S,hl,hs,hm.seq λg S1 hm=>?_⟩
 cases g with
 | nx e'=>exact λρ1 H1 σ1 l1 s1 r1=>⟨ρ1,e',S1,r1,s1,hm.go l1 λ_ _ k=>k.later l1⟩
 | rt d=>exact hm
 | bk d=>exact hm
 | ct d=>exact hm
 | ex c d=>exact hm
theorem AX(h1:GS X E st a):GSs X E [st] a:=lG h1
theorem Io:GS X E st Rr:=(gg (X:=X) (st:=st)).imp λD σ H ⟨ρ,l,S,hl,hs,hm⟩=>hm.elim
theorem JY(he:GE X E e m)(hs:HE e none pos.line X.env=pure false:=by rfl):GS X E (.Expr e pos) (Il m):=(lI he hs).imp λD σ H ⟨ρ,l,S,hl,hs,hm⟩=>by
 exact⟨ρ,l,S,hl,hs,hm.lift hl .refl λd S1 hm ρ1 H1 x l1 s1 r1=>hm ρ1 H1 σ l1 s1 (hl.mono l1)⟩
theorem Bc(he:GE X E e m):GS X E (.Return (some e) pos) (CZ m):=(qK he).imp λD σ H ⟨ρ,l,S,hl,hs,hm⟩=>by
 exact⟨ρ,l,S,hl,hs,hm.lift hl .refl λd S1 hm ρ1 H1 x l1 s1 r1=>hm ρ1 H1 x l1 s1 r1⟩
theorem D1{c}{sa sb}(hc:GT X E c t)(ha:GSs X E sa a)(hb:GSs X E sb b):GS X E (.If c sa sb pos) (sIf t a b):=(uX hc ha hb).imp λD σ H ⟨ρ,l,S,hl,hs,hm⟩=>by
 refine⟨ρ,l,S,hl,hs,hm.lift hl .refl λc S1 hm ρ1 H1 l1 s1=>?_⟩
 cases c with
 | true=>rw[qX rfl]at hm ⊢;exact⟨ρ1,l,S1,hl.mono l1,s1,hm.go l1 λ_ _ k=>k.later l1⟩
 | false=>rw[qY AK]at hm ⊢;exact⟨ρ1,l,S1,hl.mono l1,s1,hm.go l1 λ_ _ k=>k.later l1⟩
theorem mW(h:PG X tg (bj i)):GG X tg (tgN i):=h.imp λv σ H Q ⟨ρ,l,S,d,hd,hl,hs,hm⟩=>by
 exact hm ρ H _ .refl hs (hl.set hd i)
theorem re{tg:Expr}{g:MG}(he:GE X E e m)(hg:GG X tg g)(hs:swapsWithSole [tg] e pos.line X.env=pure false:=by rfl)(hw:swappedStores [tg] e X.env=pure none:=by rfl)
  (h1:(Fg [tg] X.env).map (·.2)=[Sd tg X.env]:=by rfl):GS X E (.Assign [tg] e pos) (c8 m g):=(qO he hg hs hw h1).imp λD σ H ⟨ρ,l,S,hl,hs,hm⟩=>by
 exact⟨ρ,l,S,hl,hs,hm.lift hl .refl λd S1 hm ρ1 H1 x l1 s1 r1=>⟨ρ1,l,S1,d,r1,hl.mono l1,s1,(hm.later l1).seq λe1 S2 hm ρ2 H2 σ2 l2 s2 r2=>hm ρ2 H2 σ2 (l1.trans l2) s2 r2⟩⟩
theorem rZ{i}{x}{pos'}(hN:X.N.Nodup)(hi:X.N[i]?=some x)(hx:Loc X.env.scope x)(he:GE X E e m)(hs:HE e (some (.Name x pos')) pos.line X.env=pure false:=by rfl)
  (hf:X.fn x=true∨X.env.scope.names.lookup x=some .local:=by first | exact .inl rfl | exact .inr rfl | assumption):GS X E (.Assign [.Name x pos'] e pos) (CP i m):=(qJ hN hi hx he hs hf).imp λD σ H ⟨ρ,l,S,hl,hs,hm⟩=>by
 exact⟨ρ,l,S,hl,hs,hm.lift hl .refl λd S1 hm ρ1 H1 x l1 s1 r1=>hm ρ1 H1 _ l1 s1 ((hl.mono l1).set r1 i)⟩
def NB(v:SA)(g:MG)(b:MS):Nat->Nat->Lo->Sto->Res Fl
 | k,i,e,S=>match v S with
  | none=>.bad
  | some ds=>match ds[i]? with
   | none=>.ok (.nx e) S
   | some d=>match k with
    | 0=>.bad
    | k+1=>(g d e S).bind λe1 S1=>(b e1 S1).bind λf S2=>match f with
     | .nx e2=>NB v g b k (i+1) e2 S2
     | .ct e2=>NB v g b k (i+1) e2 S2
     | .bk e2=>.ok (.nx e2) S2
     | .rt d=>.ok (.rt d) S2
     | .ex c e2=>.ok (.ex c e2) S2
def EF(v:SA)(S:Sto):Nat:=match v S with
 | none=>0
 | some ds=>ds.length
def Ez(m:MI)(g:MG)(b:MS):MS:=λe S=>(m e S).lift e λv S1=>NB v g b (EF v S1) 0 e S1
theorem Cn{tg iter}{body}{mi}{g}(hp:WG (Ap X.prog X.w) X.A X.env X.xe)(hc:X.calm=true)(hi:GI X E tg iter mi)(hg:GG X tg g)(hb:GSs X E body b)
  (hs:∀x,Gi iter X.env x=pure x:=by intro _;rfl):GS X E (.For tg iter body [] pos) (Ez mi g b):=(qL hp hc hi hg hb hs).imp λD σ H ⟨ρ,l,S,hl,hs,hm⟩=>by
 refine⟨ρ,l,S,hl,hs,hm.lift hl .refl λv S1 hm ρ1 H1 J l1 s1 vo=>?_⟩;refine⟨λi n σ2 H2=>∃ρ2 e2 S2,Le X.K ρ1 H1 ρ2 H2/\G0 X.K ρ2 H2 e2 σ2/\CY X.K ρ2 S2 H2/\Cb X.K noH ρ2 H2 (NB v g b n i e2 S2) λfl S'=>R6 X.K E ρ H S' D fl,⟨EF v S1,ρ1,l,S1,.refl,hl.mono l1,s1,hm.later l1⟩,?_⟩;rintro i n σ2 H2 ⟨ρ2,e2,S2,l2,r2,s2,w8⟩;unfold NB at w8
 cases hv:v S2 with
 | none=>rw[hv]at w8;exact w8.elim
 | some ds=>
  rw[hv]at w8;dsimp only at w8;obtain⟨v1,v2⟩:=vo ρ2 H2 S2 ds i l2 s2 hv
  cases hd:ds[i]? with
  | none=>
   rw[hd]at w8;exact .inl ⟨v1 hd,w8 ρ2 H2 σ2 (l1.trans l2) s2 r2⟩
  | some d=>
   rw[hd]at w8;dsimp only at w8;obtain⟨go,yl⟩:=v2 d hd
   cases n with
   | zero=>exact w8.elim
   | succ n=>
    dsimp only at w8;refine .inr ⟨go,λσ' H'=>∃ρ2 e2 S2,Le X.K ρ1 H1 ρ2 H'/\G0 X.K ρ2 H' e2 σ'/\CY X.K ρ2 S2 H'/\Cb X.K noH ρ2 H' (NB v g b n (i+1) e2 S2) λfl S'=>R6 X.K E ρ H S' D fl,λσ' H' q=>⟨n,DH n,q⟩,λx H' y=>?_⟩;obtain⟨ρ3,l3,s3,rd⟩:=yl x H' y;refine⟨ρ3,e2,S2,d,rd,r2.mono l3,s3,(w8.later l3).seq λe3 S3 w8 ρ4 H4 σ4 l4 s4 r4=>?_⟩;refine⟨ρ4,e3,S3,r4,s4,(w8.later l4).seq λf4 S4 w8=>?_⟩
    cases f4 with
    | nx e5=>exact λρ5 H5 σ5 l5 s5 r5=>⟨ρ5,e5,S4,l2.trans (l3.trans (l4.trans l5)),r5,s5,w8.later l5⟩
    | ct e5=>exact λρ5 H5 σ5 l5 s5 r5=>⟨ρ5,e5,S4,l2.trans (l3.trans (l4.trans l5)),r5,s5,w8.later l5⟩
    | bk e5=>exact λρ5 H5 σ5 l5 s5 r5=>w8 ρ5 H5 σ5 (l1.trans (l2.trans (l3.trans (l4.trans l5)))) s5 r5
    | ex c e5=>exact λρ5 H5 σ5 l5 s5 r5=>w8 ρ5 H5 σ5 (l1.trans (l2.trans (l3.trans (l4.trans l5)))) s5 r5
    | rt d5=>exact λρ5 H5 x5 l5 s5 r5=>w8 ρ5 H5 x5 (l1.trans (l2.trans (l3.trans (l4.trans l5)))) s5 r5
def JD(c:MT)(b:MS):Nat->MS
 | 0=>λ_ _=>.bad
 | n+1=>λe S=>(c e S).lift e λt S1=>if t=true then(b e S1).bind λf S2=>match f with
   | .nx e2=>JD c b n e2 S2
   | .ct e2=>JD c b n e2 S2
   | .bk e2=>.ok (.nx e2) S2
   | .rt d=>.ok (.rt d) S2
   | .ex c e2=>.ok (.ex c e2) S2
  else .ok (.nx e) S1
theorem Yj{c}{body}(N:Nat)(hp:WG (Ap X.prog X.w) X.A X.env X.xe)(hc:GT X E c t)(hb:GSs X E body b):GS X E (.While c body [] pos) (JD t b N):=(gf hp hc hb).imp λD σ H ⟨ρ,l,S,hl,hs,hm⟩=>by
 refine⟨λn σ2 H2=>∃ρ2 e2 S2,Le X.K ρ H ρ2 H2/\G0 X.K ρ2 H2 e2 σ2/\CY X.K ρ2 S2 H2/\Cb X.K noH ρ2 H2 (JD t b n e2 S2) λfl S'=>R6 X.K E ρ H S' D fl,⟨N,ρ,l,S,.refl,hl,hs,hm⟩,?_⟩;rintro n σ2 H2 ⟨ρ2,e2,S2,l2,r2,s2,w8⟩
 cases n with
 | zero=>exact w8.elim
 | succ n=>
  refine⟨ρ2,e2,S2,r2,s2,w8.lift r2 l2 λtc S3 w8 ρ3 H3 l3 s3=>?_⟩
  cases tc with
  | false=>rw[qY AK]at w8 ⊢;exact w8 ρ3 H3 σ2 (l2.trans l3) s3 (r2.mono l3)
  | true=>
   rw[qX rfl]at w8 ⊢;refine⟨λσ' H'=>∃ρ2 e2 S2,Le X.K ρ H ρ2 H'/\G0 X.K ρ2 H' e2 σ'/\CY X.K ρ2 S2 H'/\Cb X.K noH ρ2 H' (JD t b n e2 S2) λfl S'=>R6 X.K E ρ H S' D fl,λσ' H' q=>⟨n,DH n,q⟩,?_⟩;refine⟨ρ3,e2,S3,r2.mono l3,s3,(w8.later l3).seq λf4 S4 w8=>?_⟩
   cases f4 with
   | nx e5=>exact λρ5 H5 σ5 l5 s5 r5=>⟨ρ5,e5,S4,l2.trans (l3.trans l5),r5,s5,w8.later l5⟩
   | ct e5=>exact λρ5 H5 σ5 l5 s5 r5=>⟨ρ5,e5,S4,l2.trans (l3.trans l5),r5,s5,w8.later l5⟩
   | bk e5=>exact λρ5 H5 σ5 l5 s5 r5=>w8 ρ5 H5 σ5 (l2.trans (l3.trans l5)) s5 r5
   | ex c e5=>exact λρ5 H5 σ5 l5 s5 r5=>w8 ρ5 H5 σ5 (l2.trans (l3.trans l5)) s5 r5
   | rt d5=>exact λρ5 H5 x5 l5 s5 r5=>w8 ρ5 H5 x5 (l2.trans (l3.trans l5)) s5 r5
end
section
variable{X:Cx}{E:EW}{tg e:Expr}{m:ME}{K:AG}
def RO(d:D):SA:=λS=>match d with
 | .ref n=>match S[n]? with
  | some (.lst ds)=>some ds
  | _=>none
 | .fro ds=>some ds
 | _=>none
def Gu(ds:List D):SA:=λ_=>some ds
def vA(m:ME):MI:=λe S=>(m e S).bind λd S1=>match RO d S1 with
 | some _=>.ok (RO d) S1
 | none=>.bad
def oV(m:ME):MI:=λe S=>(m e S).bind λd S1=>match d with
 | .tup ds=>.ok (Gu ds) S1
 | _=>.bad
theorem Sy(s:CY K ρ S H)(r:CH K ρ H d (.ref a))(hv:RO d S=some ds):∃xs,SqL K H a xs/\Az K ρ H ds xs:=by
 cases r with
 | tup h1 h2=>cases hv
 | exc _ _=>cases hv
 | fro h1 h2=>cases hv;exact⟨_,h1.sq,h2⟩
 | @ref n _ hn=>
  obtain⟨o,ho,ro⟩:=s.there hn;unfold RO at hv;simp only[ho]at hv
  cases o with
  | lst es=>
   cases hv;obtain⟨vs,e,rr⟩:=ro;exact⟨vs,.inl (.inl e),rr⟩
  | _=>cases hv
theorem Sw(r:CH K ρ H d (.ref a)):OC K ρ H (Itl K a) (RO d):=by
 intro ρ2 H2 S ds i l s hv;obtain⟨xs,sq,rr⟩:=Sy s (r.mono l) hv;refine⟨λhn=>⟨xs,sq,by rw[<-rr.length];exact Cp.mp hn⟩,λd hd=>?_⟩;obtain⟨x,hx,rx⟩:=rr.get hd;refine⟨⟨xs,x,sq,hx⟩,λy H' ⟨e,hy⟩=>?_⟩;subst e;have:=hy xs sq;rw[hx]at this;cases this;exact⟨ρ2,.refl,s,rx⟩
theorem rj(h:GE X E e m):GI X E tg e (vA m):=(lQ h).imp λσ H R ⟨ρ,l,S,hl,hs,hm⟩=>by
 refine⟨ρ,l,S,hl,hs,hm.seq λd S1 hm ρ1 H1 x l1 s1 r1=>?_⟩
 cases hv:RO d S1 with
 | none=>rw[hv]at hm;exact hm.elim
 | some ds=>
  rw[hv]at hm
  have:∃a,x=.ref a:=by
   cases r1 <;> first | exact⟨_,rfl⟩ | (cases hv;done)
  obtain⟨a,rfl⟩:=this;obtain⟨xs,sq,_⟩:=Sy s1 r1 hv;exact⟨a,rfl,⟨xs,sq⟩,hm ρ1 H1 _ l1 s1 (Sw r1)⟩
theorem Su(h1:H a=some (.tup xs))(h2:Az K ρ H ds xs):OC K ρ H (Itt K a) (Gu ds):=by
 intro ρ2 H2 S xf i l s hv;cases hv;have rr:=h2.mono l;have sq:SqT K H2 a xs:=.inl (.inl (l.tup _ _ h1));refine⟨λhn=>⟨xs,sq,by rw[<-rr.length];exact Cp.mp hn⟩,λd hd=>?_⟩;obtain⟨x,hx,rx⟩:=rr.get hd;refine⟨⟨xs,x,sq,hx⟩,λy H' ⟨e,hy⟩=>?_⟩;subst e;have:=hy xs sq;rw[hx]at this;cases this;exact⟨ρ2,.refl,s,rx⟩
theorem rh(h:GE X E e m):GI X E tg e (oV m):=(qP h).imp λσ H R ⟨ρ,l,S,hl,hs,hm⟩=>by
 refine⟨ρ,l,S,hl,hs,hm.seq λd S1 hm ρ1 H1 x l1 s1 r1=>?_⟩
 cases d <;> first | exact hm.elim | skip
 cases r1 with
 | tup q1 q2=>exact⟨_,rfl,⟨_,.inl (.inl q1)⟩,hm ρ1 H1 _ l1 s1 (Su q1 q2)⟩
def Ju(lo:Int)(n:Nat):List D:=(DD n).map λi:Nat=>D.int (lo+i)
theorem Vj(lo:Int)(n i:Nat):(Ju lo n)[i]?=if i < n then some (.int (lo+i))else none:=by
 unfold Ju;rw[AZ]
 by_cases h:i < n
 ·rw[DT h,qX h];rfl
 ·rw[qY h,Cp.mpr (by simpa using h)];rfl
theorem Sv(lo:Int)(n:Nat):OC K ρ H (Itr lo n) (Gu (Ju lo n)):=by
 intro ρ2 H2 S xf i l s hv;cases hv;rw[Vj];refine⟨λhn=>?_,λd hd=>?_⟩
 ·split at hn
  ·cases hn
  ·rename_i h;exact Sk h
 ·split at hd
  ·rename_i h
   cases hd;refine⟨h,λy H' ⟨e,hy⟩=>?_⟩;subst e;subst hy;exact⟨ρ2,.refl,s,.int _⟩
  ·cases hd
def iR1(ml:ML):MI:=λe S=>(ml e S).bind λds S1=>match ds with
 | [.int j]=>if -(2 ^ 62)<=j/\j < 2 ^ 62 then .ok (Gu (Ju 0 j.toNat)) S1 else .bad
 | _=>.bad
def iR2(ml:ML):MI:=λe S=>(ml e S).bind λds S1=>match ds with
 | [.int i,.int j]=>if -(2 ^ 62)<=i/\i < 2 ^ 62/\-(2 ^ 62)<=j/\j < 2 ^ 62 then .ok (Gu (Ju i (j - i).toNat)) S1 else .bad
 | _=>.bad
theorem FG(hg:Gl X "range") (hm:X.mg "range" = none) (ha:GA X E [a] ml) (hs:Ad [a] X.env=[(false,Cj a X.env)]:=by rfl):GI X E tg (.Call (.Name "range" p) [a] [] pos) (iR1 ml):=(dI hg hm ha hs).imp λσ H R ⟨ρ,l,S,hl,hs,hm⟩=>by
 refine⟨ρ,l,S,hl,hs,hm.seq λds S1 hm ρ1 H1 xs l1 s1 r1=>?_⟩;split at hm
 ·rename_i j
  split at hm
  ·rename_i hj
   cases r1 with
   | cons r t=>
    cases t;cases r;exact⟨j,rfl,hj.1,hj.2,hm ρ1 H1 _ l1 s1 (Sv 0 j.toNat)⟩
  ·exact hm.elim
 ·exact hm.elim
theorem Lc(hg:Gl X "range") (hm:X.mg "range" = none) (ha:GA X E [a,b] ml) (hs:Ad [a,b] X.env=[(false,Cj a X.env),(false,Cj b X.env)]:=by rfl) (wK:Ad [b] X.env=[(false,Cj b X.env)]:=by rfl) :
  GI X E tg (.Call (.Name "range" p) [a,b] [] pos) (iR2 ml):=(dH hg hm ha hs wK).imp λσ H R ⟨ρ,l,S,hl,hs,hm⟩=>by
 refine⟨ρ,l,S,hl,hs,hm.seq λds S1 hm ρ1 H1 xs l1 s1 r1=>?_⟩;split at hm
 ·rename_i i j
  split at hm
  ·rename_i hj
   cases r1 with
   | cons r t=>
    cases t with
    | cons r' t=>
     cases t;cases r;cases r';exact⟨i,j,rfl,hj,hm ρ1 H1 _ l1 s1 (Sv i _)⟩
  ·exact hm.elim
 ·exact hm.elim
end
def Jh:List D->Lo->Sto->Res Lo
 | [],e,S=>.ok e S
 | _,_,_=>.bad
def DL(g:MG)(r:List D->Lo->Sto->Res Lo):List D->Lo->Sto->Res Lo
 | d :: ds,e,S=>(g d e S).bind λe1 S1=>r ds e1 S1
 | [],_,_=>.bad
def JK(n:Nat)(r:List D->Lo->Sto->Res Lo):MG:=λd e S=>match d with
 | .tup ds=>if ds.length=n then r ds e S else .bad
 | _=>.bad
section
variable{X:Cx}
def gGs(K:AG)(r:List D->Lo->Sto->Res Lo):TGs:=λvs σ H Q=>∃ρ e S ds,Az K ρ H ds vs/\G0 K ρ H e σ/\CY K ρ S H/\Cb K noH ρ H (r ds e S) λe' S'=>∀ρ' H' σ',Le K ρ H ρ' H'->CY K ρ' S' H'->G0 K ρ' H' e' σ'->Q σ' H'
abbrev GGs(X:Cx)(ts:List Expr)(r:List D->Lo->Sto->Res Lo):Prop:=PGs X ts (gGs X.K r)
theorem PGs.imp(h:PGs X ts t)(i:∀vs σ H Q,t' vs σ H Q->t vs σ H Q):PGs X ts t':=λζ s σ H vs us Q I r q=>h ζ s σ H vs us Q I r (i vs σ H Q q)
theorem Ma:GGs X [] Jh:=lT.imp λvs σ H Q ⟨ρ,l,S,ds,hd,hl,hs,hm⟩=>by
 cases ds with
 | nil=>cases hd;exact⟨rfl,hm ρ H σ .refl hs hl⟩
 | cons d ds=>exact hm.elim
theorem Ef(h1:GG X e g)(h2:GGs X es r)
  (hs:(Fg (e :: es) X.env).map (·.2)=Sd e X.env :: (Fg es X.env).map (·.2):=by rfl):GGs X (e :: es) (DL g r):=(gl h1 h2 hs).imp λvs σ H Q ⟨ρ,l,S,ds,hd,hl,hs,hm⟩=>by
 cases ds with
 | nil=>exact hm.elim
 | cons d ds=>
  cases hd with
  | cons q1 q2=>
   exact⟨_,_,rfl,ρ,l,S,d,q1,hl,hs,hm.seq λe1 S1 hm ρ1 H1 σ1 l1 s1 r1=>⟨ρ1,e1,S1,ds,q2.mono l1,r1,s1,hm.go l1 λ_ _ k ρ2 H2 σ2 l2 s2 r2=>k ρ2 H2 σ2 (l1.trans l2) s2 r2⟩⟩
theorem PB(hc:X.calm=true)(h:GGs X es r)
  (hn:(Fg es X.env).length=n:=by rfl) (yB:(Fg es X.env).findIdx? (·.1)=none:=by rfl):GG X (.Tuple es k pos) (JK n r):=(qQ hc h hn yB).imp λv σ H Q ⟨ρ,l,S,d,hd,hl,hs,hm⟩=>by
 cases d <;> first | exact hm.elim | skip
 rename_i ds
 cases hd with
 | tup q1 q2=>
  unfold JK at hm;dsimp only at hm;split at hm
  ·rename_i hlen
   exact⟨_,_,rfl,.inl (.inl q1),by rw[<-q2.length];exact hlen,ρ,l,S,ds,q2,hl,hs,hm⟩
  ·exact hm.elim
end
def spM(K:AG)(n:Nat)(f:List D->Sto->Res D):Sp:=λvs H Q E=>∃ρ ds S,ds.length=n/\Az K ρ H ds vs/\CY K ρ S H/\Cb K (λc H'=>E (.ref c) none H') ρ H (f ds S) λd S'=>
 ∀ρ' H' x,Le K ρ H ρ' H'->CY K ρ' S' H'->CH K ρ' H' d x->Q x H'
theorem spM.len{K}{n}{f}{vs}{H}{Q}{E}(h:spM K n f vs H Q E):vs.length=n:=by
 obtain⟨ρ,ds,S,h1,h2,_⟩:=h;rw[<-h2.length];exact h1
def Bp(n:Nat)(f:List D->Sto->Res D)(m:ML):ME:=λe S=>(m e S).bind λds S1=>if ds.length=n then f ds S1 else .bad
def Ol(C:AW)(n:Nat)(f:List D->Sto->Res D)(m:ML):ME:=λe S=>(m e S).bind λds S1=>if ds.length+1=n then(f (.ref S1.length :: ds) (S1++[.ins C []])).bind (λd S2=>match d with
  | .non=>.ok (.ref S1.length) S2
  | _=>.bad)else .bad
def WN(E:EW)(σ:St):XK:=λv o H=>o=none/\∃c,v=.ref c/\E c σ H
section
variable{X:Cx}{E:EW}{k n:Nat}{x:Str}{e:Expr}{es:List Expr}
theorem Cb.xk{α:Type}{K:AG}{σ:St}{ρ ρ1:List AW}{H H1:Hp}{r:Res α}{k k':α->Sto->Prop}(h:Cb K (λc=>E c σ) ρ H r k)(l:Le K ρ H ρ1 H1)(f:∀a S,k a S->k' a S):Cb K (λc H'=>WN E σ (.ref c) none H') ρ1 H1 r k':=by
 cases r with
 | ok a S=>exact f a S h
 | err c S=>exact λρ' H' l' s=>⟨rfl,c,rfl,h ρ' H' (l.trans l') s⟩
 | bad=>exact h
theorem XI(F:Cg X.prog X.w X.K X.mg X.base CX k f fd ps (spM X.K n g))(hx:Mv CX X (WN E))(hr:Hu k X.A)(hg:Gl X x)(hm:X.mg x=some (.ref f))(hk:Fi X.K (.ref f)=true)(hb:Binds X.K fd ps [])
  (ha:GA X E (e :: es) ml) (xl:(x==("__debug__" : Str))=false:=by decide) (he:Ad (e :: es) X.env=(false,Cj e X.env) :: Ad es X.env:=by rfl) (wD:(EB pos (Ad es X.env)).any (·.1)=false:=by rfl) :
  GE X E (.Call (.Name x p) (e :: es) [] pos) (Bp n g ml):=(lg (E:=WN E) F hr hg hm hk hb .nil hx ha xl he wD).imp λσ H Q ⟨ρ,l,S,hl,hs,hm⟩=>by
 refine⟨ρ,l,S,hl,hs,hm.seq λds S1 hm ρ1 H1 xs l1 s1 r1=>?_⟩;split at hm
 ·rename_i hlen
  rw[Bq];exact⟨ρ1,ds,S1,hlen,r1,s1,hm.xk l1 λ_ _ k ρ' H' z l' s' r'=>k ρ' H' z (l1.trans l') s' r'⟩
 ·exact hm.elim
theorem SW(M:Mk X.K C f)(F:Cg X.prog X.w X.K X.mg X.base CX k f fd ps (spM X.K n g))(hx:Mv CX X (WN E))(hr:Hu (k+1) X.A)(hg:Gl X x)(hm:X.mg x=some (.ref C))(hb:Binds X.K fd ps [])
  (ha:GA X E (e :: es) ml) (xl:(x==("__debug__" : Str))=false:=by decide) (he:Ad (e :: es) X.env=(false,Cj e X.env) :: Ad es X.env:=by rfl) (wD:(EB pos (Ad es X.env)).any (·.1)=false:=by rfl) :
  GE X E (.Call (.Name x p) (e :: es) [] pos) (Ol C n g ml):=(lW (E:=WN E) M F hr hg hm hb .nil hx ha xl he wD).imp λσ H Q ⟨ρ,l,S,hl,hs,hm⟩=>by
 refine⟨ρ,l,S,hl,hs,hm.seq λds S1 hm ρ1 H1 xs l1 s1 r1 a dx ha hdx wg=>?_⟩;split at hm
 ·rename_i hlen
  rw[Bq];obtain⟨s2,l2⟩:=IY (ho:=.own a) s1 hdx
  have ha2:upd H1 dx (.own a) a=none:=by rw[Bj (Br wg)];exact ha
  obtain⟨s3,l3,at3⟩:=s2.alloc (p:=a) (ho:=.ins C dx []) (o:=.ins C []) ha2 ⟨dx,[],B2,.nil⟩;refine⟨ρ1++[a],.ref S1.length :: ds,S1++[.ins C []],by simpa using hlen,.cons (.ref at3) (r1.mono (l2.trans l3)),s3,Cb.xk (hm.seq λz S2 hm=>hm) (l1.trans (l2.trans l3)) λz S2 hm ρ' H' y l' s' r'=>?_⟩
  cases z <;> first | exact hm.elim | skip
  cases r';exact⟨rfl,hm ρ' H' _ (l1.trans (l2.trans (l3.trans l'))) s' (.ref (l'.pre _ _ at3))⟩
 ·exact hm.elim
end
theorem KVR.lookup{K}{ρ}{H}(f:Str):∀{x:List (Str×D)} {y:List (Str×V)} {d:D},KVR K ρ H x y->x.lookup f=some d->∃v,y.lookup f=some v/\CH K ρ H d v
 | _,_,_,.nil,h=>by simp at h
 | (g,a) :: x,(g',b) :: y,d,.cons r t,h=>by
  obtain⟨r1,r2⟩:=r;dsimp only at r1 r2;subst r1;rw[Bd]at h ⊢
  cases hq:(f==g)with
  | true=>rw[hq]at h;cases h;exact⟨b,rfl,r2⟩
  | false=>rw[hq]at h;exact KVR.lookup f t h
def KO(f:Str)(v:D):List (Str×D)->List (Str×D)
 | []=>[(f,v)]
 | (g,x) :: r=>if g=f then(g,v) :: r else(g,x) :: KO f v r
theorem KVR.putF{K}{ρ}{H}(f:Str){d}{v}(rd:CH K ρ H d v):∀{x:List (Str×D)} {y:List (Str×V)},KVR K ρ H x y->KVR K ρ H (KO f d x) (putF f v y)
 | _,_,.nil=>.cons ⟨rfl,rd⟩ .nil
 | (g,a) :: x,(g',b) :: y,.cons r t=>by
  obtain⟨r1,r2⟩:=r;dsimp only at r1 r2;subst r1;unfold KO L2.putF
  by_cases hq:g=f
  ·rw[qX hq,qX hq];exact .cons ⟨rfl,rd⟩ t
  ·rw[qY hq,qY hq];exact .cons ⟨rfl,r2⟩ (KVR.putF f rd t)
theorem KVR.length{κ:Type}{K:AG}{ρ:List AW}{H:Hp}{x:List (κ×D)}{y:List (κ×V)}(h:KVR K ρ H x y):x.length=y.length:=FJ h
def DC(C:AW)(f:Str)(m:ME):ME:=λe S=>(m e S).bind λd S1=>match d with
 | .ref n=>match S1[n]? with
  | some (.ins C' fs)=>if C'=C then(match fs.lookup f with | some v=>.ok v S1 | none=>.bad)else .bad
  | _=>.bad
 | _=>.bad
def KW(C:AW)(f:Str)(mo mv:ME):MS:=λe S=>(mv e S).lift e λv S1=>(mo e S1).lift e λd S2=>match d with
 | .ref n=>match S2[n]? with
  | some (.ins C' fs)=>if C'=C/\fs.length < 1000 then .ok (.nx e) (S2.set n (.ins C (KO f v fs)))else .bad
  | _=>.bad
 | _=>.bad
section
variable{X:Cx}{E:EW}{o e value:Expr}{m mv:ME}
theorem CG(hc:Cls X.K C)(hn:FR X.K C f)(he:GE X E e m)(hb:Ht e f X.env (Cj e X.env)=Cj e X.env:=by rfl):GE X E (.Attribute e f pos) (DC C f m):=(qW he hb).imp λσ H Q ⟨ρ,l,S,hl,hs,hm⟩=>by
 refine⟨ρ,l,S,hl,hs,hm.seq λx S1 hm ρ1 H1 v l1 s1 r1=>?_⟩
 cases x <;> first | exact hm.elim | skip
 rename_i n;dsimp only at hm
 cases ho:S1[n]? with
 | none=>rw[ho]at hm;exact hm.elim
 | some ob=>
  rw[ho]at hm
  cases ob <;> first | exact hm.elim | skip
  rename_i C' fs;dsimp only at hm;split at hm
  ·rename_i hC
   rw[hC]at ho
   cases r1 with
   | ref xg=>
    obtain⟨dx,yp,e1,e2⟩:=s1.ob n _ _ ho xg
    cases hq:fs.lookup f with
    | none=>rw[hq]at hm;exact hm.elim
    | some w=>
     rw[hq]at hm;obtain⟨v,h3,h4⟩:=KVR.lookup f e2 hq;exact⟨_,_,dx,yp,v,rfl,e1,hc,hn,h3,hm ρ1 H1 v l1 s1 h4⟩
  ·exact hm.elim
theorem K6(hc:Cls X.K C)(hn:FR X.K C f)(ha:GE X E o m)(hv:GE X E value mv)(hs:HE value (some (.Attribute o f pos')) pos.line X.env=pure false:=by rfl):GS X E (.Assign [.Attribute o f pos'] value pos) (KW C f m mv):=(qM ha hv hs).imp λD σ H ⟨ρ,l,S,hl,hs,hm⟩=>by
 refine⟨ρ,l,S,hl,hs,hm.lift hl .refl λv S1 hm ρ1 H1 y l1 s1 r1=>⟨ρ1,l,S1,hl.mono l1,s1,(hm.later l1).lift (hl.mono l1) l1 λx S2 hm ρ2 H2 u l2 s2 r2=>?_⟩⟩
 cases x <;> first | exact hm.elim | skip
 rename_i n;dsimp only at hm
 cases ho:S2[n]? with
 | none=>rw[ho]at hm;exact hm.elim
 | some ob=>
  rw[ho]at hm
  cases ob <;> first | exact hm.elim | skip
  rename_i C' fs;dsimp only at hm;split at hm
  ·rename_i hC
   obtain⟨hC,hlen⟩:=hC;rw[hC]at ho
   cases r2 with
   | ref xg=>
    obtain⟨dx,yp,e1,e2⟩:=s2.ob n _ _ ho xg;have le:Le X.K ρ2 H2 ρ2 (upd H2 _ (.ins C dx (putF f y yp))):=Le.write xg (by rw[e1];trivial);obtain⟨s3,l3⟩:=s2.write (ho:=.ins C dx (putF f y yp)) (o:=.ins C (KO f v fs)) xg ⟨dx,_,B2,(KVR.putF f (r1.mono l2) e2).mono le⟩ le;refine⟨_,C,dx,yp,rfl,e1,hc,hn,by rw[<-KVR.length e2];exact hlen,?_⟩;exact hm ρ2 _ σ (l1.trans (l2.trans l3)) s3 (hl.mono (l1.trans (l2.trans l3)))
  ·exact hm.elim
end
def ExAt(Nw:AW->Prop)(F:Option AI->Prop)(ea C:AW)(H:Hp)(h:Cz):Prop:=
 H ea=none/\Nw ea/\∃(oe:Obj) (vs:Array AI) (a0:AI),h.get? ea=some oe/\oe.cls=.ref C/\(oe.dict=none/\oe.data=.fields vs)/\vs[0]?=some a0 /\
  ((F none/\vs[1]?=some .none)∨∃(T:AW) (oT:Obj) (ts:Array AI) (fl:AI),F (some fl)/\vs[1]?=some (.ref T)/\T≠ea/\H T=none/\Nw T/\h.get? T=some oT/\oT.data=.fields ts/\ts[3]?=some fl)
def CXG(P:Bg)(w:CL):CXT:=λouter H s E e s'=>∃ea C H',e=.ref ea/\s'.os=s.os/\LQ s'.gens/\Un (frs outer) [] H H' s.heap s'.heap/\HOk P w H' s'.heap/\ExAt (λb=>s.heap.get? b=none) (· = some .none) ea C H' s'.heap/\E (.ref C) none H'
theorem Inv.with(I:Inv X ζ σ H s)(z:AI->AQ->Prop):Inv { X with xe:=z } ζ σ H s:=by
 obtain⟨ok,a,b,c,d,e,f,g,i,j,l⟩:=I;obtain⟨o1,o2,o3,o4,o5,o6,o7,o8,o9,o10,o11,o12,o13,o14,o15,o16,o17,o18⟩:=ok;exact⟨⟨o1,o2,o3,o4,o5,o6,o7,o8,o9,o10,o11,o12,o13,o14,o15,o16,o17,o18⟩,a,b,c,d,e,f,g,i,j,l⟩
theorem Inv.without(I:Inv { X with xe:=z } ζ σ H s):Inv X ζ σ H s:=by
 have:=I.with X.xe
 exact this
structure Good(X:Cx)(E:EW):Prop where
 pass:Mv (CXG X.prog X.w) X (WN E)
 own:WG (Ap X.prog X.w) X.A X.env X.xe
 made:∀(ζ:List (AW×Obj)) (σ:St) (H:Hp) (s:AQ) (h':Cz) (ea C:AW) (args:List AI),Inv X ζ σ H s->E C σ H->Cz.MadeExcOf s.heap h' ea (.ref C) args->X.xe (.ref ea) { s with heap:=h' }
theorem good_none(hx:X.xe=λ_ _=>False):Good X noE:=by
 refine⟨λζ σ H s e s' I h=>?_,by rw[hx];exact WG.never,λ_ _ _ _ _ _ _ _ _ w _=>w.elim⟩;obtain⟨ea,C,H',rfl,os,bare,un,hok,x,_,c,ec,w⟩:=h;exact w.elim
def JC(n:Nat)(ds:List D):Lo:=ds.map some++Bt (n - ds.length) none
theorem Ze{K}{ρ}{H}{N}{ds}{vs}(r:Az K ρ H ds vs):G0 K ρ H (JC N.length ds) (start N vs):=by
 refine⟨by simp[JC,start,r.length],λi d q=>?_⟩;unfold JC at q;unfold start
 by_cases hi:i < ds.length
 ·rw[A9 (by simpa using hi),AZ]at q
  rw[A9 (by rw[AF,<-r.length];exact hi),AZ]
  cases e:ds[i]? with
  | none=>rw[e]at q;cases q
  | some d'=>
   rw[e]at q;cases q;obtain⟨v,h1,h2⟩:=r.get e;exact⟨v,by rw[h1];rfl,h2⟩
 ·rw[Be (by simpa using hi),Dy]at q
  split at q <;> cases q
section
variable{X:Cx}
def intOp(C:Int->Int->Prop)[∀i j,Decidable (C i j)](g:Int->Int->D):D->D->Sto->Res D
 | .int i,.int j,S=>if C i j then .ok (g i j) S else .bad
 | _,_,_=>.bad
theorem iX[∀i j,Decidable (C i j)](h:intOp C g a b S=.ok d S'):∃i j,a=.int i/\b=.int j/\C i j/\d=g i j/\S'=S:=by
 unfold intOp at h;split at h
 ·split at h
  ·rename_i i j _ hc
   cases h;exact⟨_,_,rfl,rfl,hc,rfl,rfl⟩
  ·cases h
 ·cases h
theorem Qr[∀i j,Decidable (C i j)](hv:∀ρ H i j,CH X.K ρ H (g i j) (v i j))(h:OpR X f (rI C v)):OpR X f (rD X.K (intOp C g)):=h.imp λx y H Q ⟨ρ,S,a,b,d,S',hs,ra,rb,hm,k⟩=>by
 obtain⟨i,j,rfl,rfl,hc,rfl,rfl⟩:=iX hm;cases ra;cases rb;exact⟨i,j,rfl,rfl,hc,k ρ H _ .refl hs (hv _ _ _ _)⟩
theorem MW(hv:∀ρ H i j,CH X.K ρ H (g i j) (v i j))(h:OpR X f (rI0 v)):OpR X f (rD X.K (intOp (λ_ _=>True) g)):=
 Qr (C:=λ_ _=>True) hv (h.imp λx y H Q ⟨i,j,e1,e2,_,q⟩=>⟨i,j,e1,e2,q⟩)
instance(i j:Int):Decidable (jZ i j):=inferInstanceAs (Decidable (_/\_))
instance(i j:Int):Decidable (jY i j):=inferInstanceAs (Decidable (_/\_/\_))
instance(i j:Int):Decidable (Y2 i j):=inferInstanceAs (Decidable (_∨_))
abbrev Zd:=intOp (λ_ _=>True) λi j=>.int (i - j)
abbrev W5:=intOp Y2 λi j=>.int (i * j)
abbrev Ny:=intOp jZ λi j=>.int (i / j)
abbrev Qu:=intOp (λ_ j=>0 < j) λi j=>.int (i % j)
abbrev ltD:=intOp (λ_ _=>True) λi j=>.bl (decide (i < j))
abbrev leD:=intOp (λ_ _=>True) λi j=>.bl (decide (i<=j))
abbrev gtD:=intOp (λ_ _=>True) λi j=>.bl (decide (j < i))
abbrev geD:=intOp (λ_ _=>True) λi j=>.bl (decide (j<=i))
theorem Tu:OpR X (Cy .Sub) (rD X.K Zd):=MW (λ_ _ _ _=>.int _) qf
theorem Tv:OpR X (Cy .Mult) (rD X.K W5):=Qr (λ_ _ _ _=>.int _) qi
theorem MX:OpR X (Cy .FloorDiv) (rD X.K Ny):=Qr (λ_ _ _ _=>.int _) lq
theorem MV:OpR X (Cy .Mod) (rD X.K Qu):=Qr (λ_ _ _ _=>.int _) qj
theorem bL:OpR X (Bu .Lt) (rD X.K ltD):=MW (λ_ _ _ _=>.bl _) ud
theorem Vm:OpR X (Bu .LtE) (rD X.K leD):=MW (λ_ _ _ _=>.bl _) ue
theorem oK:OpR X (Bu .Gt) (rD X.K gtD):=MW (λ_ _ _ _=>.bl _) uf
theorem uj:OpR X (Bu .GtE) (rD X.K geD):=MW (λ_ _ _ _=>.bl _) ug
def Ja:D->D->Sto->Res D
 | .int i,.int j,S=>.ok (.int (i+j)) S
 | .tup xs,.tup ys,S=>if xs.length+ys.length<=sizeLine then .ok (.tup (xs++ys)) S else .bad
 | .ref l,.ref b,S=>match S[l]?,S[b]? with
  | some (.lst xs),some (.lst ys)=>if xs.length+ys.length<=sizeLine then .ok (.ref S.length) (S++[.lst (xs++ys)])else .bad
  | _,_=>.bad
 | _,_,_=>.bad
def uU(K:AG):R2:=λx y H Q=>∃a b xs ys,x=.ref a/\y=.ref b/\H a=some (.tup xs)/\H b=some (.tup ys)/\xs.length+ys.length<=sizeLine /\
 (xs=[]->Q (.ref b) H)/\(ys=[]->Q (.ref a) H)/\(∀p,H p=none->Q (.ref p) (upd H p (.tup (xs++ys))))
theorem ls:OpR X (Cy .Add) (uU X.K):=by
 intro ζ s σ H x y v u Q I rx ry h;obtain⟨a,b,xs,ys,rfl,rfl,ha,hb,hz,q0,q1,q2⟩:=h;cases rx;cases ry;obtain⟨tx,r1,p1,_⟩:=I.tuple (a:=a) (xs:=xs) (.inl (.inl ha));obtain⟨wG,r2,p2,_⟩:=I.tuple (a:=b) (xs:=ys) (.inl (.inl hb))
 by_cases hx:xs=[]
 ·obtain⟨⟨cls,dd,data,sl⟩,ho,hc,n,hd⟩:=id p1
  obtain⟨⟨cls2,yS,data2,yT⟩,ho2,hc2,n2,hd2⟩:=id p2;simp only at hc hd hc2 hd2;subst hc hd hc2 hd2;have hi:tx=[]:=r1.nil_iff.mpr hx
  exact eX ⟨_,ho,rfl⟩ ⟨_,ho2,rfl⟩ WC cG Lr LP (Kn _ _)
   (tuple_addW0 a b tx.toArray wG.toArray n n2 dd yS sl yT (by simp[hi])) ⟨ho,ho2,⟨.ref b,H,I,rfl,q0 hx⟩⟩
 ·exact lr ζ s σ H (.ref a) (.ref b) _ _ Q I rfl rfl ⟨a,b,xs,ys,rfl,rfl,.inl (.inl ha),.inl (.inl hb),hx,hz,q1,λ_ p hp=>q2 p hp⟩
theorem Az.nil_of{K}{ρ}{H}{xs}{vs}(r:Az K ρ H xs vs)(e:vs=[]):xs=[]:=by
 subst e;cases r;rfl
theorem Ge:OpR X (Cy .Add) (rD X.K Ja):=(qo.or (ls.or ql)).imp λx y H Q ⟨ρ,S,a,b,d,S',hs,ra,rb,hm,k⟩=>by
 cases ra with
 | int i=>
  cases rb <;> first | (cases hm;done) | skip
  cases hm;exact .inl ⟨_,_,rfl,rfl,k ρ H _ .refl hs (.int _)⟩
 | @tup xs a1 vs h1 h2=>
  cases rb with
  | @tup ys b1 ws h3 h4=>
   unfold Ja at hm;dsimp only at hm;split at hm
   ·rename_i hz
    cases hm;refine .inr (.inl ⟨_,_,_,_,rfl,rfl,h1,h3,by rw[<-h2.length,<-h4.length];exact hz,λe=>?_,λe=>?_,λp hp=>?_⟩)
    ·rw[h2.nil_of e,jv]at k
     exact k ρ H _ .refl hs (.tup h3 h4)
    ·rw[h4.nil_of e,Bq]at k
     exact k ρ H _ .refl hs (.tup h1 h2)
    ·obtain⟨s2,l2⟩:=IY (ho:=.tup (vs++ws)) hs hp
     exact k ρ _ _ l2 s2 (.tup B2 ((h2.append h4).mono l2))
   ·cases hm
  | _=>cases hm
 | @ref n a1 hn=>
  cases rb with
  | @ref m b1 xg=>
   unfold Ja at hm;dsimp only at hm;split at hm
   ·rename_i xs ys h1 h2
    split at hm
    ·rename_i hz
     cases hm;obtain⟨vs,e1,r1⟩:=hs.ob _ _ _ h1 hn;obtain⟨us,e2,r2⟩:=hs.ob _ _ _ h2 xg;refine .inr (.inr ⟨_,_,_,_,rfl,rfl,e1,e2,by rw[<-r1.length,<-r2.length];exact hz,λp hp=>?_⟩);have le:Le X.K ρ H (ρ++[p]) (upd H p (.lst (vs++us))):=Le.alloc hp;obtain⟨s2,l2,at2⟩:=hs.alloc (ho:=.lst (vs++us)) (o:=.lst (xs++ys)) hp ⟨_,B2,(r1.append r2).mono le⟩;exact k _ _ _ l2 s2 (.ref at2)
    ·cases hm
   ·cases hm
  | _=>cases hm
 | _=>cases hm
def ixD:D->D->Sto->Res D:=λa b S=>match HG a S,b with
 | some ds,.int i=>match atI ds i with
  | some d=>.ok d S
  | none=>.bad
 | _,_=>.bad
theorem nL{K}{ρ}{H}{ds}{vs}{i}{d}(r:Az K ρ H ds vs)(h:atI ds i=some d):∃v,atI vs i=some v/\CH K ρ H d v:=by
 unfold atI at h ⊢;rw[<-r.length]
 cases hq:ixN ds.length i with
 | none=>rw[hq]at h;cases h
 | some j=>
  rw[hq]at h;exact r.get h
theorem ui:IxR X (rD X.K ixD):=(mT.or rG).imp λx y H Q ⟨ρ,S,a,b,d,S',hs,ra,rb,hm,k⟩=>by
 unfold ixD at hm;split at hm
 ·rename_i ds i hq
  split at hm
  ·rename_i d' hd
   cases hm;cases rb;obtain⟨p,xs,rfl,rr,sq⟩:=SJ hs ra hq;obtain⟨v,h1,h2⟩:=nL rr hd
   rcases sq with sq | sq
   ·exact .inl ⟨p,xs,_,v,rfl,rfl,sq,h1,k ρ H v .refl hs h2⟩
   ·exact .inr ⟨p,xs,_,v,rfl,rfl,sq,h1,k ρ H v .refl hs h2⟩
  ·cases hm
 ·cases hm
def Q0(neg:Bool)(x y:D)(S:Sto):Res D:=match y with
 | .non=>match x with
  | .non=>.ok (.bl (!neg)) S
  | _=>.ok (.bl neg) S
 | _=>.bad
theorem Zu:OpR X (Bu .Is) (rD X.K (Q0 false)):=qk.imp λx y H Q ⟨ρ,S,a,b,d,S',hs,ra,rb,hm,k⟩=>by
 cases rb <;> first | (cases hm;done) | skip
 refine⟨rfl,?_⟩
 cases ra <;> (cases hm;exact k ρ H _ .refl hs (.bl _))
theorem mD:OpR X (Bu .IsNot) (rD X.K (Q0 true)):=ll.imp λx y H Q ⟨ρ,S,a,b,d,S',hs,ra,rb,hm,k⟩=>by
 cases rb <;> first | (cases hm;done) | skip
 refine⟨rfl,?_⟩
 cases ra <;> (cases hm;exact k ρ H _ .refl hs (.bl _))
end
def mQ(f:List D->Sto->Res D)(m:ML):ME:=λe S=>(m e S).bind λds S1=>okR (f ds S1)
section
variable{X:Cx}{E:EW}{e:Expr}{es:List Expr}{x:Str}{p pos:Pos}{ml:ML}{id:String}{r:List V->Hp->VK->Prop}{f:List D->Sto->Res D}
def nS(K:AG)(r:List V->Hp->VK->Prop)(f:List D->Sto->Res D):Prop:=∀ρ H S ds q xs d S' (Q:VK),CY K ρ S H->Az K ρ H ds xs->(SqL K H q xs∨SqT K H q xs)->f ds S=.ok d S' ->
 (∀ρ' H' z,Le K ρ H ρ' H'->CY K ρ' S' H'->CH K ρ' H' d z->Q z H')->r [.ref q] H Q
def sY(K:AG)(r:List V->Hp->VK->Prop)(f:List D->Sto->Res D):Prop:=∀ρ H S ds xs d S' (Q:VK),CY K ρ S H->Az K ρ H ds xs->f ds S=.ok d S' ->
 (∀ρ' H' z,Le K ρ H ρ' H'->CY K ρ' S' H'->CH K ρ' H' d z->Q z H')->r xs H Q
theorem XH(hc:Kl X (.builtin id) r)(hf:nS X.K r f)(hg:Gl X x)(hm:X.mg x=none)(hv:Ix x=some (.builtin id))(h:GQ X E e ml)(hn:x≠"__name__":=by decide) (xl:(x==("__debug__" : Str))=false:=by decide)
  (he:Ad [e] X.env=(false,Cj e X.env) :: Ad [] X.env:=by rfl):GE X E (.Call (.Name x p) [e] [] pos) (mQ f ml):=(Nd hc hg hm hv (Ie h Kx he) hn xl he rfl).imp λσ H Q ⟨ρ,l,S,hl,hs,hm⟩=>by
 refine⟨ρ,l,S,hl,hs,hm.seq λds S1 hm ρ1 H1 q xs l1 s1 r1 sq=>?_⟩;obtain⟨d,S',e,k⟩:=hm.okR
 exact hf ρ1 H1 S1 ds q xs d S' Q s1 r1 sq e λρ' H' z l' s' r'=>k ρ' H' z (l1.trans l') s' r'
theorem bi(hc:Kl X (.builtin id) r)(hf:sY X.K r f)(hg:Gl X x)(hm:X.mg x=none)(hv:Ix x=some (.builtin id))(h:GA X E (e :: es) ml)(hn:x≠"__name__":=by decide) (xl:(x==("__debug__" : Str))=false:=by decide)
  (he:Ad (e :: es) X.env=(false,Cj e X.env) :: Ad es X.env:=by rfl) (wD:(EB pos (Ad es X.env)).any (·.1)=false:=by rfl):GE X E (.Call (.Name x p) (e :: es) [] pos) (mQ f ml):=(Nd hc hg hm hv h hn xl he wD).imp λσ H Q ⟨ρ,l,S,hl,hs,hm⟩=>by
 refine⟨ρ,l,S,hl,hs,hm.seq λds S1 hm ρ1 H1 xs l1 s1 r1=>?_⟩;obtain⟨d,S',e,k⟩:=hm.okR
 exact hf ρ1 H1 S1 ds xs d S' Q s1 r1 e λρ' H' z l' s' r'=>k ρ' H' z (l1.trans l') s' r'
def ux(ds:List D)(S:Sto):Res D:=.ok (.int ds.length) S
theorem p9:nS X.K (λxs H Q=>∃p ys,xs=[.ref p]/\(SqL X.K H p ys∨SqT X.K H p ys)/\Q (.int ys.length) H) ux:=λρ H S ds q xs d S' Q hs rr sq hm k=>by
 cases hm;exact⟨q,xs,rfl,sq,k ρ H _ .refl hs (by rw[rr.length];exact .int _)⟩
def Vp:List D->Sto->Res D
 | [.int i,.int j],S=>.ok (.int (if j < i then j else i)) S
 | _,_=>.bad
def Vr:List D->Sto->Res D
 | [.int i,.int j],S=>.ok (.int (if j > i then j else i)) S
 | _,_=>.bad
theorem nP:sY X.K (λxs H Q=>∃i j,xs=[.int i,.int j]/\Q (.int (if j < i then j else i)) H) Vp:=λρ H S ds xs d S' Q hs rr hm k=>by
 unfold Vp at hm;split at hm
 ·cases hm
  cases rr with
  | cons a t=>
   cases t with
   | cons b t=>
    cases t;cases a;cases b;exact⟨_,_,rfl,k ρ H _ .refl hs (.int _)⟩
 ·cases hm
theorem nQ:sY X.K (λxs H Q=>∃i j,xs=[.int i,.int j]/\Q (.int (if j > i then j else i)) H) Vr:=λρ H S ds xs d S' Q hs rr hm k=>by
 unfold Vr at hm;split at hm
 ·cases hm
  cases rr with
  | cons a t=>
   cases t with
   | cons b t=>
    cases t;cases a;cases b;exact⟨_,_,rfl,k ρ H _ .refl hs (.int _)⟩
 ·cases hm
end
def El(X:Cx)(scope:Uq)(N':List Str)(cl:List (Str×AW))(C:AW)(s₁:AQ)(H₁:Hp)(ex:List AW)(pn:List (AW×Obj)):Cx where
 prog:=X.prog
 w:=X.w
 K:=X.K
 mg:=X.mg
 base:=X.base
 A:=X.A
 N:=N'
 s₀:=s₁
 H₀:=H₁
 env:=compEnvC scope cl C X.env
 outer:=X.stack
 stack:=X.stack
 ex:=ex
 fn:=λx=>scope.names.lookup x==some .cell
 calm:=X.calm
 pn:=pn
 xe:=λ_ _=>False
theorem XR:∀(names:List (Str×QS)) (acc:List (Str×AW)),(∀y∈names,y.2=.free->∃c,env.cells.lookup y.1=some c)->(∀n c,acc.lookup n=some c->env.cells.lookup n=some c) ->
  ∃cl,(forIn names acc (λ(x:Str×QS) (cs:List (Str×AW))=>match x with | (name,kind)=>if (kind==Gk)=true then do let a <-cellOf env name;pure (Ii ((name,a) :: cs))else pure (Ii cs)):Sem (List (Str×AW)))=pure cl /\
   (∀n c,cl.lookup n=some c->env.cells.lookup n=some c)/\(∀n c,acc.lookup n=some c->∃c',cl.lookup n=some c')/\∀y∈names,y.2=.free->∃c,cl.lookup y.1=some c
 | [],acc,_,ha=>⟨acc,rfl,ha,λn c h=>⟨c,h⟩,λ_ h=>nomatch h⟩
 | (n,k) :: r,acc,h,ha=>by
  rw[jw]
  by_cases hk:k=.free
  ·subst hk
   obtain⟨c,hc⟩:=h (n,.free) AV rfl
   obtain⟨cl,e,h1,h2,h3⟩:=XR r ((n,c) :: acc) (λy hy=>h y (AS _ hy)) (λm d hm=>by
    rw[Bd]at hm
    cases hq:(m==n)with
    | true=>rw[hq]at hm;cases hm;rw[eq_of_beq hq];exact hc
    | false=>rw[hq]at hm;exact ha m d hm)
   have e0:cellOf env n=pure c:=by unfold cellOf;rw[hc]
   refine⟨cl,?_,h1,λm d hm=>h2 m (if m==n then c else d) ?_,λy hy hf=>?_⟩
   ·simp only[beq_self_eq_true,if_true,e0,pure_bind]
    exact e
   ·rw[Bd]
    cases hq:(m==n)with
    | true=>rfl
    | false=>exact hm
   ·rcases Ae.mp hy with rfl | hy
    ·exact h2 n c (by rw[Bd,beq_self_eq_true])
    ·exact h3 y hy hf
  ·have hb:(k==Gk)=false:=by simpa using hk
   obtain⟨cl,e,h1,h2,h3⟩:=XR r acc (λy hy=>h y (AS _ hy)) ha;refine⟨cl,?_,h1,h2,λy hy hf=>?_⟩
   ·simp only[hb,Bi,if_false,pure_bind]
    exact e
   ·rcases Ae.mp hy with rfl | hy
    ·exact(hk hf).elim
    ·exact h3 y hy hf
theorem b6(h:∀y∈scope.names,y.2=.free->∃c,env.cells.lookup y.1=some c):∃cl,closureFor scope env=pure cl /\
  (∀n c,cl.lookup n=some c->env.cells.lookup n=some c)/\∀y∈scope.names,y.2=.free->∃c,cl.lookup y.1=some c:=by
 obtain⟨cl,e,h1,_,h3⟩:=XR scope.names [] h (λn c z=>by simp at z);refine⟨cl,?_,h1,h3⟩;unfold closureFor;exact(congrArg (λz=>z >>= λcs=>pure cs) e).trans (by rw[pure_bind])
def aV(X:Cx)(ifs:List Expr)(t:TT):Prop:=
 ∀(ζ:List (AW×Obj)) (s:AQ) (σ:St) (H:Hp) (Q:Bool->Hp->Prop),Inv X ζ σ H s->t σ H Q ->
  Ag (Ap X.prog X.w) X.A (forIn ifs true λc r=>if r=true then do let ok <-ZE c X.env (Cj c X.env);pure (Ii ok)else pure (Ii r)) (TP X ζ σ Q) X.xe s
theorem gi:aV X [] (λ_ H Q=>Q true H):=λζ s σ H Q I h=>wpAny_tests_nil ⟨H,I,h⟩
theorem gh(h:PT X c t):aV X [c] t:=λζ s σ H Q I q=>wpAny_tests_one (h ζ s σ H Q I q)
structure PK(X:Cx)(scope:Uq)(own N':List Str):Prop where
 kind:scope.kind=.function
 names:∀y∈scope.names,y.2=.local->scope.names.lookup y.1=some .local
 free:∀y∈scope.names,y.2=.free->X.env.kindOf y.1=some .cell∨X.env.kindOf y.1=some .free
 len:N'.length=own.length+X.N.length
 up:∀i x,N'[own.length+i]?=some x->Vis (LK scope X.env) x->(X.N[i]?=some x/\Vis X.env.scope x/\((LK scope X.env).names.lookup x=some .cell∨(LK scope X.env).names.lookup x=some .free)/\X.env.kindOf x≠some .local)/\(x,DI)∉scope.names/\(x,Gk)∈scope.names
 vis:∀x,((LK scope X.env).names.lookup x=some .cell∨(LK scope X.env).names.lookup x=some .free)->(x,Gk)∈scope.names∨(x,DI)∈scope.names
theorem GY:∀(names:List (Str×QS)) (n:Nat) (acc:List (Str×AW)) (x:Str) (c:AW),(CQ n names acc).lookup x=some c ->
  ((x,DI)∈names/\n<=c)∨acc.lookup x=some c
 | [],_,_,_,_,h=>.inr h
 | (y,k) :: r,n,acc,x,c,h=>by
  unfold CQ at h;split at h
  ·rename_i hk
   have hk:k=.cell:=by simpa using hk
   subst hk
   rcases GY r (n+1) _ x c h with⟨h1,h2⟩ | h1
   ·exact .inl ⟨AS _ h1,Re h2⟩
   ·rw[Bd]at h1
    cases hb:x==y with
    | true=>rw[hb]at h1;cases h1;rw[beq_iff_eq.mp hb];exact .inl ⟨AV,AO _⟩
    | false=>rw[hb]at h1;exact .inr h1
  ·rcases GY r n acc x c h with⟨h1,h2⟩ | h1
   ·exact .inl ⟨AS _ h1,h2⟩
   ·exact .inr h1
theorem Dj:∀(names:List (Str×QS)) (n:Nat) (acc:List (Str×AW)) (x:Str),(∃c,acc.lookup x=some c)->∃c,(CQ n names acc).lookup x=some c
 | [],_,_,_,h=>h
 | (y,k) :: r,n,acc,x,h=>by
  unfold CQ;split
  ·refine Dj r (n+1) _ x ?_
   rw[Bd]
   cases hb:x==y with
   | true=>exact⟨_,rfl⟩
   | false=>exact h
  ·exact Dj r n acc x h
theorem Ed:∀(names:List (Str×QS)) (n:Nat) (acc:List (Str×AW)) (x:Str),(x,DI)∈names->∃c,(CQ n names acc).lookup x=some c/\n<=c
 | (y,k) :: r,n,acc,x,h=>by
  unfold CQ
  by_cases hr:(x,DI)∈r
  ·split
   ·obtain⟨c,h1,h2⟩:=Ed r (n+1) ((y,n) :: acc) x hr
    exact⟨c,h1,Re h2⟩
   ·exact Ed r n acc x hr
  ·rcases Ae.mp h with e | e
   ·cases e
    rw[qX (show(DI==DI)=true from rfl)];obtain⟨c,hc⟩:=Dj r (n+1) ((y,n) :: acc) y ⟨n,by rw[Bd,beq_self_eq_true]⟩
    rcases GY r (n+1) _ y c hc with⟨h1,_⟩ | h1
    ·exact(hr h1).elim
    ·rw[Bd,beq_self_eq_true]at h1
     cases h1;exact⟨n,hc,AO _⟩
   ·exact(hr e).elim
theorem OY(hx:(x,DI)∉names)(h:acc.lookup x=some c):(CQ n names acc).lookup x=some c:=by
 obtain⟨c',h'⟩:=Dj names n acc x ⟨c,h⟩
 rcases GY names n acc x c' h' with⟨h1,_⟩ | h1
 ·exact(hx h1).elim
 ·rw[h]at h1;cases h1;exact h'
theorem LG:∀(names:List (Str×QS)) (n:Nat) (acc:List (Str×AW)),(∀x c,acc.lookup x=some c->c < n)->(∀x y c,acc.lookup x=some c->acc.lookup y=some c->x=y) ->
  ∀x y c,(CQ n names acc).lookup x=some c->(CQ n names acc).lookup y=some c->x=y
 | [],_,_,_,h=>h
 | (z,k) :: r,n,acc,hl,h=>by
  unfold CQ;split
  ·have key:∀x c,((z,n) :: acc).lookup x=some c->(x=z/\c=n)∨acc.lookup x=some c:=λx c q=>by
    rw[Bd]at q
    cases hb:x==z with
    | true=>rw[hb]at q;cases q;exact .inl ⟨beq_iff_eq.mp hb,rfl⟩
    | false=>rw[hb]at q;exact .inr q
   refine LG r (n+1) _ (λx c q=>?_) λx y c q1 q2=>?_
   ·rcases key x c q with⟨_,rfl⟩ | e
    ·exact DH _
    ·exact IF (hl x c e)
   ·rcases key x c q1 with⟨e,e1⟩ | e <;> rcases key y c q2 with⟨e',e1'⟩ | e'
    ·rw[e,e']
    ·subst e1;exact zX (hl _ _ e') (Ci _)
    ·subst e1';exact zX (hl _ _ e) (Ci _)
    ·exact h x y c e e'
  ·exact LG r n acc hl h
theorem LF:∀(names:List (Str×QS)) (h:Cz) (acc:List (Str×AW)) (x:Str) (c:AW),(CQ h.objs.size names acc).lookup x=some c->acc.lookup x=some c∨((FI h names).IsCell c none/\h.objs.size<=c)
 | [],_,_,_,_,q=>.inl q
 | (y,k) :: r,h,acc,x,c,q=>by
  unfold CQ at q;unfold FI;split at q
  ·rename_i hk
   rw[qX hk];have:=LF r (h.push { cls:=.type "cell",data:=.cell none }) ((y,h.objs.size) :: acc) x c (by rw[C0];exact q)
   rcases this with e | ⟨e,l⟩
   ·rw[Bd]at e
    cases hb:x==y with
    | true=>
     rw[hb]at e;cases e;exact .inr ⟨⟨_,Xo _ _ _ _ (Aa _ rfl),rfl⟩,AO _⟩
    | false=>rw[hb]at e;exact .inl e
   ·exact .inr ⟨e,by rw[C0]at l;exact Re l⟩
  ·rename_i hk
   rw[qY hk];exact LF r h acc x c q
theorem ZP
  (h:Q (newEnv scope s.heap.objs.size globals (CQ (s.heap.push { cls:=.type "dict",data:=.dict #[] }).objs.size scope.names cl) qual none .none (some outer) ZH) { s with heap:=FI (s.heap.push { cls:=.type "dict",data:=.dict #[] }) scope.names }) :
  Ag M A (ZD scope globals cl [] qual none .none (some outer)) Q E s:=by
 simp only[ZD,aa,if_true];refine AB (wpAny_alloc ?_);refine AB (wpAny_layCells _ (λname kind cells=>by cases hkc:kind==DI <;> simp[hkc]) _ _ _ _ ?_);rw[VX];exact AB (AL (AL h))
section
theorem aI(Sc:PK X scope own N')(I:Inv X ζ σ H2 s2)(hf:∀b∈fp,PJ X ζ H2 b)(zt:∀b∈fp,b < s2.heap.objs.size)
  (c1:∀n c,cl.lookup n=some c->X.env.cells.lookup n=some c) (c2:∀y∈scope.names,y.2=.free->∃c,cl.lookup y.1=some c)
  (xg:s2.heap.objs.size<=n) (Ι:∀x c,(CQ n scope.names cl).lookup x=some c->cl.lookup x=some c∨(s.heap.IsCell c none/\n<=c)) (hHn:∀c,n<=c->H c=none)
  (hC:s2.heap.objs.size<=C) (hn:s.heap.Ns C m) (yC:s.os=s2.os) (hg:LQ s.gens)
  (u:Un (frs X.stack) fp H2 H s2.heap s.heap) (hok:HOk X.prog X.w H s.heap) (yV:H C=none) :
  Inv (El X scope N' (CQ n scope.names cl) C s2 H2 fp (X.pn++ζ)) [] (Bt own.length none++σ) H s:=by
 have cellK:∀x c v,cl.lookup x=some c->s2.heap.IsCell c v->s.heap.IsCell c v:=λx c v e ⟨o,ho,hd⟩=>by
  obtain⟨sl,q⟩:=u.any ho (I.freeC x c (c1 x c e)) λz=>(hf c z).2.2.2.2.1 x c (c1 x c e) rfl
  exact⟨_,q,hd⟩
 have clt:∀x c,cl.lookup x=some c->c < n:=λx c e=>by
  obtain⟨v,z⟩:=I.cell x c (c1 x c e);exact AT z.lt xg
 have ok':(El X scope N' (CQ n scope.names cl) C s2 H2 fp (X.pn++ζ)).Ok:=by
  refine⟨I.ok.mod,Sc.kind,I.ok.glob,I.ok.blt,hC,LG _ _ _ clt λx y c h1 h2=>I.ok.inj x y c (c1 x c h1) (c1 y c h2),λx hx=>?_,λx c z q=>?_,I.ok.hd,I.ok.frames,.inl rfl,λb hb=>?_,I.bs,At I.ok.bsz I.sz,λb o e hb=>?_,λb hb wc=>?_,I.stack,I.stkFree⟩
  ·rcases Sc.vis x hx with h | h
   ·exact Dj _ _ _ _ (c2 _ h rfl)
   ·obtain⟨c,hc,_⟩:=Ed scope.names n cl x h
    exact⟨c,hc⟩
  ·have z:(scope.names.lookup x==some .cell)=true:=z
   obtain⟨c',wM,hl⟩:=Ed scope.names n cl x (D5 (beq_iff_eq.mp z));have q:(CQ n scope.names cl).lookup x=some c:=q;rw[wM]at q;cases q;exact At xg hl
  ·refine⟨BE (AT (zt b hb) hC),λx c e=>?_⟩
   rcases Ι x c e with e | ⟨_,e⟩
   ·exact(hf b hb).2.2.2.2.1 x c (c1 x c e)
   ·exact Er (AT (zt b hb) (At xg e))
  ·obtain⟨_,_,_,z,_⟩:=hf b hb
   rcases z with z | z
   ·exact I.ok.noex b o e z
   ·exact zX (AT (Ac (I.ok.bs b o e).1) z) (Ci _)
  ·obtain⟨_,z1,z2,_⟩:=hf b hb
   rcases Ae.mp (I.stkSub b wc)with e | e
   ·exact z1 e
   ·exact z2 e
 refine⟨ok',yC,hg,u,⟨m,hn,λi x v e1 e2 e3=>?_⟩,λx c e=>?_,yV,λx c e=>?_,λp hp=>?_,hok,?_⟩
 ·have hi:own.length<=i:=by
   apply Sk
   intro wo;rw[A9 (by simpa using wo),Dy,qX wo]at e2;cases e2
  obtain⟨j,rfl⟩:∃j,i=own.length+j:=⟨i - own.length,by lia⟩
  rw[Be (by simp)]at e2
  have e2':σ[j]?=some (some v):=by simpa using e2
  obtain⟨⟨n1,n2,n3,n4⟩,n5,n6⟩:=Sc.up j x e1 e3;obtain⟨m0,Κ,hl⟩:=I.loc;obtain⟨w',r,lk⟩:=hl j x v n1 e2' n2;refine⟨w',r,.inr ⟨n3,?_⟩⟩
  rcases lk with⟨k,_⟩ | ⟨_,c,hc,wF⟩
  ·exact(n4 k).elim
  ·obtain⟨c',wM⟩:=c2 _ n6 rfl
   have e:=c1 x c' wM;rw[hc]at e;cases e;exact⟨c,OY n5 wM,cellK x c _ wM wF⟩
 ·rcases Ι x c e with e | ⟨e,_⟩
  ·obtain⟨v,z⟩:=I.cell x c (c1 x c e)
   exact⟨v,cellK x c v e z⟩
  ·exact⟨none,e⟩
 ·rcases Ι x c e with e | ⟨_,e⟩
  ·obtain⟨v,o,ho,hd⟩:=I.cell x c (c1 x c e)
   exact u.free c o ho (I.freeC x c (c1 x c e)) λz=>(hf c z).2.2.2.2.1 x c (c1 x c e) rfl
  ·exact hHn c e
 ·have hp':p∈X.pn++ζ:=by
   have hp:p∈(X.pn++ζ)++[]:=hp;rwa [Bq]at hp
  obtain⟨e,n,ne,nf,d⟩:=I.pin p hp'
  have nfs:p.1∉frs X.stack:=λz=>(Ae.mp (I.stkSub _ z)).elim ne nf
  have nfp:p.1∉fp:=λz=>(hf _ z).2.2.2.2.2 p hp' rfl
  exact⟨u.keep p.1 p.2 e n nfs nfp,u.free p.1 p.2 e n nfp,BE (AT (Ac e) hC),nfs,d⟩
 ·show(Bt own.length none++σ).length=N'.length
  rw[AY,OG,I.len,Sc.len]
def fo(k:Nat)(wi:TI)(g:TG)(tc:TT)(te:TE):TE:=λσ H Q=>wi σ H λJ H1=>∀p,H1 p=none->∃W:Nat->Nat->St->Hp->List V->Prop,(∃m,W 0 m (Bt k none++σ) (upd H1 p (.lst [])) []) /\
 ∀i m σ' H' xs,W i m σ' H' xs->H' p=some (.lst xs)/\((J.stop i H'/\Q (.ref p) H')∨(J.go i H'/\xs.length < sizeLine/\∀x yb,J.yld i H' x yb->g x σ' yb λσ2 H2=>tc σ2 H2 λb H3=>
  if b=true then te σ2 H3 λy H4=>H4 p=some (.lst xs)/\∃m',m' < m/\W (i+1) m' σ2 (upd H4 p (.lst (xs++[y]))) (xs++[y])else ∃m',m' < m/\W (i+1) m' σ2 H3 xs))
theorem dv{X':Cx}{elt ϖ iter:Expr}{ifs:List Expr}{pos:Pos}{J:It}{it p:AW}{tn:Nat->Cz->Prop}{g:TG}{tc:TT}{te:TE}{R:Result->AQ->Prop}{Q:Hp->Prop}
  (hc:X'.calm=true) (hx:X'.xe=λ_ _=>False) (T:VR X'.prog X'.w X'.K ϖ J fp it tn) (hg:PG X' ϖ g) (yc:aV X' ifs tc) (he:PE X' elt te)
  (W:Nat->Nat->St->Hp->List V->Prop) (turn:∀i m σ' H' xs,W i m σ' H' xs->H' p=some (.lst xs)/\((J.stop i H'/\Q H')∨(J.go i H'/\xs.length < sizeLine/\∀x yb,J.yld i H' x yb->g x σ' yb λσ2 H2=>tc σ2 H2 λb H3=>
   if b=true then te σ2 H3 λy H4=>H4 p=some (.lst xs)/\∃m',m' < m/\W (i+1) m' σ2 (upd H4 p (.lst (xs++[y]))) (xs++[y])else ∃m',m' < m/\W (i+1) m' σ2 H3 xs)))
  (fin:∀σ' H' s',Inv X' [] σ' H' s'->Q H'->R (.ok .next) s')
  {m0:Nat} {σ0:St} {H0:Hp} {s0:AQ} (I0:Inv X' [] σ0 H0 s0) (st0:tn 0 s0.heap) (f0:∀b∈fp,PJ X' [] H0 b) (w0:W 0 m0 σ0 H0 []) :
  NE (Ap X'.prog X'.w) X'.A (.compLoop (.ListComp elt [⟨ϖ,iter,ifs,0⟩] scope pos) 0 (.ref it) (.ref p) X'.env) R s0:=by
 have xA:∀{H':Hp},(∀b∈fp,H' b=none)->∀b∈fp,PJ X' [] H' b:=λhn b hb=>⟨hn b hb,(f0 b hb).2⟩
 refine codeAny_loop rfl (λn s'=>∃i σ' H' xs,Inv X' [] σ' H' s'/\tn i s'.heap/\(∀b∈fp,H' b=none)/\W i n σ' H' xs) (λn s1 hI=>?_) m0 ⟨0,σ0,H0,[],I0,st0,λb hb=>(f0 b hb).1,w0⟩;obtain⟨i,σ1,H1,xs,I1,wB,fr1,w1⟩:=hI;show Ag _ X'.A ((compTurn (.ListComp elt [⟨ϖ,iter,ifs,0⟩] scope pos) 0 (.ref it) (.ref p) X'.env).onRaise (λx=>do noteFrame x X'.env;theTreesLotGoes x)) _ _ s1;refine wpAny_noted ?_;rw[compTurn_list]
 have up:∀{α:Type} {t:Sem α} {P:α->AQ->Prop} {E:AI->AQ->Prop} {s:AQ},Ag (Ap X'.prog X'.w) X'.A t P X'.xe s->Ag (Ap X'.prog X'.w) X'.A t P E s:=λh=>Ei h (λ_ _ z=>z) λ_ _ z=>by rw[hx]at z;exact z.elim
 obtain⟨hp,Λ⟩:=turn i n σ1 H1 xs w1;refine AB (cD (AB ?_))
 rcases Λ with⟨stop,q⟩ | ⟨go,hz,step⟩
 ·refine up (thn (T.done X' rfl rfl rfl hc i [] s1 σ1 H1 X'.xe I1 (xA fr1) wB stop) λr s4 ⟨hr,I4⟩=>?_)
  subst hr;exact AL (fin σ1 H1 s4 I4 q)
 ·refine up (thn (T.item X' rfl rfl rfl hc i [] s1 σ1 H1 X'.xe I1 (xA fr1) wB go) λr s4 ⟨u,hr,h4⟩=>?_)
  subst hr;refine AB (up (thn h4 λ_ s5 ⟨x,H5,I5,r5,y5,st5,fr5⟩=>?_));have I5':=I5.pinned (xA fr5) (T.obj _ _ st5);refine AB (up (thn (hg _ s5 σ1 H5 x u _ I5' r5 (step x H5 y5)) λ_ s6 ⟨σ6,H6,I6,q6⟩=>?_))
  have sj:∀{s7:AQ} {σ7:St} {H7:Hp} {ys:List V},Inv X' ([]++To fp s5.heap) σ7 H7 s7->(∃m',m' < n/\W (i+1) m' σ7 H7 ys)->∃m,m < n/\∃i σ' H' xs,Inv X' [] σ' H' s7/\tn i s7.heap/\(∀b∈fp,H' b=none)/\W i m σ' H' xs:=λ{s7 σ7 H7 ys} I7 ⟨m',hm,w7⟩=>by
   refine⟨m',hm,i+1,σ7,H7,ys,I7.unpinned,T.keep _ _ _ st5 λb hb o e=>(I7.pin (b,o) (BV _ (BV _ (MY hb e)))).1,λb hb=>?_,w7⟩;obtain⟨o,e,d⟩:=T.obj _ _ st5 b hb;exact(I7.pin (b,o) (BV _ (BV _ (MY hb e)))).2.1
  refine AB (up (thn (yc _ s6 σ6 H6 _ I6 q6) λok s7 ⟨H7,I7,q7⟩=>?_))
  cases ok with
  | false=>
   rw[qY AK]at q7;exact AL ⟨rfl,sj I7 q7⟩
  | true=>
   rw[qX rfl]at q7;refine AB (AB (up (thn (he _ s7 σ6 H7 _ I7 q7) λyv s8 ⟨y,H8,I8,r8,hp8,q8⟩=>?_)));refine AB (up (thn (Vo (X:=X') _ s8 σ6 H8 (.ref p) [y] (.ref p) [yv] (λv H9=>v=.non/\H9=upd H8 p (.lst (xs++[y]))) I8 rfl (.cons r8 .nil) ⟨p,xs,y,rfl,rfl,hp8,hz,rfl,rfl⟩) λv9 s9 ⟨v,H9,I9,r9,e9,e10⟩=>?_));subst e10;exact AL (AL ⟨rfl,sj I9 q8⟩)
end
section
theorem V2(I2:Inv X ζ σ H2 s2)(J:Inv (El X scope N' cl C s2 H2 fp (X.pn++ζ)) [] σ' H' s')(hC:s2.heap.objs.size<=C)(hf:∀b∈fp,PJ X ζ H2 b)
  (sb:FE C s'.heap h'):Inv X ζ σ H' { s' with heap:=h' }:=by
 have ne:∀b o,s2.heap.get? b=some o->b≠C:=λb o e=>BE (AT (Ac e) hC)
 have jb:Un (frs X.stack) fp H2 H' s2.heap s'.heap:=J.base
 have u:Un (frs X.stack) fp H2 H' s2.heap h':=by
  refine⟨λb o e n hb hx=>(sb.2 b (ne b o e)).trans (jb.keep b o e n hb hx),λb o e n hb hx=>?_,jb.free,λb o e hx=>?_,jb.tups,jb.frzs,jb.tbls⟩
  ·obtain⟨sl,q⟩:=jb.slot b o e n hb hx
   exact⟨sl,(sb.2 b (ne b o e)).trans q⟩
  ·obtain⟨o',q⟩:=jb.there b o e hx
   exact⟨o',(sb.2 b (ne b o e)).trans q⟩
 have yV:H' C=none:=J.free
 have hok:HOk X.prog X.w H' h':=λa o e=>(J.hok a o e).stay (λb u hb q=>(sb.2 b λz=>by
  subst z
  rcases hb with z | z
  ·subst z;rw[yV]at e;cases e
  ·rw[yV]at z;cases z).trans q) (λ_ q=>q) λ_ _ q=>q
 exact I2.call' (s':={ s' with heap:=h' }) (ch:=fp) J.os u hok J.bare λb hb=>by
  obtain⟨_,z1,z2,z3,z4,z5⟩:=hf b hb;exact⟨z3,z1,z4,z5⟩
theorem UY{σ:St}{E:AI->AQ->Prop}{Qf:AW->Hp->Prop}{RR:AI->AW->Result->AQ->Prop}{it:AW}{J:It}{tn:Nat->Cz->Prop}(hc:X.calm=true)(Sc:PK X scope own N')
  (hg:∀cl C s₁ H₁ ex pn,PG (El X scope N' cl C s₁ H₁ ex pn) ϖ g) (yc:∀cl C s₁ H₁ ex pn,aV (El X scope N' cl C s₁ H₁ ex pn) ifs tc) (he:∀cl C s₁ H₁ ex pn,PE (El X scope N' cl C s₁ H₁ ex pn) elt te)
  (c1:∀n c,cl.lookup n=some c->X.env.cells.lookup n=some c) (c2:∀y∈scope.names,y.2=.free->∃c,cl.lookup y.1=some c)
  (I2:Inv X ζ σ H2 s2) (T:VR X.prog X.w X.K ϖ J fp it tn) (wa:tn 0 s2.heap) (f2:∀b∈fp,PJ X ζ H2 b)
  (q2:∀p,H2 p=none->∃W:Nat->Nat->St->Hp->List V->Prop,(∃m,W 0 m (Bt own.length none++σ) (upd H2 p (.lst [])) []) /\
   ∀i m σ' H' xs,W i m σ' H' xs->H' p=some (.lst xs)/\((J.stop i H'/\Qf p H')∨(J.go i H'/\xs.length < sizeLine/\∀x yb,J.yld i H' x yb->g x σ' yb λσ2 H2=>tc σ2 H2 λb H3=>
    if b=true then te σ2 H3 λy H4=>H4 p=some (.lst xs)/\∃m',m' < m/\W (i+1) m' σ2 (upd H4 p (.lst (xs++[y]))) (xs++[y])else ∃m',m' < m/\W (i+1) m' σ2 H3 xs)))
  (hRR:∀D C cl σ' H' s',s2.heap.objs.size<=C->Inv (El X scope N' cl C s2 H2 fp (X.pn++ζ)) [] σ' H' s'->Qf D H'->RR (.ref D) C (.ok .next) s') :
  Ag (Ap X.prog X.w) X.A (newList []) (λacc s₃=>Ag (Ap X.prog X.w) X.A (ZD scope X.env.globals cl [] X.env.qual none .none (some X.env)) (λΜ s₄=>
   NE (Ap X.prog X.w) X.A (.compStart (.ListComp elt [⟨ϖ,iter,ifs,0⟩] scope pos) 0 (.ref it) acc { Μ with scope:=LK scope X.env }) (RR acc Μ.locals) s₄) E s₃) E s2:=by
 have zt:∀b∈fp,b < s2.heap.objs.size:=λb hb=>by
  obtain⟨o,e,_⟩:=T.obj _ _ wa b hb;exact Ac e
 refine Cf (ZP ?_);dsimp only;generalize hH3:s2.heap.push { cls:=.type "list",dict:=none,data:=.seq ([]:List AI).toArray }=H3;generalize hH4:H3.push { cls:=.type "dict",data:=.dict #[] }=H4
 have hC:H3.objs.size=s2.heap.objs.size+1:=by rw[<-hH3,C0]
 have hC4:H4.objs.size=H3.objs.size+1:=by rw[<-hH4,C0]
 have hDC:s2.heap.objs.size≠H3.objs.size:=by rw[hC];exact BE (DH _)
 have yE:s2.heap.objs.size<=H3.objs.size:=by rw[hC];exact JN _
 have Ν:s2.heap.objs.size<=H4.objs.size:=by rw[hC4];exact Nat.le_succ_of_le yE
 have Ξ:∀b o,H3.get? b=some o->(FI H4 scope.names).get? b=some o:=λb o e=>Xo _ _ _ _ (hH4▸AJ _ e)
 have old:∀b o,s2.heap.get? b=some o->(FI H4 scope.names).get? b=some o:=λb o e=>Ξ b o (hH3▸AJ _ e)
 have hacc:(FI H4 scope.names).get? s2.heap.objs.size=some { cls:=.type "list",dict:=none,data:=.seq ([]:List AI).toArray }:=Ξ _ _ (hH3▸Aa _ rfl)
 have hns₁:(FI H4 scope.names).Ns H3.objs.size λ_=>none:=by
  have:=(Cz.Ns.new H3 (.type "dict")).keeps (Xo scope.names (H3.push { cls:=.type "dict",data:=.dict #[] }));rw[hH4]at this;exact this
 have hD:H2 s2.heap.objs.size=none:=I2.hok.fresh (AO _);have u:Un (frs X.stack) fp H2 (upd H2 s2.heap.objs.size (.lst [])) s2.heap (FI H4 scope.names):=Un.laid old (AO _) hD;have hok:HOk X.prog X.w (upd H2 s2.heap.objs.size (.lst [])) (FI H4 scope.names):=I2.hok.laid old (AO _) ⟨ED _,[],0,.nil,hacc⟩
 have hHn:∀c,s2.heap.objs.size < c->upd H2 s2.heap.objs.size (.lst []) c=none:=λc h=>by rw[Bj (Er h)];exact I2.hok.fresh (NM h)
 have yV:upd H2 s2.heap.objs.size (.lst []) H3.objs.size=none:=hHn _ (by rw[hC];exact DH _)
 have yW:∀x c,(CQ H4.objs.size scope.names cl).lookup x=some c->cl.lookup x=some c∨((FI H4 scope.names).IsCell c none/\H4.objs.size<=c):=λx c e=>LF scope.names H4 cl x c e
 obtain⟨W,⟨m0,w0⟩,turn⟩:=q2 s2.heap.objs.size hD
 have loop:∀s₃:AQ,s₃={ s2 with heap:=FI H4 scope.names } ->
   NE (Ap X.prog X.w) X.A (.compLoop (.ListComp elt [⟨ϖ,iter,ifs,0⟩] scope pos) 0 (.ref it) (.ref s2.heap.objs.size) (compEnvC scope (CQ H4.objs.size scope.names cl) H3.objs.size X.env))
    (RR (.ref s2.heap.objs.size) H3.objs.size) s₃:=by
  rintro s₃ rfl
  have J0:Inv (El X scope N' (CQ H4.objs.size scope.names cl) H3.objs.size s2 H2 fp (X.pn++ζ)) [] (Bt own.length none++σ) (upd H2 s2.heap.objs.size (.lst [])) { s2 with heap:=FI H4 scope.names }:=
   aI (s:={ s2 with heap:=FI H4 scope.names }) Sc I2 f2 zt c1 c2 Ν yW (λc h=>hHn c (by lia)) yE hns₁ rfl I2.bare u hok yV
  refine dv (X':=El X scope N' (CQ H4.objs.size scope.names cl) H3.objs.size s2 H2 fp (X.pn++ζ)) (fp:=fp) (Q:=Qf s2.heap.objs.size) hc rfl T (hg _ _ _ _ _ _) (yc _ _ _ _ _ _) (he _ _ _ _ _ _) W turn (λσ' H' s' J q=>hRR _ _ _ σ' H' s' yE J q) J0 (T.keep _ _ _ wa λb _ o e=>old b o e) (λb hb=>?_) w0;obtain⟨z0,z1,z2,z3,z4,z5⟩:=f2 b hb;refine⟨by rw[Bj (BE (zt b hb))];exact z0,BE (AT (zt b hb) yE),λz=>?_,.inl hb,λx c e=>?_,λp hp=>?_⟩
  ·exact(Ae.mp (I2.stkSub _ z)).elim z1 z2
  ·rcases yW x c e with e | ⟨_,e⟩
   ·exact z4 x c (c1 x c e)
   ·exact Er (AT (zt b hb) (At Ν e))
  ·have hp:p∈(X.pn++ζ)++[]:=hp
   rw[Bq]at hp;exact z5 p hp
 exact codeAny_compStart_list (loop _ rfl) (T.self X.A 0 _ _ _ (T.keep _ _ _ wa λb _ o e=>old b o e) (loop _ rfl))
theorem lZ(hc:X.calm=true)(Sc:PK X scope own N')(hi:PI X ϖ iter wi)
  (hg:∀cl C s₁ H₁ ex pn,PG (El X scope N' cl C s₁ H₁ ex pn) ϖ g) (yc:∀cl C s₁ H₁ ex pn,aV (El X scope N' cl C s₁ H₁ ex pn) ifs tc) (he:∀cl C s₁ H₁ ex pn,PE (El X scope N' cl C s₁ H₁ ex pn) elt te)
  (hs:∀x,Gi iter X.env x=pure x:=by intro _;rfl):PE X (.ListComp elt [⟨ϖ,iter,ifs,0⟩] scope pos) (fo own.length wi g tc te):=by
 intro ζ s σ H Q I h;rw[eval_ListComp];obtain⟨cl,yd,c1,c2⟩:=b6 (scope:=scope) (env:=X.env) (λy hy hf=>I.ok.has y.1 (Sc.free y hy hf));refine cE (use:=none) rfl hs yd Sc.kind Sc.names (thn (hi ζ s σ H _ I h) λv s1 h1=>thn h1 λitv s2 h2=>?_);obtain⟨it,fp,tn,J,H2,rfl,I2,T,wa,f2,q2⟩:=h2
 refine UY (Qf:=λp H'=>Q (.ref p) H') (RR:=λacc C=>compPost (Ap X.prog X.w) X.A X.xe none (EP X ζ σ Q) acc C) hc Sc hg yc he c1 c2 I2 T wa f2 q2 λD C cl' σ' H' s' hC J q=>?_
 obtain⟨m,hn,_⟩:=J.loc;exact⟨m,hn,λh' sb=>⟨.ref D,H',V2 I2 J hC f2 sb,rfl,q⟩⟩
theorem lK{i:Nat}{y:Str}{py yF:Pos}(hc:X.calm=true)(hsw:HE (.ListComp elt [⟨ϖ,iter,ifs,0⟩] scope pos) (some (.Name y py)) yF.line X.env=pure true)
  (hN:X.N.Nodup) (hy:X.N[i]?=some y) (zu:Loc X.env.scope y) (Sc:PK X scope own N') (hi:PI X ϖ iter wi)
  (hg:∀cl C s₁ H₁ ex pn,PG (El X scope N' cl C s₁ H₁ ex pn) ϖ g) (yc:∀cl C s₁ H₁ ex pn,aV (El X scope N' cl C s₁ H₁ ex pn) ifs tc) (he:∀cl C s₁ H₁ ex pn,PE (El X scope N' cl C s₁ H₁ ex pn) elt te)
  (hs:∀x,Gi iter X.env x=pure x:=by intro _;rfl) (hf:X.fn y=true∨X.env.scope.names.lookup y=some .local:=by first | exact .inl rfl | exact .inr rfl | assumption) :
  PS X (.Assign [.Name y py] (.ListComp elt [⟨ϖ,iter,ifs,0⟩] scope pos) yF) (pr (fo own.length wi g tc te) (bj i)):=by
 intro ζ s σ H D I h;rw[exec_Assign_Name_used _ _ _ _ hsw];refine AB (cD (AB ?_));show Ag _ X.A (do let _ <-comprehension (.ListComp elt [⟨ϖ,iter,ifs,0⟩] scope pos) scope X.env _ (newList []) false (Cj iter X.env) (some (Sd (.Name y py) X.env))) _ _ s;obtain⟨cl,yd,c1,c2⟩:=b6 (scope:=scope) (env:=X.env) (λy hy hf=>I.ok.has y.1 (Sc.free y hy hf))
 refine AB (Ei (cE (use:=some (Sd (.Name y py) X.env)) (Q:=λ_ s'=>SP X ζ D .next s') rfl hs yd Sc.kind Sc.names
  (thn (hi ζ s σ H _ I h) λv s1 h1=>thn h1 λitv s2 h2=>?_)) (λ_ s' hq=>AL (AL hq)) λ_ _ e=>e)
 obtain⟨it,fp,tn,J,H2,rfl,I2,T,wa,f2,q2⟩:=h2
 refine UY (Qf:=λp H'=>D.nx (σ.set i (some (.ref p))) H') (RR:=λacc C=>compPost (Ap X.prog X.w) X.A X.xe (some (Sd (.Name y py) X.env)) (λ_ s'=>SP X ζ D .next s') acc C) hc Sc hg yc he c1 c2 I2 T wa f2 q2 λA C cl' σ' H' s' hC J q=>?_
 obtain⟨m,hn,_⟩:=J.loc;have I3:Inv X ζ σ H' s':=V2 I2 J hC f2 (v0 ..);have yV:H' C=none:=J.free
 have wF:∀x c,X.env.cells.lookup x=some c->c≠C:=λx c e z=>by
  obtain⟨v,q⟩:=I2.cell x c e;exact zX (AT q.lt (by rw[z];exact hC)) (Ci _)
 have yX:C≠X.env.locals:=Er (AT I2.lt hC);show Ag _ X.A (Sd (.Name y py) X.env (.ref A)) _ _ s';refine sd (Vd (v:=.ref A) I3 hN hy zu rfl (λs4 I4 ⟨a,sb,ha⟩=>?_) hf)
 have haC:C≠a:=by
  rcases ha with e | e
  ·rw[e];exact yX
  ·exact Br (wF _ _ e)
 refine⟨m,hn.sameBut sb haC,λh' sb'=>⟨_,H',?_,q⟩⟩
 refine I4.turned (t':=s4.toks) (it:=C) (λb o hb e=>(sb'.2 b hb).trans e) yV yX (.inr (At I2.sz hC)) wF λp hp z=>?_
 exact zX (AT (Ac (I2.pin p hp).1) (by rw[z];exact hC)) (Ci _)
end
def HC(v:SA)(g:MG)(c:MT)(m:ME):Nat->Nat->Lo->Sto->List D->Res (List D)
 | k,i,e,S,acc=>match v S with
  | none=>.bad
  | some ds=>match ds[i]? with
   | none=>.ok acc S
   | some d=>match k with
    | 0=>.bad
    | k+1=>if acc.length < sizeLine then(okR (g d e S)).bind λe1 S1=>(okR (c e1 S1)).bind λb S2=>if b=true then(okR (m e1 S2)).bind λy S3=>HC v g c m k (i+1) e1 S3 (acc++[y])else HC v g c m k (i+1) e1 S2 acc else .bad
def Eo(n:Nat)(mi:MI)(g:MG)(c:MT)(m:ME):ML:=λe S=>(mi e S).bind λv S1=>HC v g c m (EF v S1) 0 (Bt n none++e) S1 []
def HD:MT:=λ_ S=>.ok true S
section
abbrev nV(X:Cx)(E:EW)(ifs:List Expr)(c:MT):Prop:=aV X ifs (gT X.K E c)
theorem Ee:nV X E [] HD:=λζ s σ H Q I ⟨ρ,l,S,hl,hs,hm⟩=>by
 exact gi ζ s σ H Q I (hm ρ H .refl hs)
theorem Nt(h:GT X E e c):nV X E [e] c:=gh h
theorem G0.grow{K}{ρ}{H}{e}{σ}(n:Nat)(h:G0 K ρ H e σ):G0 K ρ H (Bt n none++e) (Bt n none++σ):=by
 refine⟨by simp[h.len],λi d q=>?_⟩
 by_cases hi:i < n
 ·rw[A9 (by simpa using hi),Dy,qX hi]at q
  cases q
 ·rw[Be (by simpa using hi)]at q ⊢
  simp only[OG]at q ⊢;exact h.at' _ d q
theorem Cb.ok_of{α:Type}{K:AG}{E:EH}{ρ:List AW}{H:Hp}{r:Res α}{k:α->Sto->Prop}{a:α}{S:Sto}(e:r=.ok a S)(h:k a S):Cb K E ρ H r k:=by
 subst e;exact h
theorem Ts{α β:Type}{r:Res α}{F:α->Sto->Res β}{b:β}{S:Sto}(h:(okR r).bind F=.ok b S):∃a S1,r=.ok a S1/\F a S1=.ok b S:=by
 cases r with
 | ok a S1=>exact⟨a,S1,rfl,h⟩
 | err c S1=>cases h
 | bad=>cases h
theorem Ys:∀(k i:Nat) (e:Lo) (S:Sto) (acc:List D),HC v g c m k i e S acc≠.err er S':=by
 intro k
 induction k with
 | zero=>
  intro i e S acc h;unfold HC at h;split at h
  ·cases h
  ·split at h <;> cases h
 | succ k ih=>
  intro i e S acc h;unfold HC at h;split at h
  ·cases h
  ·split at h
   ·cases h
   ·dsimp only at h
    split at h
    ·cases h1:g _ e S with
     | ok e1 S1=>
      rw[h1]at h;dsimp only[okR,Res.bind]at h
      cases h2:c e1 S1 with
      | ok b S2=>
       rw[h2]at h;dsimp only[okR,Res.bind]at h
       cases b with
       | true=>
        rw[qX rfl]at h
        cases h3:m e1 S2 with
        | ok y S3=>rw[h3]at h;exact ih _ _ _ _ h
        | err _ _=>rw[h3]at h;cases h
        | bad=>rw[h3]at h;cases h
       | false=>
        rw[qY AK]at h;exact ih _ _ _ _ h
      | err _ _=>rw[h2]at h;cases h
      | bad=>rw[h2]at h;cases h
     | err _ _=>rw[h1]at h;cases h
     | bad=>rw[h1]at h;cases h
    ·cases h
theorem X7{K:AG}{n:Nat}{σ:St}{H:Hp}{Q:VK}(h:gL K E (Eo n mi g c m) σ H Q):fo n (gI K E mi) (gG K g) (gT K noE c) (gE K noE m) σ H Q:=by
 obtain⟨ρ,l,S,hl,hs,hm⟩:=h;refine⟨ρ,l,S,hl,hs,hm.seq λv S1 hm ρ1 H1 J l1 s1 vo p hp=>?_⟩
 obtain⟨ds,S',hm,k⟩:∃ds S',HC v g c m (EF v S1) 0 (Bt n none++l) S1 []=.ok ds S'/\∀ρ' H' p xs,Le K ρ H ρ' H'->CY K ρ' S' H'->Az K ρ' H' ds xs->H' p=some (.lst xs)->(∀n:Nat,ρ'[n]?≠some p)->H p=none->Q (.ref p) H':=by
  cases hc:HC v g c m (EF v S1) 0 (Bt n none++l) S1 []with
  | ok ds S'=>rw[hc]at hm;exact⟨ds,S',rfl,hm⟩
  | err c S'=>exact(Ys _ _ _ _ _ hc).elim
  | bad=>rw[hc]at hm;exact hm.elim
 obtain⟨s1',Ο⟩:=IY (ho:=.lst []) s1 hp;have Θ:H p=none:=l1.back hs s1 hp
 refine⟨λi j σ2 H2 xs=>∃ρ2 e2 S2 acc,Le K ρ1 H1 ρ2 H2/\G0 K ρ2 H2 e2 σ2/\CY K ρ2 S2 H2/\Az K ρ2 H2 acc xs/\H2 p=some (.lst xs)/\(∀q:Nat,ρ2[q]?≠some p)/\HC v g c m j i e2 S2 acc=.ok ds S',
  ⟨EF v S1,ρ1,_,S1,[],Ο,(hl.mono (l1.trans Ο)).grow n,s1',.nil,B2,λq e=>s1.notIn hp e,hm⟩,?_⟩
 rintro i j σ2 H2 xs ⟨ρ2,e2,S2,acc,l2,r2,s2,ra,xQ,xu,w8⟩;refine⟨xQ,?_⟩;unfold HC at w8
 cases hv:v S2 with
 | none=>rw[hv]at w8;cases w8
 | some vs=>
  rw[hv]at w8;dsimp only at w8;obtain⟨v1,v2⟩:=vo ρ2 H2 S2 vs i l2 s2 hv
  cases hd:vs[i]? with
  | none=>
   rw[hd]at w8;cases w8;exact .inl ⟨v1 hd,k ρ2 H2 p xs (l1.trans l2) s2 ra xQ xu Θ⟩
  | some d=>
   rw[hd]at w8;dsimp only at w8;obtain⟨go,yl⟩:=v2 d hd
   cases j with
   | zero=>cases w8
   | succ j=>
    dsimp only at w8;split at w8
    ·rename_i hz
     obtain⟨e3,S3,h3,w8⟩:=Ts w8;obtain⟨b,S4,h4,w8⟩:=Ts w8;refine .inr ⟨go,by rw[<-ra.length];exact hz,λx H' y=>?_⟩;obtain⟨ρ3,l3,s3,rd⟩:=yl x H' y;obtain⟨hp3,hn3⟩:=l3.oth p _ xQ xu;refine⟨ρ3,e2,S2,d,rd,r2.mono l3,s3,Cb.ok_of h3 λρ4 H4 σ4 l4 s4 r4=>?_⟩;obtain⟨hp4,hn4⟩:=l4.oth p _ hp3 hn3;refine⟨ρ4,e3,S3,r4,s4,Cb.ok_of h4 λρ5 H5 l5 s5=>?_⟩;obtain⟨hp5,hn5⟩:=l5.oth p _ hp4 hn4
     cases b with
     | false=>
      rw[qY AK]at w8 ⊢;exact⟨j,DH j,ρ5,e3,S4,acc,l2.trans (l3.trans (l4.trans l5)),r4.mono l5,s5,ra.mono (l3.trans (l4.trans l5)),hp5,hn5,w8⟩
     | true=>
      rw[qX rfl]at w8 ⊢;obtain⟨yv,S5,h5,w8⟩:=Ts w8;refine⟨ρ5,e3,S4,r4.mono l5,s5,Cb.ok_of h5 λρ6 H6 y6 l6 s6 r6=>?_⟩;obtain⟨hp6,hn6⟩:=l6.oth p _ hp5 hn5
      have l7:∀xI,Le K ρ6 H6 ρ6 (upd H6 p (.lst xI))->True:=λ_ _=>trivial
      have up7:∀xI:List V,CY K ρ6 S5 (upd H6 p (.lst xI))/\(∀a o,EQ K ρ6 H6 a o->a≠p->EQ K ρ6 (upd H6 p (.lst xI)) a o)/\∀e' w',CH K ρ6 H6 e' w'->CH K ρ6 (upd H6 p (.lst xI)) e' w':=λxI=>by
       have kk:=He (H:=H6) (p:=p) (ho:=.lst xI) (.inr (by rw[hp6];trivial))
       have mono:∀e' w',CH K ρ6 H6 e' w'->CH K ρ6 (upd H6 p (.lst xI)) e' w':=λe' w' r=>r.keep kk.1 kk.2
       have mob:∀a o,EQ K ρ6 H6 a o->a≠p->EQ K ρ6 (upd H6 p (.lst xI)) a o:=λa o r ne=>r.keep kk.1 kk.2 (Bj ne)
       exact⟨⟨s6.len,s6.nd,λn o a q1 q2=>mob a o (s6.ob n o a q1 q2) λz=>hn6 n (by rw[<-z];exact q2)⟩,mob,mono⟩
      obtain⟨u1,u2,u3⟩:=up7 (xs++[y6]);refine⟨hp6,j,DH j,ρ6,e3,S5,acc++[yv],?_,?_,u1,?_,B2,hn6,w8⟩
      ·have lx:=l2.trans (l3.trans (l4.trans (l5.trans l6)))
       have kk:=He (H:=H6) (p:=p) (ho:=.lst (xs++[y6])) (.inr (by rw[hp6];trivial))
       exact⟨lx.pre,λa zs q=>kk.1 a zs (lx.tup a zs q),λa o u q=>kk.2 a o u (lx.frz a o u q),λa o q z=>by
        have nap:a≠p:=Cm q hp;obtain⟨z1,z2⟩:=lx.oth a o q z
        exact⟨by rw[Bj nap];exact z1,z2⟩⟩
      ·have rr:=r4.mono (l5.trans l6)
       exact⟨rr.len,λq d' hq=>by
        obtain⟨w',z1,z2⟩:=rr.at' q d' hq
        exact⟨w',z1,u3 _ _ z2⟩⟩
      ·have ra6:=ra.mono (l3.trans (l4.trans (l5.trans l6)))
       have kk:=He (H:=H6) (p:=p) (ho:=.lst (xs++[y6])) (.inr (by rw[hp6];trivial));exact(ra6.keep kk.1 kk.2).append (.cons (u3 _ _ r6) .nil)
    ·cases w8
theorem E6(hc:X.calm=true)(Sc:PK X scope own N')(hi:GI X E ϖ iter mi)
  (hg:∀cl C s₁ H₁ ex pn,GG (El X scope N' cl C s₁ H₁ ex pn) ϖ g) (yc:∀cl C s₁ H₁ ex pn,nV (El X scope N' cl C s₁ H₁ ex pn) noE ifs c) (he:∀cl C s₁ H₁ ex pn,GE (El X scope N' cl C s₁ H₁ ex pn) noE elt m)
  (hs:∀x,Gi iter X.env x=pure x:=by intro _;rfl):GL X E (.ListComp elt [⟨ϖ,iter,ifs,0⟩] scope pos) (Eo own.length mi g c m):=
 (lZ (g:=gG X.K g) (tc:=gT X.K noE c) (te:=gE X.K noE m) hc Sc hi hg yc he hs).imp λ_ _ _ h=>X7 h
theorem SU(hc:X.calm=true)(hsw:HE (.ListComp elt [⟨ϖ,iter,ifs,0⟩] scope pos) (some (.Name y py)) yF.line X.env=pure true)
  (hN:X.N.Nodup) (hy:X.N[i]?=some y) (zu:Loc X.env.scope y) (Sc:PK X scope own N') (hi:GI X E ϖ iter mi)
  (hg:∀cl C s₁ H₁ ex pn,GG (El X scope N' cl C s₁ H₁ ex pn) ϖ g) (yc:∀cl C s₁ H₁ ex pn,nV (El X scope N' cl C s₁ H₁ ex pn) noE ifs c) (he:∀cl C s₁ H₁ ex pn,GE (El X scope N' cl C s₁ H₁ ex pn) noE elt m)
  (hs:∀x,Gi iter X.env x=pure x:=by intro _;rfl) (hf:X.fn y=true∨X.env.scope.names.lookup y=some .local:=by first | exact .inl rfl | exact .inr rfl | assumption) :
  GS X E (.Assign [.Name y py] (.ListComp elt [⟨ϖ,iter,ifs,0⟩] scope pos) yF) (CP i (FZ (Eo own.length mi g c m))):=by
 refine(lK (g:=gG X.K g) (tc:=gT X.K noE c) (te:=gE X.K noE m) hc hsw hN hy zu Sc hi hg yc he hs hf).imp λD σ H ⟨ρ,l,S,hl,hs,hm⟩=>?_
 refine X7 (E:=E) (Q:=λx H'=>D.nx (σ.set i (some x)) H') ⟨ρ,l,S,hl,hs,Cb.seq (F:=λds S1=>Res.ok (L2.D.ref S1.length) (S1++[Ob.lst ds])) (k:=λd S2=>Cb X.K noH ρ H ((tgN i d l S2).bind λe1 S2=>.ok (.nx e1) S2) λfl S'=>R6 X.K E ρ H S' D fl) (Cb.lift hm hl .refl λd S2 h=>h) λds S1 hm ρ1 H1 p xs l1 s1 r1 hp hn Θ=>?_⟩
 have l0:∀(n:Nat) a,ρ1[n]?=some a->(ρ1++[p])[n]?=some a:=λn a h=>by rw[A9 (AD.mp h).1];exact h
 obtain⟨s2,at2⟩:=s1.adopt (o:=.lst ds) hn ⟨xs,hp,r1.more l0⟩
 have l2:Le X.K ρ H (ρ1++[p]) H1:=⟨λn a h=>l0 n a (l1.pre n a h),l1.tup,l1.frz,λa o e h=>⟨(l1.oth a o e h).1,λn q=>by
  rcases Jz q with⟨q,_⟩ | ⟨_,q⟩
  ·exact(l1.oth a o e h).2 n q
  ·exact Cm e Θ q⟩⟩
 exact hm _ _ _ l2 s2 ((hl.mono l2).set (.ref at2) i)
end
end L2
namespace L2
open PySem PySem.Spec PyProof.Rows PySem.SeqAt
def Mn:D->D->Option Bool
 | .non,.non=>some true
 | .bl a,.bl b=>some (a==b)
 | .int a,.int b=>some (a==b)
 | .str a,.str b=>some (a==b)
 | .non,.int _=>some false
 | .non,.str _=>some false
 | .non,.bl _=>some false
 | .non,.tup _=>some false
 | .int _,.non=>some false
 | .str _,.non=>some false
 | .bl _,.non=>some false
 | .tup _,.non=>some false
 | .int _,.tup _=>some false
 | .tup _,.int _=>some false
 | _,_=>none
def eqL(f:D->D->Option Bool):List D->List D->Option Bool
 | [],[]=>some true
 | [],_ :: _=>some false
 | _ :: _,[]=>some false
 | x :: xs,y :: ys=>match f x y,eqL f xs ys with
  | some a,some b=>some (a&&b)
  | _,_=>none
def eqP:Nat->D->D->Option Bool
 | 0,x,y=>Mn x y
 | n+1,x,y=>match x,y with
  | .tup xs,.tup ys=>eqL (eqP n) xs ys
  | x,y=>Mn x y
theorem N3(h:eqL f (x :: xs) (y :: ys)=some b):∃a c,f x y=some a/\eqL f xs ys=some c/\b=(a&&c):=by
 unfold eqL at h;split at h
 ·rename_i a c h1 h2
  cases h;exact⟨a,c,h1,h2,rfl⟩
 ·cases h
theorem bw:∀{xs ys:List D} {b:Bool},eqL f xs ys=some b->(∀(j:Nat) x y,xs[j]?=some x->ys[j]?=some y->∃c,f x y=some c) /\
  b=((DD (min xs.length ys.length)).all (λj=>match xs[j]?,ys[j]? with | some x,some y=>(f x y).getD false | _,_=>false)&&xs.length==ys.length)
 | [],[],b,h=>by cases h;exact⟨λj x y h=>by simp at h,by simp⟩
 | [],y :: ys,b,h=>by cases h;exact⟨λj x y h=>by simp at h,by simp⟩
 | x :: xs,[],b,h=>by cases h;exact⟨λj x y _ h=>by simp at h,by simp⟩
 | x :: xs,y :: ys,b,h=>by
  obtain⟨a,c,h1,h2,rfl⟩:=N3 h;obtain⟨i1,i2⟩:=bw h2;refine⟨λj x' y' e1 e2=>?_,?_⟩
  ·cases j with
   | zero=>simp at e1 e2;subst e1;subst e2;exact⟨a,h1⟩
   | succ j=>exact i1 j x' y' (by simpa using e1) (by simpa using e2)
  ·rw[i2,Av,Av,show min (xs.length+1) (ys.length+1)=min xs.length ys.length+1 by lia,List.range_succ_eq_map,List.all_cons,Y7]
   simp only[List.getElem?_cons_zero,h1,RJ,Function.comp_def,Xt];rw[Bool.and_assoc]
   congr 1
   congr 1
   rw[NP];simp
section
variable{K:AG}{ρ:List AW}{H:Hp}
theorem bq(n k:Nat)(y:D):eqP n (.ref k) y=none:=by cases n <;> cases y <;> rfl
theorem br(n:Nat)(ds:List D)(y:D):eqP n (.fro ds) y=none:=by cases n <;> cases y <;> rfl
theorem bu(n:Nat)(c:AW)(y:D):eqP n (.exc c) y=none:=by cases n <;> cases y <;> rfl
theorem Pr(r1:CH K ρ H x v)(r2:CH K ρ H x' v):x=x'∨(∃ds xf vs,x=.tup ds/\x'=.tup xf/\Az K ρ H ds vs/\Az K ρ H xf vs)∨(∀n y,eqP n x y=none)∨∀n y,eqP n x' y=none:=by
 cases r1 with
 | non=>cases r2;exact .inl rfl
 | bl b=>cases r2;exact .inl rfl
 | int b=>cases r2;exact .inl rfl
 | str b=>cases r2;exact .inl rfl
 | fro _ _=>exact .inr (.inr (.inl λn y=>br n _ y))
 | ref _=>exact .inr (.inr (.inl λn y=>bq n _ y))
 | exc _ _=>exact .inr (.inr (.inl λn y=>bu n _ y))
 | tup u1 u2=>
  cases r2 with
  | fro _ _=>exact .inr (.inr (.inr λn y=>br n _ y))
  | ref _=>exact .inr (.inr (.inr λn y=>bq n _ y))
  | exc _ _=>exact .inr (.inr (.inr λn y=>bu n _ y))
  | tup w1 w2=>
   rw[u1]at w1;cases w1;exact .inr (.inl ⟨_,_,_,rfl,rfl,u2,w2⟩)
theorem m9:∀(n:Nat) {x x' y:D} {v:V} {b b':Bool},CH K ρ H x v->CH K ρ H x' v->eqP n x y=some b->eqP n x' y=some b'->b=b':=by
 intro n
 induction n with
 | zero=>
  intro x x' y v b b' r1 r2 h h'
  rcases Pr r1 r2 with rfl | ⟨ds,xf,vs,rfl,rfl,_,_⟩ | q | q
  ·rw[h]at h';cases h';rfl
  ·have:eqP 0 (.tup ds) y=eqP 0 (.tup xf) y:=by cases y <;> rfl
   rw[<-this,h]at h';cases h';rfl
  ·rw[q]at h;cases h
  ·rw[q]at h';cases h'
 | succ n ih=>
  intro x x' y v b b' r1 r2 h h'
  have lists:∀{xs:List D} {vs:List V} {xI ys:List D} {b b':Bool},Az K ρ H xs vs->Az K ρ H xI vs->eqL (eqP n) xs ys=some b->eqL (eqP n) xI ys=some b'->b=b':=by
   intro xs
   induction xs with
   | nil=>
    intro vs xI ys b b' q1 q2 g g';cases q1;cases q2;rw[g]at g';cases g';rfl
   | cons d ds ihl=>
    intro vs xI ys b b' q1 q2 g g'
    cases q1 with
    | cons a1 a2=>
     cases q2 with
     | cons c1 c2=>
      cases ys with
      | nil=>cases g;cases g';rfl
      | cons y ys=>
       obtain⟨p,q,g1,g2,rfl⟩:=N3 g;obtain⟨p',q',g1',g2',rfl⟩:=N3 g';rw[ih a1 c1 g1 g1',ihl a2 c2 g2 g2']
  rcases Pr r1 r2 with rfl | ⟨ds,xf,vs,rfl,rfl,q1,q2⟩ | q | q
  ·rw[h]at h';cases h';rfl
  ·by_cases c:∃ys,y=.tup ys
   ·obtain⟨ys,rfl⟩:=c
    exact lists q1 q2 h h'
   ·have:eqP (n+1) (.tup ds) y=eqP (n+1) (.tup xf) y:=by
     cases y <;> first | rfl | exact(c ⟨_,rfl⟩).elim
    rw[<-this,h]at h';cases h';rfl
  ·rw[q]at h;cases h
  ·rw[q]at h';cases h'
theorem E0(h:Mn x x=some b):b=true:=by
 cases x <;> first | (cases h;done) | (cases h;simp)
theorem US:∀(n:Nat) {x:D} {b:Bool},eqP n x x=some b->b=true
 | 0,_,_,h=>E0 h
 | n+1,x,b,h=>by
  have lists:∀{xs:List D} {b:Bool},eqL (eqP n) xs xs=some b->b=true:=by
   intro xs
   induction xs with
   | nil=>intro b g;cases g;rfl
   | cons d ds ih=>
    intro b g;obtain⟨p,q,g1,g2,rfl⟩:=N3 g;rw[US n g1,ih g2];rfl
  cases x with
  | tup xs=>exact lists h
  | non=>exact E0 (x:=.non) h
  | bl c=>exact E0 (x:=.bl c) h
  | int c=>exact E0 (x:=.int c) h
  | str c=>exact E0 (x:=.str c) h
  | ref c=>exact E0 (x:=.ref c) h
  | fro c=>exact E0 (x:=.fro c) h
  | exc c=>exact E0 (x:=.exc c) h
theorem OS(hy:(∃f,y=.fro f)∨(∃r,y=.ref r)∨∃c,y=.exc c)(n:Nat):eqP n x y=none:=by
 rcases hy with⟨f,rfl⟩ | ⟨r,rfl⟩ | ⟨c,rfl⟩ <;> (cases n <;> cases x <;> rfl)
theorem i7(n:Nat)(h1:CH K ρ H x v)(h2:CH K ρ H y v)(h:eqP n x y=some b):b=true:=by
 induction n generalizing x y v b with
 | zero=>
  rcases Pr h1 h2 with rfl | ⟨ds,xf,vs,rfl,rfl,_,_⟩ | q | q
  ·exact US 0 h
  ·cases h
  ·rw[q]at h;cases h
  ·cases h2 with
   | fro _ _=>rw[OS (.inl ⟨_,rfl⟩)]at h;cases h
   | ref _=>rw[OS (.inr (.inl ⟨_,rfl⟩))]at h;cases h
   | exc _ _=>rw[OS (.inr (.inr ⟨_,rfl⟩))]at h;cases h
   | non=>cases(q 0 .non)
   | bl b=>cases(q 0 (.bl b))
   | int b=>cases(q 0 (.int b))
   | str b=>cases(q 0 (.str b))
   | tup _ _=>cases(q 0 .non)
 | succ n ih=>
  have lists:∀{xs ys:List D} {vs:List V} {b:Bool},Az K ρ H xs vs->Az K ρ H ys vs->eqL (eqP n) xs ys=some b->b=true:=by
   intro xs
   induction xs with
   | nil=>intro ys vs b q1 q2 g;cases q1;cases q2;cases g;rfl
   | cons d ds ihl=>
    intro ys vs b q1 q2 g
    cases q1 with
    | cons a1 a2=>
     cases q2 with
     | cons c1 c2=>
      obtain⟨p,q,g1,g2,rfl⟩:=N3 g;rw[ih a1 c1 g1,ihl a2 c2 g2];rfl
  rcases Pr h1 h2 with rfl | ⟨ds,xf,vs,rfl,rfl,q1,q2⟩ | q | q
  ·exact US (n+1) h
  ·exact lists q1 q2 h
  ·rw[q]at h;cases h
  ·cases h2 with
   | fro _ _=>rw[OS (.inl ⟨_,rfl⟩)]at h;cases h
   | ref _=>rw[OS (.inr (.inl ⟨_,rfl⟩))]at h;cases h
   | exc _ _=>rw[OS (.inr (.inr ⟨_,rfl⟩))]at h;cases h
   | non=>cases(q 0 .non)
   | bl b=>cases(q 0 (.bl b))
   | int b=>cases(q 0 (.int b))
   | str b=>cases(q 0 (.str b))
   | tup _ _=>cases(q 0 .non)
end
section
variable{X:Cx}{ζ:List (AW×Obj)}{σ:St}{H:Hp}{s:AQ}{ρ:List AW}
theorem HA(A:CO):A.in1.units=A.units+1:=rfl
theorem Bv.at_(r:Bv vs tx)(h:j < tx.toArray.size):∃v,vs[j]?=some v/\RelV v tx.toArray[j]:=by
 have hj:j < tx.length:=by simpa using h
 have hv:j < vs.length:=by rw[r.length];exact hj
 obtain⟨u,h1,h2⟩:=r.get (i:=j) (x:=vs[j]) (by simp[hv]);refine⟨vs[j],by simp[hv],?_⟩
 have:tx.toArray[j]=u:=by
  have:=AD.mp h1;obtain⟨_,e⟩:=this;simpa using e
 rw[this];exact h2
theorem Wp(ih:∀(x y:D) (b:Bool) (xv yv:V) (u v:AI),eqP n x y=some b->CH X.K ρ H x xv->CH X.K ρ H y yv->RelV xv u->RelV yv v->EqAt A s u v b)
  (h:eqL (eqP n) xs ys=some b) (r1:Az X.K ρ H xs vs) (r2:Az X.K ρ H ys ws) (q1:Bv vs us) (q2:Bv ws zs) :
  ∃e:Nat->Bool,(∀j (h1:j < us.toArray.size) (h2:j < zs.toArray.size),EqAt A s us.toArray[j] zs.toArray[j] (e j))/\b=((DD (min us.toArray.size zs.toArray.size)).all e&&us.toArray.size==zs.toArray.size):=by
 obtain⟨i1,i2⟩:=bw h;refine⟨λj=>match xs[j]?,ys[j]? with | some x,some y=>(eqP n x y).getD false | _,_=>false,λj h1 h2=>?_,?_⟩
 ·obtain⟨v,e1,rv⟩:=Bv.at_ q1 h1
  obtain⟨w,e2,wZ⟩:=Bv.at_ q2 h2;obtain⟨x,e3,rx⟩:=r1.get' e1;obtain⟨y,e4,ry⟩:=r2.get' e2;obtain⟨c,hc⟩:=i1 j x y e3 e4;have:=ih x y c v w _ _ hc rx ry rv wZ;simp only[e3,e4,hc,RJ];exact this
 ·rw[i2,r1.length,r2.length,q1.length,q2.length]
  simp
theorem Q4(I:Inv X ζ σ H s)(hu:A.units < Ey)(h:Mn x y=some b)(r1:CH X.K ρ H x xv)(r2:CH X.K ρ H y yv)(q1:RelV xv u)(q2:RelV yv v) :
  EqAt A s u v b/\RcAt A s u v b/\RcNeAt A s u v (!b):=by
 cases r1 with
 | non=>
  cases q1
  cases r2 with
  | non=>cases q2;cases h;exact⟨EqAt.same _,RcAt.none_none,RcNeAt.none_none⟩
  | bl c=>cases q2;cases h;exact⟨EqAt.none_bool _,RcAt.none_bool _,RcNeAt.none_bool _⟩
  | int i=>obtain⟨t,rfl⟩:=q2;cases h;exact⟨EqAt.none_int _ _,RcAt.none_int _ _,RcNeAt.none_int _ _⟩
  | str z=>obtain⟨t,rfl⟩:=q2;cases h;exact⟨EqAt.none_str _ _,RcAt.none_str _ _,RcNeAt.none_str _ _⟩
  | tup a1 a2=>
   cases q2;cases h;obtain⟨tx,_,p,_⟩:=I.tuple (.inl (.inl a1));exact⟨EqAt.none_tuple p hu,RcAt.none_tuple p hu,RcNeAt.none_tuple p hu⟩
  | _=>cases h
 | bl a=>
  cases q1
  cases r2 with
  | non=>cases q2;cases h;exact⟨EqAt.bool_none _,RcAt.bool_none _,RcNeAt.bool_none _⟩
  | bl c=>cases q2;cases h;exact⟨EqAt.bool_bool _ _,RcAt.bool_bool _ _,RcNeAt.bool_bool _ _⟩
  | _=>cases h
 | int a=>
  obtain⟨t,rfl⟩:=q1
  cases r2 with
  | non=>cases q2;cases h;exact⟨EqAt.int_none _ _,RcAt.int_none _ _,RcNeAt.int_none _ _⟩
  | int i=>obtain⟨t',rfl⟩:=q2;cases h;exact⟨EqAt.int_int _ _ _ _,RcAt.int_int _ _ _ _,RcNeAt.int_int _ _ _ _⟩
  | tup a1 a2=>
   cases q2;cases h;obtain⟨tx,_,p,_⟩:=I.tuple (.inl (.inl a1));exact⟨EqAt.int_tuple _ _ p hu,RcAt.int_tuple _ _ p hu,RcNeAt.int_tuple _ _ p hu⟩
  | _=>cases h
 | str a=>
  obtain⟨t,rfl⟩:=q1
  cases r2 with
  | non=>cases q2;cases h;exact⟨EqAt.str_none _ _,RcAt.str_none _ _,RcNeAt.str_none _ _⟩
  | str i=>obtain⟨t',rfl⟩:=q2;cases h;exact⟨EqAt.str_str _ _ _ _,RcAt.str_str _ _ _ _,RcNeAt.str_str _ _ _ _⟩
  | _=>cases h
 | tup a1 a2=>
  cases q1;obtain⟨tx,_,p,_⟩:=I.tuple (.inl (.inl a1))
  cases r2 with
  | non=>cases q2;cases h;exact⟨EqAt.tuple_none p hu,RcAt.tuple_none p hu,RcNeAt.tuple_none p hu⟩
  | int i=>obtain⟨t',rfl⟩:=q2;cases h;exact⟨EqAt.tuple_int _ _ p hu,RcAt.tuple_int _ _ p hu,RcNeAt.tuple_int _ _ p hu⟩
  | _=>cases h
 | _=>cases h
theorem aE(I:Inv X ζ σ H s):∀(n:Nat) (A:CO) (x y:D) (b:Bool) (xv yv:V) (u v:AI),A.units+n < Ey->eqP n x y=some b->CH X.K ρ H x xv->CH X.K ρ H y yv->RelV xv u->RelV yv v->EqAt A s u v b:=by
 intro n
 induction n with
 | zero=>exact λA x y b xv yv u v hu h r1 r2 q1 q2=>(Q4 I (by omega) h r1 r2 q1 q2).1
 | succ n ih=>
  intro A x y b xv yv u v hu h r1 r2 q1 q2
  by_cases ht:∃xs ys,x=.tup xs/\y=.tup ys
  ·obtain⟨xs,ys,rfl,rfl⟩:=ht
   cases r1 with
   | @tup _ a vs a1 a2=>
    cases r2 with
    | @tup _ c ws b1 b2=>
     cases q1;cases q2
     by_cases hac:a=c
     ·subst hac
      rw[i7 (n+1) (.tup a1 a2) (.tup b1 b2) h];exact EqAt.same _
     ·obtain⟨tx,rv,p,_⟩:=I.tuple (.inl (.inl a1))
      obtain⟨wG,wZ,p2,_⟩:=I.tuple (.inl (.inl b1));obtain⟨e,he,rfl⟩:=Wp (A:=A.in1) (λx y b xv yv u v g1 g2 g3 g4 g5=>ih A.in1 x y b xv yv u v (by rw[HA];lia) g1 g2 g3 g4 g5) h a2 b2 rv wZ;exact EqAt.of_refs hac (tQ p p2 (by lia) he)
  ·have hf:Mn x y=some b:=by
    cases x <;> cases y <;> first | exact h | exact(ht ⟨_,_,rfl,rfl⟩).elim
   exact(Q4 I (by lia) hf r1 r2 q1 q2).1
def UE(d:D)(S:Sto):Option (List D):=match d with
 | .fro ds=>some ds
 | .ref n=>match S[n]? with
  | some (.lst ds)=>some ds
  | _=>none
 | _=>none
def eqB(x y:D)(S:Sto):Option Bool:=match UE x S,UE y S with
 | some xs,some ys=>if xs.length=ys.length then eqL (eqP 8) xs ys else some false
 | none,none=>eqP 8 x y
 | some _,none=>match y with
  | .tup _=>some false
  | .non=>some false
  | _=>none
 | none,some _=>match x with
  | .tup _=>some false
  | .non=>some false
  | _=>none
def eqD(neg:Bool)(x y:D)(S:Sto):Res D:=match eqB x y S with
 | some b=>.ok (.bl (if neg then !b else b)) S
 | none=>.bad
theorem OR{K}{S}{d}{x}{ds}(hs:CY K ρ S H)(r:CH K ρ H d x)(h:UE d S=some ds):∃p xs,x=.ref p/\Az K ρ H ds xs/\SqL K H p xs:=by
 cases r with
 | fro h1 h2=>cases h;exact⟨_,_,rfl,h2,h1.sq⟩
 | @ref n a hn=>
  obtain⟨o,ho,ro⟩:=hs.there hn;unfold UE at h;simp only[ho]at h
  cases o with
  | lst es=>cases h;obtain⟨vs,e,rr⟩:=ro;exact⟨_,_,rfl,rr,.inl (.inl e)⟩
  | _=>cases h
 | _=>cases h
theorem jA{S}{x y}{b}{xv yv}{u v}(I:Inv X ζ σ H s)(hu:X.A.units+64 < Ey)(hs:CY X.K ρ S H)(r1:CH X.K ρ H x xv)(r2:CH X.K ρ H y yv)(q1:RelV xv u)(q2:RelV yv v)(h:eqB x y S=some b) :
  RcAt X.A s u v b/\RcNeAt X.A s u v (!b):=by
 unfold eqB at h;split at h
 ·rename_i xs ys h1 h2
  obtain⟨p,vs,rfl,rr,sq⟩:=OR hs r1 h1;obtain⟨p',Ρ,rfl,rr',sq'⟩:=OR hs r2 h2;cases q1;cases q2;obtain⟨tx,rv,pl,_⟩:=I.list sq;obtain⟨wG,rv2,pl2,_⟩:=I.list sq';split at h
  ·rename_i hlen
   obtain⟨e,he,rfl⟩:=Wp (A:=X.A.in1) (λx y b xv yv u v g1 g2 g3 g4 g5=>aE I 8 X.A.in1 x y b xv yv u v (by rw[HA];lia) g1 g2 g3 g4 g5) h rr rr' rv rv2
   have hsz:tx.toArray.size=wG.toArray.size:=by
    simp only[Ak];rw[<-rv.length,<-rv2.length,<-rr.length,<-rr'.length];exact hlen
   have e1:((DD (min tx.toArray.size wG.toArray.size)).all e&&tx.toArray.size==wG.toArray.size)=(DD tx.toArray.size).all e:=by
    rw[<-hsz,Nat.min_self,beq_self_eq_true,Bool.and_true]
   rw[e1];exact⟨RcAt.lists pl.isList pl2.isList hsz (by lia) he,RcNeAt.lists pl.isList pl2.isList hsz (by lia) he⟩
  ·rename_i hlen
   cases h
   have hsz:(tx.toArray.size != wG.toArray.size)=true:=by
    simp only[Ak];rw[<-rv.length,<-rv2.length,<-rr.length,<-rr'.length];simpa using hlen
   exact⟨RcAt.lists_lengths pl.isList pl2.isList hsz (by lia),RcNeAt.lists_lengths pl.isList pl2.isList hsz (by lia)⟩
 ·by_cases ht:∃xs ys,x=.tup xs/\y=.tup ys
  ·obtain⟨xs,ys,rfl,rfl⟩:=ht
   cases r1 with
   | tup a1 a2=>
    cases r2 with
    | tup b1 b2=>
     cases q1;cases q2;obtain⟨tx,rv,p,_⟩:=I.tuple (.inl (.inl a1));obtain⟨wG,wZ,p2,_⟩:=I.tuple (.inl (.inl b1));obtain⟨e,he,rfl⟩:=Wp (n:=7) (A:=X.A.in1) (λx y b xv yv u v g1 g2 g3 g4 g5=>aE I 7 X.A.in1 x y b xv yv u v (by rw[HA];lia) g1 g2 g3 g4 g5) h a2 b2 rv wZ;exact⟨tQ p p2 (by lia) he,RcNeAt.tuples p p2 (by lia) he⟩
  ·have hf:Mn x y=some b:=by
    cases x <;> cases y <;> first | exact h | exact(ht ⟨_,_,rfl,rfl⟩).elim
   exact(Q4 I (by lia) hf r1 r2 q1 q2).2
 ·rename_i xs h1 h2
  obtain⟨p,vs,rfl,rr,sq⟩:=OR hs r1 h1;cases q1;obtain⟨tx,rv,pl,_⟩:=I.list sq;split at h
  ·cases h
   cases r2 with
   | tup b1 b2=>
    cases q2;obtain⟨wG,wZ,p2,_⟩:=I.tuple (.inl (.inl b1));exact⟨RcAt.list_tuple pl.isList p2 (by lia),RcNeAt.list_tuple pl.isList p2 (by lia)⟩
  ·cases h
   cases r2;cases q2;exact⟨RcAt.list_none pl.isList (by lia),RcNeAt.list_none pl.isList (by lia)⟩
  ·cases h
 ·rename_i xs h1 h2
  obtain⟨p,vs,rfl,rr,sq⟩:=OR hs r2 h2;cases q2;obtain⟨tx,rv,pl,_⟩:=I.list sq;split at h
  ·cases h
   cases r1 with
   | tup b1 b2=>
    cases q1;obtain⟨wG,wZ,p2,_⟩:=I.tuple (.inl (.inl b1));exact⟨RcAt.tuple_list p2 pl.isList (by lia),RcNeAt.tuple_list p2 pl.isList (by lia)⟩
  ·cases h
   cases r1;cases q1;exact⟨RcAt.none_list pl.isList (by lia),RcNeAt.none_list pl.isList (by lia)⟩
  ·cases h
theorem M1(hu:X.A.units+64 < Ey):OpR X (Bu .Eq) (rD X.K (eqD false)):=by
 intro ζ s σ H x y v u Q I rx ry h;obtain⟨ρ,S,a,b,d,S',hs,ra,rb,hm,k⟩:=h;unfold eqD at hm;split at hm
 ·rename_i c hc
  cases hm;exact(jA I hu hs ra rb rx ry hc).1 _ _ _ _ ⟨.bl c,H,I,rfl,k ρ H _ .refl hs (.bl _)⟩
 ·cases hm
theorem oI(hu:X.A.units+64 < Ey):OpR X (Bu .NotEq) (rD X.K (eqD true)):=by
 intro ζ s σ H x y v u Q I rx ry h;obtain⟨ρ,S,a,b,d,S',hs,ra,rb,hm,k⟩:=h;unfold eqD at hm;split at hm
 ·rename_i c hc
  cases hm;exact(jA I hu hs ra rb rx ry hc).2 _ _ _ _ ⟨.bl (!c),H,I,rfl,k ρ H _ .refl hs (.bl _)⟩
 ·cases hm
def Op(x:D):List D->Option Bool
 | []=>some false
 | d :: ds=>match eqP 8 d x,Op x ds with
  | some a,some b=>some (a||b)
  | _,_=>none
def inD(neg:Bool)(x y:D)(S:Sto):Res D:=match HG y S with
 | some ds=>match Op x ds with
  | some b=>.ok (.bl (if neg then !b else b)) S
  | none=>.bad
 | none=>.bad
theorem aQ(h:Op x (d :: ds)=some b):∃a c,eqP 8 d x=some a/\Op x ds=some c/\b=(a||c):=by
 unfold Op at h;split at h
 ·rename_i a c h1 h2
  cases h;exact⟨a,c,h1,h2,rfl⟩
 ·cases h
open Classical in
theorem QF(I:Inv X ζ σ H s)(hu:A.units+8 < Ey)(rx:CH X.K ρ H x xv)(qx:RelV xv v):∀{ds:List D} {vs:List V} {us:List AI} {b:Bool},Az X.K ρ H ds vs->Bv vs us->Op x ds=some b ->
  ∃e:AI->Bool,(∀y∈us,EqAt A s y v (e y))/\b=us.any e:=by
 intro ds vs us b r q h
 let e:AI->Bool:=λy=>decide (∃d w,d∈ds/\CH X.K ρ H d w/\RelV w y/\eqP 8 d x=some true)
 have all:∀{xf:List D} {Ρ:List V} {Τ:List AI} {b':Bool},(∀d∈xf,d∈ds)->Az X.K ρ H xf Ρ->Bv Ρ Τ->Op x xf=some b'->(∀y∈Τ,EqAt A s y v (e y))/\b'=Τ.any e:=by
  intro xf
  induction xf with
  | nil=>intro Ρ Τ b' _ r q h;cases r;cases q;cases h;exact⟨(λ_ z=>nomatch z),rfl⟩
  | cons d xf ih=>
   intro Ρ Τ b' ye r q h
   cases r with
   | cons r1 r2=>
    cases q with
    | @cons w y _ _ q1 q2=>
     obtain⟨a,c,h1,h2,rfl⟩:=aQ h;obtain⟨i1,i2⟩:=ih (λz hz=>ye z (AS _ hz)) r2 q2 h2
     have ha:e y=a:=by
      by_cases hq:∃d w,d∈ds/\CH X.K ρ H d w/\RelV w y/\eqP 8 d x=some true
      ·obtain⟨d',w',_,g1,g2,g3⟩:=id hq
       rw[RelV.inj g2 q1]at g1;have:=m9 8 g1 r1 g3 h1;rw[<-this];exact wX hq
      ·have:a=false:=by
        cases a with
        | false=>rfl
        | true=>exact(hq ⟨d,_,ye d AV,r1,q1,h1⟩).elim
       rw[this];exact wY hq
     refine⟨λz hz=>?_,by rw[Iy,ha,<-i2]⟩
     rcases Ae.mp hz with rfl | hz
     ·rw[ha]
      exact aE I 8 A d x a _ _ _ _ hu h1 r1 rx q1 qx
     ·exact i1 z hz
 obtain⟨e1,e2⟩:=all (λ_ h=>h) r q h;exact⟨e,e1,e2⟩
theorem oJ(hu:X.A.units+64 < Ey):OpR X (Bu .In) (rD X.K (inD false)):=by
 intro ζ s σ H x y v u Q I rx ry h;obtain⟨ρ,S,a,b,d,S',hs,ra,rb,hm,k⟩:=h;unfold inD at hm;split at hm
 ·rename_i ds hq
  split at hm
  ·rename_i c hc
   cases hm;obtain⟨p,xs,rfl,rr,sq⟩:=SJ hs rb hq;cases ry
   rcases sq with sq | sq
   ·obtain⟨tx,rv,pl,_⟩:=I.list sq
    obtain⟨e,he,rfl⟩:=QF I (A:=X.A.in1) (by rw[HA];lia) ra rx rr rv hc;exact in_listAt e pl.isList (λz hz=>he z (by simpa using hz)) ⟨.bl (tx.toArray.any e),H,I,rfl,by rw[Mx];exact k ρ H _ .refl hs (.bl _)⟩
   ·obtain⟨tx,rv,pl,_⟩:=I.tuple sq
    obtain⟨e,he,rfl⟩:=QF I (A:=X.A.in1) (by rw[HA];lia) ra rx rr rv hc;exact in_tupleAt e pl (λz hz=>he z (by simpa using hz)) ⟨.bl (tx.toArray.any e),H,I,rfl,by rw[Mx];exact k ρ H _ .refl hs (.bl _)⟩
  ·cases hm
 ·cases hm
theorem g8(hu:X.A.units+64 < Ey):OpR X (Bu .NotIn) (rD X.K (inD true)):=by
 intro ζ s σ H x y v u Q I rx ry h;obtain⟨ρ,S,a,b,d,S',hs,ra,rb,hm,k⟩:=h;unfold inD at hm;split at hm
 ·rename_i ds hq
  split at hm
  ·rename_i c hc
   cases hm;obtain⟨p,xs,rfl,rr,sq⟩:=SJ hs rb hq;cases ry
   rcases sq with sq | sq
   ·obtain⟨tx,rv,pl,_⟩:=I.list sq
    obtain⟨e,he,rfl⟩:=QF I (A:=X.A.in1) (by rw[HA];lia) ra rx rr rv hc;exact notIn_listAt e pl.isList (λz hz=>he z (by simpa using hz)) ⟨.bl (!tx.toArray.any e),H,I,rfl,by rw[Mx];exact k ρ H _ .refl hs (.bl _)⟩
   ·obtain⟨tx,rv,pl,_⟩:=I.tuple sq
    obtain⟨e,he,rfl⟩:=QF I (A:=X.A.in1) (by rw[HA];lia) ra rx rr rv hc;exact notIn_tupleAt e pl (λz hz=>he z (by simpa using hz)) ⟨.bl (!tx.toArray.any e),H,I,rfl,by rw[Mx];exact k ρ H _ .refl hs (.bl _)⟩
  ·cases hm
 ·cases hm
end
open PySem PySem.Spec PyProof.Rows
def P0(mo ma:ME):ME:=λe S=>(mo e S).bind λd S1=>match d with
 | .ref n=>match S1[n]? with
  | some (.lst _)=>(ma e S1).bind λy S2=>match S2[n]? with
   | some (.lst xs)=>if xs.length < sizeLine then .ok .non (S2.set n (.lst (xs++[y])))else .bad
   | _=>.bad
  | _=>.bad
 | _=>.bad
section
variable{X:Cx}{E:EW}{o e:Expr}{mo ma:ME}
theorem bD{K}{ρ}{S}{H}{n}{x}{xs}(s:CY K ρ S H)(r:CH K ρ H (.ref n) x)(h:S[n]?=some (.lst xs)):∃a vs,x=.ref a/\ρ[n]?=some a/\H a=some (.lst vs)/\Az K ρ H xs vs:=by
 cases r with
 | ref hn=>
  obtain⟨vs,e,rr⟩:=s.ob n _ _ h hn;exact⟨_,vs,rfl,hn,e,rr⟩
theorem IP(ho:GE X E o mo)(ha:GE X E e ma)(wO:Ht o "append" X.env (Cj o X.env)=Cj o X.env:=by rfl)
  (zm:((EB wz (Ad [e] X.env)).all (λx=>!x.1)&&(KL wz (Fd [] X.env)).all (λx=>x.1.isSome)
    &&decide ([e].length+([]:List tF).length+(if ([]:List tF).isEmpty then 0 else 1) < 30))=true:=by rfl)
  (wQ:(apos.endLine==wz.line)=true:=by rfl) (hs:Ad [e] X.env=(false,Cj e X.env) :: Ad [] X.env:=by rfl) (wR:(EB wz (Ad [] X.env)).any (·.1)=false:=by rfl) :
  GE X E (.Call (.Attribute o "append" apos) [e] [] wz) (P0 mo ma):=(ub PySem.F.plainAttrs_list PySem.F.slot_list_append PySem.F.type_list_append Vo ho (Ie ha Kx hs) wO zm wQ hs wR).imp λσ H Q ⟨ρ,l,S,hl,hs,hm⟩=>by
 refine⟨ρ,l,S,hl,hs,hm.seq λx S1 hm ρ1 H1 v l1 s1 r1=>?_⟩
 cases x <;> first | exact hm.elim | skip
 rename_i n;dsimp only at hm;split at hm
 ·rename_i xs0 h0
  obtain⟨a,vs,rfl,hn,e0,_⟩:=bD s1 r1 h0;refine⟨.inl ⟨rfl,vs,.inl (.inl e0)⟩,ρ1,l,S1,hl.mono l1,s1,(hm.later l1).seq λy S2 hm ρ2 H2 u l2 s2 r2=>?_⟩;split at hm
  ·rename_i xs h3
   split at hm
   ·rename_i hz
    have xu:=l2.pre n a hn;obtain⟨ws,e3,rr⟩:=s2.ob n _ _ h3 xu;have le:Le X.K ρ2 H2 ρ2 (upd H2 a (.lst (ws++[u]))):=Le.write xu (by rw[e3];trivial);obtain⟨s3,l3⟩:=s2.write (ho:=.lst (ws++[u])) (o:=.lst (xs++[y])) xu ⟨_,B2,(rr.append (.cons r2 .nil)).mono le⟩ le;exact⟨a,ws,u,rfl,rfl,e3,by rw[<-rr.length];exact hz,hm ρ2 _ _ (l1.trans (l2.trans l3)) s3 .non⟩
   ·exact hm.elim
  ·exact hm.elim
 ·exact hm.elim
end
def Aj{κ β:Type}[DecidableEq κ](f':List (κ×β))(k:κ):Option β:=(f'.find? λkv=>decide (kv.1=k)).map (·.2)
def CJ{κ β:Type}[DecidableEq κ](f':List (κ×β))(k:κ)(v:β):List (κ×β):=
 if (f'.any λkv=>decide (kv.1=k))=true then f'.map (λkv=>if kv.1=k then(kv.1,v)else kv)else f'++[(k,v)]
section
variable{κ:Type}[DecidableEq κ]{K:AG}{ρ:List AW}{H:Hp}
theorem KVR.val(k:κ):∀{x:List (κ×D)} {y:List (κ×V)},KVR K ρ H x y->(Aj x k=none->Ly y k=none)/\∀d,Aj x k=some d->∃v,Ly y k=some v/\CH K ρ H d v
 | _,_,.nil=>⟨λ_=>rfl,λd h=>by cases h⟩
 | (g,a) :: x,(g',b) :: y,.cons r t=>by
  obtain⟨r1,r2⟩:=r;dsimp only at r1 r2;subst r1;unfold Aj Ly;rw[CT,CT]
  by_cases e:g=k
  ·simp only[e,decide_true]
   exact⟨(λh=>nomatch h),(λd h=>by cases h;exact⟨b,rfl,r2⟩)⟩
  ·simp only[e,decide_false]
   exact KVR.val k t
theorem KVR.any(k:κ):∀{x:List (κ×D)} {y:List (κ×V)},KVR K ρ H x y->(x.any λkv=>decide (kv.1=k))=y.any λkv=>decide (kv.1=k)
 | _,_,.nil=>rfl
 | (g,a) :: x,(g',b) :: y,.cons r t=>by
  rw[Iy,Iy,KVR.any k t,show g=g' from r.1]
theorem KVR.repl(k:κ)(rd:CH K ρ H d v):∀{x:List (κ×D)} {y:List (κ×V)},KVR K ρ H x y->KVR K ρ H (x.map λkv=>if kv.1=k then(kv.1,d)else kv) (y.map λkv=>if kv.1=k then(kv.1,v)else kv)
 | _,_,.nil=>.nil
 | (g,a) :: x,(g',b) :: y,.cons r t=>by
  obtain⟨r1,r2⟩:=r;dsimp only at r1 r2;subst r1;rw[BC,BC];refine .cons ?_ (KVR.repl k rd t)
  by_cases e:g=k
  ·rw[qX e,qX e];exact⟨rfl,rd⟩
  ·rw[qY e,qY e];exact⟨rfl,r2⟩
theorem KVR.put(k:κ)(rd:CH K ρ H d v)(h:KVR K ρ H x y):KVR K ρ H (CJ x k d) (M5 y k v):=by
 unfold CJ M5;rw[KVR.any k h];split
 ·exact KVR.repl k rd h
 ·exact Y6 h ⟨rfl,rd⟩
end
def iV:D->Option Key
 | .int i=>some (.inl i)
 | .str x=>some (.inr x)
 | _=>none
def On:List D->Option (List Key)
 | []=>some []
 | d :: ds=>match iV d,On ds with
  | some k,some ks=>some (k :: ks)
  | _,_=>none
theorem SO{K}{ρ}{H}{d}{v}{k}(r:CH K ρ H d v)(h:iV d=some k):v=kV k:=by
 cases r <;> first | (cases h;done) | (cases h;rfl)
theorem P4{K}{ρ}{H}:∀{ds:List D} {vs:List V} {ks:List Key},Az K ρ H ds vs->On ds=some ks->vs=ks.map kV
 | _,_,_,.nil,h=>by cases h;rfl
 | _,_,_,.cons r t,h=>by
  unfold On at h;split at h
  ·rename_i k ks h1 h2
   cases h;rw[SO r h1,P4 t h2];rfl
  ·cases h
def Oa(x y:D)(S:Sto):Option (Option D):=match x with
 | .ref n=>match S[n]? with
  | some (.dK f')=>match iV y with
   | some k=>some (Aj f' k)
   | none=>none
  | some (.dT f')=>match y with
   | .tup ds=>match On ds with
    | some ks=>some (Aj f' ks)
    | none=>none
   | _=>none
  | some (.fK f')=>match iV y with
   | some k=>some (Aj f' k)
   | none=>none
  | some (.fT f')=>match y with
   | .tup ds=>match On ds with
    | some ks=>some (Aj f' ks)
    | none=>none
   | _=>none
  | _=>none
 | _=>none
theorem XO{K}{ρ}{S}{H}{x y}{xv yv}{o}(s:CY K ρ S H)(rx:CH K ρ H x xv)(ry:CH K ρ H y yv)(h:Oa x y S=some o) :
  ∃a o',xv=.ref a/\QH H a yv o'/\(o=none->o'=none)/\∀d,o=some d->∃v,o'=some v/\CH K ρ H d v:=by
 unfold Oa at h;split at h
 ·rename_i n
  cases rx with
  | @ref _ a hn=>
   split at h
   ·rename_i f' h1
    split at h
    ·rename_i k hk
     cases h;obtain⟨w6,e,r⟩:=s.ob n _ _ h1 hn;rw[SO ry hk];obtain⟨v1,v2⟩:=KVR.val k r;exact⟨a,Ly w6 k,rfl,QH.k e,v1,v2⟩
    ·cases h
   ·rename_i f' h1
    split at h
    ·rename_i ds
     split at h
     ·rename_i ks hk
      cases h;obtain⟨w6,e,r⟩:=s.ob n _ _ h1 hn
      cases ry with
      | tup b1 b2=>
       obtain⟨v1,v2⟩:=KVR.val ks r;rw[P4 b2 hk]at b1;exact⟨a,Ly w6 ks,rfl,QH.t e b1,v1,v2⟩
     ·cases h
    ·cases h
   ·rename_i f' h1
    split at h
    ·rename_i k hk
     cases h;obtain⟨ob,w6,e,r⟩:=s.ob n _ _ h1 hn;rw[SO ry hk];obtain⟨v1,v2⟩:=KVR.val k r;exact⟨a,Ly w6 k,rfl,(.inl ⟨_,_,.inr ⟨ob,e⟩,rfl,rfl⟩),v1,v2⟩
    ·cases h
   ·rename_i f' h1
    split at h
    ·rename_i ds
     split at h
     ·rename_i ks hk
      cases h;obtain⟨ob,w6,e,r⟩:=s.ob n _ _ h1 hn
      cases ry with
      | tup b1 b2=>
       obtain⟨v1,v2⟩:=KVR.val ks r;rw[P4 b2 hk]at b1;exact⟨a,Ly w6 ks,rfl,(.inr ⟨_,_,_,.inr ⟨ob,e⟩,rfl,b1,rfl⟩),v1,v2⟩
     ·cases h
    ·cases h
   ·cases h
 ·cases h
def UV(x y:D)(S:Sto):Res D:=match Oa x y S with
 | some (some d)=>.ok d S
 | _=>.bad
def OZ(neg:Bool)(y x:D)(S:Sto):Res D:=match Oa x y S with
 | some o=>.ok (.bl (if neg then !o.isSome else o.isSome)) S
 | none=>.bad
section
variable{X:Cx}{E:EW}{mo mi mv:ME}
theorem mf(hu:X.A.units+1 < Ey)(ho:GE X E o mo)(hi:GE X E i mi)(hs:sW i:=by intro _ _;rfl):GE X E (.Subscript o i pos) (m2 UV mo mi):=(lY hu ho hi hs).imp λσ H Q h=>by
 refine(Ow h:tOp (rD X.K UV) (gE X.K E mo) (gE X.K E mi) σ H Q) |> λt=>?_
 obtain⟨ρ,l,S,hl,hs,k⟩:=t;refine⟨ρ,l,S,hl,hs,k.imp λx S1 k ρ1 H1 u l1 s1 r1=>?_⟩;obtain⟨ρ2,l2,S2,xC,wK,k2⟩:=k ρ1 H1 u l1 s1 r1;refine⟨ρ2,l2,S2,xC,wK,k2.imp λy S3 k2 ρ3 H3 v l3 s3 r3=>?_⟩;obtain⟨ρ4,S4,x4,y4,d,S5,s4,r4,r5,hm,k4⟩:=k2 ρ3 H3 v l3 s3 r3;unfold UV at hm;split at hm
 ·rename_i d' hd
  cases hm;obtain⟨a,o',rfl,g,_,g2⟩:=XO s4 r4 r5 hd;obtain⟨w',rfl,wZ⟩:=g2 _ rfl;exact⟨a,w',rfl,g,k4 ρ4 H3 w' .refl s4 wZ⟩
 ·cases hm
theorem bA{σ}{H}{Q}(h:gE X.K E (m2 (OZ false) mi mo) σ H Q):uE (gE X.K E mi) (gE X.K E mo) σ H Q:=by
 obtain⟨ρ,l,S,hl,hs,k⟩:=(Ow h:tOp (rD X.K (OZ false)) (gE X.K E mi) (gE X.K E mo) σ H Q);refine⟨ρ,l,S,hl,hs,k.imp λx S1 k ρ1 H1 u l1 s1 r1=>?_⟩;obtain⟨ρ2,l2,S2,xC,wK,k2⟩:=k ρ1 H1 u l1 s1 r1;refine⟨ρ2,l2,S2,xC,wK,k2.imp λy S3 k2 ρ3 H3 v l3 s3 r3=>?_⟩;obtain⟨ρ4,S4,x4,y4,d,S5,s4,r4,r5,hm,k4⟩:=k2 ρ3 H3 v l3 s3 r3;unfold OZ at hm;split at hm
 ·rename_i o' hd
  cases hm;obtain⟨a,o2,rfl,g,g1,g2⟩:=XO s4 r5 r4 hd;refine⟨a,o2,rfl,g,?_⟩
  have:o2.isSome=o'.isSome:=by
   cases o' with
   | none=>rw[g1 rfl];rfl
   | some d=>obtain⟨w',rfl,_⟩:=g2 d rfl;rfl
  rw[this];exact k4 ρ4 H3 _ .refl s4 (.bl _)
 ·cases hm
theorem Zb{σ}{H}{Q}(h:gE X.K E (m2 (OZ true) mi mo) σ H Q):az (gE X.K E mi) (gE X.K E mo) σ H Q:=by
 obtain⟨ρ,l,S,hl,hs,k⟩:=(Ow h:tOp (rD X.K (OZ true)) (gE X.K E mi) (gE X.K E mo) σ H Q);refine⟨ρ,l,S,hl,hs,k.imp λx S1 k ρ1 H1 u l1 s1 r1=>?_⟩;obtain⟨ρ2,l2,S2,xC,wK,k2⟩:=k ρ1 H1 u l1 s1 r1;refine⟨ρ2,l2,S2,xC,wK,k2.imp λy S3 k2 ρ3 H3 v l3 s3 r3=>?_⟩;obtain⟨ρ4,S4,x4,y4,d,S5,s4,r4,r5,hm,k4⟩:=k2 ρ3 H3 v l3 s3 r3;unfold OZ at hm;split at hm
 ·rename_i o' hd
  cases hm;obtain⟨a,o2,rfl,g,g1,g2⟩:=XO s4 r5 r4 hd;refine⟨a,o2,rfl,g,?_⟩
  have:o2.isSome=o'.isSome:=by
   cases o' with
   | none=>rw[g1 rfl];rfl
   | some d=>obtain⟨w',rfl,_⟩:=g2 d rfl;rfl
  rw[this];exact k4 ρ4 H3 _ .refl s4 (.bl _)
 ·cases hm
theorem rm(hu:X.A.units+1 < Ey)(hi:GE X E i mi)(ho:GE X E o mo)(h1:Co .In o=false:=by rfl):GE X E (.Compare i [.In] [o] pos) (m2 (OZ false) mi mo):=(qZ (gt hu hi ho) h1).imp λ_ _ _ h=>bA h
theorem iK{K}{m}{σ}{H}{Q}(h:gT K E (mB m) σ H Q):gE K E m σ H λx H1=>∃c,x=.bl c/\Q c H1:=by
 obtain⟨ρ,l,S,hl,hs,hm⟩:=h;refine⟨ρ,l,S,hl,hs,hm.seq λd S1 hm ρ1 H1 x l1 s1 r1=>?_⟩
 cases d <;> first | exact hm.elim | skip
 cases r1;exact⟨_,rfl,hm ρ1 H1 l1 s1⟩
theorem rY(hu:X.A.units+1 < Ey)(hi:GE X E i mi)(ho:GE X E o mo)(h1:Co .In o=false:=by rfl):GT X E (.Compare i [.In] [o] pos) (mB (m2 (OZ false) mi mo)):=(gc (gt hu hi ho) h1).imp λ_ _ _ h=>bA (iK h)
theorem dc(hu:X.A.units+1 < Ey)(hi:GE X E i mi)(ho:GE X E o mo)(h1:Co .NotIn o=false:=by rfl):GT X E (.Compare i [.NotIn] [o] pos) (mB (m2 (OZ true) mi mo)):=(gc (dJ hu hi ho) h1).imp λ_ _ _ h=>Zb (iK h)
def JF:ME:=λ_ S=>.ok (.ref S.length) (S++[.dK []])
def W7:ME:=λ_ S=>.ok (.ref S.length) (S++[.dT []])
theorem Ld:GE X E (.Dict [] [] pos) JF:=(gr (X:=X) (pos:=pos)).imp λσ H Q ⟨ρ,l,S,hl,hs,k⟩ p hp=>by
 obtain⟨s2,l2,at2⟩:=hs.alloc (ho:=.dK []) (o:=.dK []) hp ⟨[],B2,.nil⟩;exact k _ _ _ l2 s2 (.ref at2)
theorem Yl:GE X E (.Dict [] [] pos) W7:=(gq (X:=X) (pos:=pos)).imp λσ H Q ⟨ρ,l,S,hl,hs,k⟩ p hp=>by
 obtain⟨s2,l2,at2⟩:=hs.alloc (ho:=.dT []) (o:=.dT []) hp ⟨[],B2,.nil⟩;exact k _ _ _ l2 s2 (.ref at2)
def R7(x y v:D)(S:Sto):Option Sto:=match x with
 | .ref n=>match S[n]? with
  | some (.dK f')=>match iV y with
   | some k=>if f'.length < sizeLine then some (S.set n (.dK (CJ f' k v)))else none
   | none=>none
  | some (.dT f')=>match y with
   | .tup ds=>match On ds with
    | some ks=>if f'.length < sizeLine then some (S.set n (.dT (CJ f' ks v)))else none
    | none=>none
   | _=>none
  | _=>none
 | _=>none
def DE(mo mi mv:ME):MS:=λe S=>(mv e S).lift e λv S1=>(mo e S1).lift e λx S2=>(mi e S2).lift e λy S3=>match R7 x y v S3 with
 | some S4=>.ok (.nx e) S4
 | none=>.bad
theorem Hg(hu:X.A.units+1 < Ey)(ho:GE X E o mo)(hi:GE X E i mi)(hv:GE X E value mv)(hs:HE value (some (.Subscript o i pos')) pos.line X.env=pure false:=by rfl):GS X E (.Assign [.Subscript o i pos'] value pos) (DE mo mi mv):=(lJ hu ho hi hv hs).imp λD σ H ⟨ρ,l,S,hl,hs,hm⟩=>by
 refine⟨ρ,l,S,hl,hs,hm.lift hl .refl λv S1 hm ρ1 H1 vv l1 s1 r1=>⟨ρ1,l,S1,hl.mono l1,s1,(hm.later l1).lift (hl.mono l1) l1 λx S2 hm ρ2 H2 xv l2 s2 r2=>⟨ρ2,l,S2,hl.mono (l1.trans l2),s2,(hm.later l2).lift (hl.mono (l1.trans l2)) (l1.trans l2) λy S3 hm ρ3 H3 yv l3 s3 r3=>?_⟩⟩⟩;have r1':=r1.mono (l2.trans l3);have r2':=r2.mono l3;have hl3:=hl.mono (l1.trans (l2.trans l3));split at hm
 ·rename_i S4 hp
  unfold R7 at hp;split at hp
  ·rename_i n
   cases r2' with
   | @ref _ a hn=>
    split at hp
    ·rename_i f' h4
     split at hp
     ·rename_i ky hk
      split at hp
      ·rename_i hz
       cases hp;obtain⟨w6,e,r⟩:=s3.ob n _ _ h4 hn;rw[SO r3 hk];have le:Le X.K ρ3 H3 ρ3 (upd H3 a (.dK (M5 w6 ky vv))):=Le.write hn (by rw[e];trivial);obtain⟨s5,l5⟩:=s3.write (ho:=.dK (M5 w6 ky vv)) (o:=.dK (CJ f' ky v)) hn ⟨_,B2,(KVR.put ky r1' r).mono le⟩ le;exact⟨a,_,rfl,Y1.k e (by rw[<-KVR.length r];exact hz),hm ρ3 _ σ (l1.trans (l2.trans (l3.trans l5))) s5 (hl3.mono l5)⟩
      ·cases hp
     ·cases hp
    ·rename_i f' h4
     split at hp
     ·rename_i ds
      split at hp
      ·rename_i ks hk
       split at hp
       ·rename_i hz
        cases hp;obtain⟨w6,e,r⟩:=s3.ob n _ _ h4 hn
        cases r3 with
        | tup b1 b2=>
         rw[P4 b2 hk]at b1;have le:Le X.K ρ3 H3 ρ3 (upd H3 a (.dT (M5 w6 ks vv))):=Le.write hn (by rw[e];trivial);obtain⟨s5,l5⟩:=s3.write (ho:=.dT (M5 w6 ks vv)) (o:=.dT (CJ f' ks v)) hn ⟨_,B2,(KVR.put ks r1' r).mono le⟩ le;exact⟨a,_,rfl,Y1.t e b1 (by rw[<-KVR.length r];exact hz),hm ρ3 _ σ (l1.trans (l2.trans (l3.trans l5))) s5 (hl3.mono l5)⟩
       ·cases hp
      ·cases hp
     ·cases hp
    ·cases hp
  ·cases hp
 ·exact hm.elim
end
section
variable{X:Cx}{E:EW}{a b c:Expr}{pos:Pos}
theorem cf{K}{f g}{σ}{H}{Q}(h:gE K E (m3 f g ma mb mc) σ H Q):fq (rD K f) (rD K g) (gE K E ma) (gE K E mb) (gE K E mc) σ H Q:=by
 obtain⟨ρ,l,S,hl,hs,hm⟩:=h;refine⟨ρ,l,S,hl,hs,hm.seq λx S1 hm ρ1 H1 u l1 s1 r1=>⟨ρ1,l,S1,hl.mono l1,s1,(hm.later l1).seq λy S2 hm ρ2 H2 v l2 s2 r2=>?_⟩⟩
 cases hf:f x y S2 with
 | bad=>rw[hf]at hm;exact hm.elim
 | err _ _=>rw[hf]at hm;exact hm.elim
 | ok z S3=>
  rw[hf]at hm;dsimp only[okR,Res.bind]at hm;refine⟨ρ2,S2,x,y,z,S3,s2,r1.mono l2,r2,hf,λρ3 H3 w l3 s3 r3=>?_⟩
  cases z with
  | bl k=>
   cases r3;refine⟨k,rfl,?_⟩
   cases k with
   | true=>
    rw[qX rfl];refine⟨ρ3,l,S3,hl.mono (l1.trans (l2.trans l3)),s3,Cb.seq (hm.later (l2.trans l3)) λw S4 hm ρ4 H4 wv l4 s4 r4=>?_⟩;obtain⟨d,S',e,k⟩:=hm.okR;exact⟨ρ4,S4,y,w,d,S',s4,r2.mono (l3.trans l4),r4,e,λρ' H' z l' s' r'=>k ρ' H' z (l1.trans (l2.trans (l3.trans (l4.trans l')))) s' r'⟩
   | false=>rw[qY AK];exact hm ρ3 H3 _ (l1.trans (l2.trans l3)) s3 (.bl false)
  | _=>exact hm.elim
theorem UM(ho:OpR X (Bu op) (rD X.K f))(xO:OpR X (Bu op') (rD X.K g))(ha:GE X E a ma)(hb:GE X E b mb)(hc:GE X E c mc)
  (hm:lastMarks [op,op'] [b,c]=false:=by with_unfolding_all rfl):GT X E (.Compare a [op,op'] [b,c] pos) (mB (m3 f g ma mb mc)):=(gd ho xO ha hb hc hm).imp λ_ _ _ h=>cf (iK h)
def iJ(m:ME):ME:=λe S=>(m e S).bind λd S1=>match d with
 | .int i=>.ok (.int (-i)) S1
 | _=>.bad
theorem io(h:GE X E a ma):GE X E (.UnaryOp .USub a pos) (iJ ma):=(uY pU h).imp λσ H Q ⟨ρ,l,S,hl,hs,hm⟩=>by
 refine⟨ρ,l,S,hl,hs,hm.seq λd S1 hm ρ1 H1 x l1 s1 r1=>?_⟩
 cases d <;> first | exact hm.elim | skip
 cases r1;exact⟨_,rfl,hm ρ1 H1 _ l1 s1 (.int _)⟩
end
abbrev MO:=Lo->Sto->Res (Option Int)
def gO(K:AG)(E:EW)(m:MO):TO:=λσ H Q=>∃ρ e S,G0 K ρ H e σ/\CY K ρ S H/\Cb K (λc=>E c σ) ρ H (m e S) λo S'=>∀ρ' H',Le K ρ H ρ' H'->CY K ρ' S' H'->Q o H'
abbrev GO(X:Cx)(E:EW)(e:Option Expr)(m:MO):Prop:=PO X e (gO X.K E m)
def bM:MO:=λ_ S=>.ok none S
def Tw(m:ME):MO:=λe S=>(m e S).bind λd S1=>match d with
 | .int i=>.ok (some i) S1
 | _=>.bad
def Ip{α:Type}(xs:List α)(lo hi:Option Int):List α:=(xs.drop (HT.sIx xs.length 0 lo)).take (HT.sIx xs.length xs.length hi - HT.sIx xs.length 0 lo)
def e8(n:Nat)(lo hi:Option Int):Bool:=decide (HT.sIx n 0 lo=0/\HT.sIx n n hi=n)
def Wo(d:D)(lo hi:Option Int)(S:Sto):Res D:=match d with
 | .tup ds=>if e8 ds.length lo hi=true then .bad else .ok (.tup (Ip ds lo hi)) S
 | _=>match UE d S with
  | some ds=>.ok (.ref S.length) (S++[.lst (Ip ds lo hi)])
  | none=>.bad
def O8(m:ME)(ml mh:MO):ME:=λe S=>(m e S).bind λd S1=>(ml e S1).bind λlo S2=>(mh e S2).bind λhi S3=>okR (Wo d lo hi S3)
section
variable{X:Cx}{E:EW}{e:Expr}{lo hi:Option Expr}{pos p2:Pos}{m:ME}{ml mh:MO}
theorem PO.imp(h:PO X o t)(i:∀σ H Q,t' σ H Q->t σ H Q):PO X o t':=λζ s σ H Q I q=>h ζ s σ H Q I (i σ H Q q)
theorem bg:GO X E none bM:=PO.imp lP λσ H Q ⟨ρ,l,S,hl,hs,hm⟩=>hm ρ H .refl hs
theorem SV(h:GE X E e m):GO X E (some e) (Tw m):=PO.imp (lO h) λσ H Q ⟨ρ,l,S,hl,hs,hm⟩=>by
 refine⟨ρ,l,S,hl,hs,hm.seq λd S1 hm ρ1 H1 x l1 s1 r1=>?_⟩
 cases d <;> first | exact hm.elim | skip
 cases r1;exact⟨_,rfl,hm ρ1 H1 l1 s1⟩
theorem UX{K}{ρ}{H}{ds}{vs}(r:Az K ρ H ds vs)(lo hi:Option Int):Az K ρ H (Ip ds lo hi) (R8 vs lo hi):=by
 unfold Ip R8;rw[r.length];exact(r.drop _).take _
theorem Yk(he:GE X E e m)(hl:GO X E lo ml)(hu:GO X E hi mh):GE X E (.Subscript e (.Slice lo hi none p2) pos) (O8 m ml mh):=(YS (ko.or gJ) he hl hu).imp λσ H Q ⟨ρ,l,S,hl,hs,hm⟩=>by
 refine⟨ρ,l,S,hl,hs,hm.seq λd S1 hm ρ1 H1 x l1 s1 r1=>⟨ρ1,l,S1,hl.mono l1,s1,(hm.later l1).seq λlo S2 hm ρ2 H2 l2 s2=>⟨ρ2,l,S2,hl.mono (l1.trans l2),s2,(hm.later l2).seq λhi S3 hm ρ3 H3 l3 s3=>?_⟩⟩⟩;obtain⟨d',S',e,k⟩:=hm.okR;have r3:=r1.mono (l2.trans l3)
 have lst:∀ds,UE d S3=some ds->Res.ok (.ref S3.length) (S3++[.lst (Ip ds lo hi)])=Res.ok d' S'->uO X.K x lo hi H3 Q:=λds hq e=>by
  cases e;obtain⟨p,xs,rfl,rr,sq⟩:=OR s3 r3 hq;refine⟨p,xs,rfl,sq,λq hq=>?_⟩;have le:Le X.K ρ3 H3 (ρ3++[q]) (upd H3 q (.lst (R8 xs lo hi))):=Le.alloc hq;obtain⟨s4,l4,at4⟩:=s3.alloc (ho:=.lst (R8 xs lo hi)) (o:=.lst (Ip ds lo hi)) hq ⟨_,B2,(UX rr lo hi).mono le⟩;exact k _ _ _ (l1.trans (l2.trans (l3.trans l4))) s4 (.ref at4)
 cases d with
 | tup ds=>
  unfold Wo at e;dsimp only at e;split at e
  ·cases e
  ·rename_i hw
   cases e
   cases r3 with
   | @tup _ a vs h1 h2=>
    refine .inr ⟨a,vs,rfl,.inl (.inl h1),λz=>hw ?_,λq hq=>?_⟩
    ·unfold e8
     rw[h2.length];exact wX z
    ·obtain⟨s4,l4⟩:=IY (ho:=.tup (R8 vs lo hi)) s3 hq
     exact k _ _ _ (l1.trans (l2.trans (l3.trans l4))) s4 (.tup B2 ((UX h2 lo hi).mono l4))
 | non=>cases e
 | bl _=>cases e
 | int _=>cases e
 | str _=>cases e
 | exc _=>cases e
 | fro ds=>exact .inl (lst ds rfl e)
 | ref n=>
  unfold Wo at e;dsimp only at e;split at e
  ·rename_i ds hq
   exact .inl (lst ds hq e)
  ·cases e
end
section
variable{X:Cx}{E:EW}{e:Expr}{p pos:Pos}{m:ME}
def Gf(m:ME):ME:=λe S=>(m e S).bind λd S1=>match HG d S1 with
 | some ds=>.ok (.tup ds) S1
 | none=>.bad
theorem Gx(hg:Gl X "tuple") (hm:X.mg "tuple" = none) (h:GE X E e m) (he:Ad [e] X.env=(false,Cj e X.env) :: Ad [] X.env:=by rfl):GE X E (.Call (.Name "tuple" p) [e] [] pos) (Gf m):=
 (Vk VQ hg hm vg (Ie h Kx he) (by decide) (by decide) he rfl).imp λσ H Q ⟨ρ,l,S,hl,hs,hm⟩=>by
 refine⟨ρ,l,S,hl,hs,hm.seq λd S1 hm ρ1 H1 x l1 s1 r1=>?_⟩
 cases hq:HG d S1 with
 | none=>rw[hq]at hm;exact hm.elim
 | some ds=>
  rw[hq]at hm
  have Υ:∀a vs,x=.ref a->SqL X.K H1 a vs->Az X.K ρ1 H1 ds vs->∃p ys,[x]=[.ref p]/\((SqL X.K H1 p ys/\∀l,H1 l=none->Q (.ref l) (upd H1 l (.tup ys)))∨(SqT X.K H1 p ys/\Q (.ref p) H1)):=λa vs e sq rr=>by
   subst e;refine⟨a,vs,rfl,.inl ⟨sq,λq hq=>?_⟩⟩;obtain⟨s2,l2⟩:=IY (ho:=.tup vs) s1 hq;exact hm _ _ _ (l1.trans l2) s2 (.tup B2 (rr.mono l2))
  cases r1 with
  | @tup _ a vs h1 h2=>cases hq;exact⟨a,vs,rfl,.inr ⟨.inl (.inl h1),hm ρ1 H1 _ l1 s1 (.tup h1 h2)⟩⟩
  | @fro _ a vs h1 h2=>cases hq;exact Υ a vs rfl h1.sq h2
  | @ref n a hn=>
   obtain⟨o,ho,ro⟩:=s1.there hn;unfold HG at hq;simp only[ho]at hq
   cases o with
   | lst es=>cases hq;obtain⟨vs,e,rr⟩:=ro;exact Υ a vs rfl (.inl (.inl e)) rr
   | _=>cases hq
  | _=>cases hq
variable{o:Expr}
def atL(d:D)(S:Sto):Option (Nat×List D):=match d with
 | .ref n=>match S[n]? with
  | some (.lst xs)=>some (n,xs)
  | _=>none
 | _=>none
theorem jT{K}{ρ}{S}{H}{d}{x}{n}{xs}(s:CY K ρ S H)(r:CH K ρ H d x)(h:atL d S=some (n,xs)):d=.ref n/\S[n]?=some (.lst xs)/\∃a vs,x=.ref a/\ρ[n]?=some a/\H a=some (.lst vs)/\Az K ρ H xs vs:=by
 unfold atL at h;split at h
 ·split at h
  ·rename_i ds hd
   cases h;exact⟨rfl,hd,bD s r hd⟩
  ·cases h
 ·cases h
theorem lE{K}{ρ}{S}{H}{n}{a}{vs ws}{ys}(s:CY K ρ S H)(hn:ρ[n]?=some a)(e:H a=some (.lst vs))(r:Az K ρ H ys ws) :
  CY K ρ (S.set n (.lst ys)) (upd H a (.lst ws))/\Le K ρ H ρ (upd H a (.lst ws)):=by
 have le:Le K ρ H ρ (upd H a (.lst ws)):=Le.write hn (by rw[e];trivial);exact s.write (ho:=.lst ws) (o:=.lst ys) hn ⟨_,B2,r.mono le⟩ le
end
section
variable{X:Cx}
theorem range_getD{α:Type}(d:α)(bs:List α):(DD bs.length).map (λi=>bs.getD i d)=bs:=by
 apply Hz
 intro i;rw[AZ]
 by_cases h:i < bs.length
 ·rw[DT h]
  simp[List.getD,h]
 ·rw[Cp.mpr (by simpa using h),Cp.mpr (by simpa using h)]
  rfl
theorem kY{bs:List Bool}{tx:List AI}(r:Bv (bs.map V.bl) tx){i:Nat}{v:AI}(h:tx.toArray[i]?=some v):v=.bool (bs.getD i false):=by
 have h':tx[i]?=some v:=by simpa using h
 obtain⟨hi,e⟩:=AD.mp h'
 have hb:i < bs.length:=by have:=r.length;simp at this;lia
 obtain⟨u,hu,ru⟩:=r.get (show(bs.map V.bl)[i]?=some (V.bl bs[i]) by simp[hb]);rw[h']at hu;cases hu;rw[show v=PV bs[i]from ru];simp[List.getD,hb]
def ga(K:AG)(f:List Bool->Bool):List V->Hp->VK->Prop:=λxs H Q=>∃p bs,xs=[.ref p]/\(SqL K H p (bs.map V.bl)∨SqT K H p (bs.map V.bl))/\Q (.bl (f bs)) H
theorem aM{ζ:List (AW×Obj)}{s:AQ}{σ:St}{H:Hp}{p:AW}{bs:List Bool}{R:AI->AQ->Prop}{E:AI->AQ->Prop}(hc:X.calm=true)(I:Inv X ζ σ H s)(hq:SqL X.K H p (bs.map V.bl)∨SqT X.K H p (bs.map V.bl))
  (h:∀itv s2,(∃I fp wr n P St tr,itv=BY I/\Walks X.prog X.w X.A.in1 I fp wr n P St/\St 0 s2.heap/\TruthOf X.prog X.w X.A.in1 P tr/\(DD n).map tr=bs /\
   ∀(h':Cz) (tk:Nat),(∀b o,¬b∈wr->s2.heap.get? b=some o->h'.get? b=some o)->Inv X ζ σ H { s2 with heap:=h',toks:=tk })->R itv s2) :
  Ag (Ap X.prog X.w) X.A.in1 (ZC (.ref p)) R E s:=by
 have hh:X.A.in1.handled=none:=I.ok.hd hc
 have fin:∀(tx:List AI),Bv (bs.map V.bl) tx->(DD tx.toArray.size).map (λi=>bs.getD i false)=bs:=λtx r=>by
  have:tx.toArray.size=bs.length:=by have:=r.length;simp at this;simpa using this.symm
  rw[this,range_getD]
 have tru:∀(tx:List AI),Bv (bs.map V.bl) tx->TruthOf X.prog X.w X.A.in1 (λi v=>tx.toArray[i]?=some v) (λi=>bs.getD i false):=λtx r i v s Q E hv q=>by
  rw[kY r hv];exact DZ q
 have kp:∀(ob:Obj) (h':Cz) (tk:Nat),(∀b o,¬b∈[s.heap.objs.size]->(s.heap.push ob).get? b=some o->h'.get? b=some o)->Inv X ζ σ H { s with heap:=h',toks:=tk }:=λob h' tk k=>
  I.kept λb o e=>k b o (by simpa using BE (Ac e)) (AJ _ e)
 rcases hq with hq | hq
 ·obtain⟨tx,r',pl,hz⟩:=I.list hq
  refine Uj pl.isList (h _ _ ⟨s.heap.objs.size,_,_,_,_,_,_,rfl,tP hh _ p (BE (Ac pl.isList.choose_spec.1)) tx.toArray,⟨⟨_,Aa _ rfl,rfl,rfl⟩,?_⟩,tru tx r',fin tx r',kp _⟩)
  exact pl.isList.at λo e=>AJ _ e
 ·obtain⟨tx,r',pl,hz⟩:=I.tuple hq
  have pt:s.heap.IsTuple p tx.toArray:=pl;refine DJ pt (h _ _ ⟨s.heap.objs.size,_,_,_,_,_,_,rfl,sk hh _ p (BE pl.lt) tx.toArray,⟨⟨_,Aa _ rfl,rfl,rfl⟩,?_⟩,tru tx r',fin tx r',kp _⟩);obtain⟨o,e,c⟩:=pt;exact⟨o,AJ _ e,c⟩
theorem eD(hc:X.calm=true):Kl X (.builtin "all") (ga X.K λbs=>bs.all id):=by
 intro ζ s σ H xs us Q I r h;obtain⟨p,bs,rfl,hq,q⟩:=h;obtain⟨u,rfl,rx⟩:=vals1 r;cases rx;refine call_all_walk (aM hc I hq λitv s2 ⟨J,fp,wr,n,P,St,tr,e,W,st,tru,eb,kp⟩=>⟨J,fp,wr,n,P,St,tr,e,W,st,tru,λh' tk k=>⟨.bl _,H,kp h' tk k,rfl,?_⟩⟩);rw[<-eb]at q;dsimp only at q;rw[Y7]at q;exact q
def aN:List D->Option (List Bool)
 | []=>some []
 | .bl b :: ds=>(aN ds).map (b :: ·)
 | _ :: _=>none
theorem b8{K}{ρ}{H}:∀{ds:List D} {vs:List V} {bs:List Bool},Az K ρ H ds vs->aN ds=some bs->vs=bs.map V.bl
 | _,_,_,.nil,h=>by cases h;rfl
 | .bl b :: ds,_,bs,.cons r t,h=>by
  unfold aN at h
  cases hq:aN ds with
  | none=>rw[hq]at h;cases h
  | some cs=>rw[hq]at h;cases h;cases r;rw[b8 t hq];rfl
 | .non :: _,_,_,.cons r t,h=>by cases h
 | .int _ :: _,_,_,.cons r t,h=>by cases h
 | .str _ :: _,_,_,.cons r t,h=>by cases h
 | .tup _ :: _,_,_,.cons r t,h=>by cases h
 | .fro _ :: _,_,_,.cons r t,h=>by cases h
 | .ref _ :: _,_,_,.cons r t,h=>by cases h
 | .exc _ :: _,_,_,.cons r t,h=>by cases h
def nH(f:List Bool->Bool)(ds:List D)(S:Sto):Res D:=match aN ds with
 | some bs=>.ok (.bl (f bs)) S
 | none=>.bad
theorem gK:nS X.K (ga X.K f) (nH f):=λρ H S ds q xs d S' Q hs rr sq hm k=>by
 unfold nH at hm;split at hm
 ·rename_i bs hb
  cases hm;rw[b8 rr hb]at sq;exact⟨q,bs,rfl,sq,k ρ H _ .refl hs (.bl _)⟩
 ·cases hm
abbrev jW:=nH λbs=>bs.all id
def Wl:List Int->Int:=λns=>Sa (λi=>ns.getD i 0) ns.length
theorem MK:∀(n:Nat),(∀i,i < n->f i=g i)->Sa f n=Sa g n
 | 0,_=>rfl
 | n+1,h=>by
  show Sa f n+f n=Sa g n+g n;rw[MK n λi hi=>h i (by lia),h n (by lia)]
theorem RS(x:Int)(f:Nat->Int):∀n:Nat,Sa (λi=>match i with | 0=>x | j+1=>f j) (n+1)=x+Sa f n
 | 0=>by show(0:Int)+x=x+0;lia
 | n+1=>by
  show Sa _ (n+1)+f n=x+(Sa f n+f n);rw[RS x f n]
  lia
theorem Wj:∀ns:List Int,Wl ns=ns.sum
 | []=>rfl
 | n :: ns=>by
  have:=Wj ns;unfold Wl at this ⊢;rw[List.sum_cons,<-this,Av,<-RS]
  refine MK _ λi hi=>?_
  cases i <;> simp
theorem VP{ns:List Int}{tx:List AI}(r:Bv (ns.map V.int) tx):∃xs:Array (Int×Tok),tx.toArray=intItems xs/\xs.size=ns.length/\∀i,i < ns.length->numAt xs i=ns.getD i 0:=by
 induction ns generalizing tx with
 | nil=>
  cases r;exact⟨#[],by simp[intItems],rfl,λi hi=>zX hi (by simp)⟩
 | cons n ns ih=>
  cases r with
  | cons r1 r2=>
   obtain⟨xs,e1,e2,e3⟩:=ih r2;obtain⟨t,rfl⟩:=r1;refine⟨#[(n,t)]++xs,?_,by simp[e2];lia,λi hi=>?_⟩
   ·unfold intItems at e1 ⊢
    rw[Array.map_append,<-e1];simp
   ·cases i with
    | zero=>
     unfold numAt;rw[Array.getElem?_append_left (by simp)];simp
    | succ i=>
     have:=e3 i (by simpa using hi);unfold numAt at this ⊢;rw[Array.getElem?_append_right (by simp)];simpa using this
def uR(K:AG)(f:List Int->Int):List V->Hp->VK->Prop:=λxs H Q=>∃p ns,xs=[.ref p]/\SqL K H p (ns.map V.int)/\Q (.int (f ns)) H
theorem dw(hc:X.calm=true):Kl X (.builtin "sum") (uR X.K Wl):=by
 intro ζ s σ H xs us Q I r h;obtain⟨p,ns,rfl,hq,q⟩:=h;obtain⟨u,rfl,rx⟩:=vals1 r;cases rx;obtain⟨tx,r',pl,hz⟩:=I.list hq;obtain⟨xs,e1,e2,e3⟩:=VP r'
 refine sum_intListG (xs:=xs) (I.ok.hd hc) (by rw[<-e1];exact pl.isList) λh' tk t' kp=>⟨.int _,H,I.kept kp,⟨t',rfl⟩,?_⟩
 rw[e2,MK _ e3];exact q
def JL:List D->Option (List Int)
 | []=>some []
 | .int b :: ds=>(JL ds).map (b :: ·)
 | _ :: _=>none
theorem Nr:∀{ds:List D} {ns:List Int},JL ds=some ns->ds=ns.map D.int
 | [],_,h=>by cases h;rfl
 | .int b :: ds,ns,h=>by
  unfold JL at h
  cases hq:JL ds with
  | none=>rw[hq]at h;cases h
  | some cs=>rw[hq]at h;cases h;rw[Nr hq];rfl
 | .non :: _,_,h=>by cases h
 | .bl _ :: _,_,h=>by cases h
 | .str _ :: _,_,h=>by cases h
 | .tup _ :: _,_,h=>by cases h
 | .fro _ :: _,_,h=>by cases h
 | .ref _ :: _,_,h=>by cases h
 | .exc _ :: _,_,h=>by cases h
def mM(m:ME):ME:=λe S=>(m e S).bind λd S1=>match UE d S1 with
 | some ds=>match JL ds with
  | some ns=>.ok (.int (Wl ns)) S1
  | none=>.bad
 | none=>.bad
theorem rl(hc:X.calm=true)(hg:Gl X "sum") (hm:X.mg "sum" = none) (h:GE X E e m) (he:Ad [e] X.env=(false,Cj e X.env) :: Ad [] X.env:=by rfl):GE X E (.Call (.Name "sum" p) [e] [] pos) (mM m):=
 (Nd (dw hc) hg hm vh (Ie h Kx he) (by decide) (by decide) he rfl).imp λσ H Q ⟨ρ,l,S,hl,hs,hm⟩=>by
 refine⟨ρ,l,S,hl,hs,hm.seq λd S1 hm ρ1 H1 x l1 s1 r1=>?_⟩
 cases hq:UE d S1 with
 | none=>rw[hq]at hm;exact hm.elim
 | some ds=>
  rw[hq]at hm;dsimp only at hm
  cases hi:JL ds with
  | none=>rw[hi]at hm;exact hm.elim
  | some ns=>
   rw[hi]at hm;obtain⟨p,xs,rfl,rr,sq⟩:=OR s1 r1 hq;rw[Nr hi]at rr;rw[rr.ints]at sq;exact⟨p,ns,rfl,sq,hm ρ1 H1 _ l1 s1 (.int _)⟩
end
def Ky{α:Type}(r r':Res α):Res α:=match r with
 | .bad=>r'
 | r=>r
theorem dM{α:Type}(r r':Res α):Ky r r'=r∨Ky r r'=r':=by cases r <;> simp[Ky]
def op2(f g:D->D->Sto->Res D):D->D->Sto->Res D:=λx y S=>Ky (f x y S) (g x y S)
theorem bV(f g:D->D->Sto->Res D)(ma mb:ME)(l:Lo)(S:Sto):m2 (op2 f g) ma mb l S=m2 f ma mb l S∨m2 (op2 f g) ma mb l S=m2 g ma mb l S:=by
 unfold m2
 cases ma l S with
 | ok x S1=>
  dsimp only[Res.bind]
  cases mb l S1 with
  | ok y S2=>
   dsimp only[Res.bind];unfold op2
   rcases dM (f x y S2) (g x y S2)with e | e <;> rw[e] <;> simp
  | err c S2=>exact .inl rfl
  | bad=>exact .inl rfl
 | err c S1=>exact .inl rfl
 | bad=>exact .inl rfl
section
theorem iq{m m1 m2}(h1:GE X E e m1)(h2:GE X E e m2)(h:∀l S,m l S=m1 l S∨m l S=m2 l S):GE X E e m:=λζ s σ H Q I ⟨ρ,l,S,hl,hs,a⟩=>by
 rcases h l S with q | q
 ·rw[q]at a;exact h1 ζ s σ H Q I ⟨ρ,l,S,hl,hs,a⟩
 ·rw[q]at a;exact h2 ζ s σ H Q I ⟨ρ,l,S,hl,hs,a⟩
theorem ii(h1:GT X E e t1)(h2:GT X E e t2)(h:∀l S,t l S=t1 l S∨t l S=t2 l S):GT X E e t:=λζ s σ H Q I ⟨ρ,l,S,hl,hs,a⟩=>by
 rcases h l S with q | q
 ·rw[q]at a;exact h1 ζ s σ H Q I ⟨ρ,l,S,hl,hs,a⟩
 ·rw[q]at a;exact h2 ζ s σ H Q I ⟨ρ,l,S,hl,hs,a⟩
theorem rk(h1:GI X E tg e t1)(h2:GI X E tg e t2)(h:∀l S,t l S=t1 l S∨t l S=t2 l S):GI X E tg e t:=λζ s σ H R I ⟨ρ,l,S,hl,hs,a⟩=>by
 rcases h l S with q | q
 ·rw[q]at a;exact h1 ζ s σ H R I ⟨ρ,l,S,hl,hs,a⟩
 ·rw[q]at a;exact h2 ζ s σ H R I ⟨ρ,l,S,hl,hs,a⟩
theorem oQ{m m1 m2}(h:∀l S,m l S=m1 l S∨m l S=m2 l S)(l:Lo)(S:Sto):mB m l S=mB m1 l S∨mB m l S=mB m2 l S:=by
 unfold mB
 rcases h l S with q | q <;> rw[q] <;> simp
abbrev inA(neg:Bool):=op2 (inD neg) (OZ neg)
theorem vH(hu:X.A.units+64 < Ey)(hi:GE X E i mi)(ho:GE X E o mo)(h1:Co .In o=false:=by with_unfolding_all rfl):GE X E (.Compare i [.In] [o] pos) (m2 (inA false) mi mo):=
 iq (K9 (oJ hu) hi ho h1) (rm (by lia) hi ho h1) λ_ _=>bV _ _ _ _ _ _
theorem oX(hu:X.A.units+64 < Ey)(hi:GE X E i mi)(ho:GE X E o mo)(h1:Co .In o=false:=by with_unfolding_all rfl):GT X E (.Compare i [.In] [o] pos) (mB (m2 (inA false) mi mo)):=
 ii (FM (oJ hu) hi ho h1) (rY (by lia) hi ho h1) (oQ λ_ _=>bV _ _ _ _ _ _)
theorem Gw(hu:X.A.units+64 < Ey)(hi:GE X E i mi)(ho:GE X E o mo)(h1:Co .NotIn o=false:=by with_unfolding_all rfl):GT X E (.Compare i [.NotIn] [o] pos) (mB (m2 (inA true) mi mo)):=
 ii (FM (g8 hu) hi ho h1) (dc (by lia) hi ho h1) (oQ λ_ _=>bV _ _ _ _ _ _)
abbrev ixA:=op2 ixD UV
theorem EO(hu:X.A.units+64 < Ey)(ho:GE X E o mo)(hi:GE X E i mi)(hs:Xb i:=by intro _ _;rfl):GE X E (.Subscript o i pos) (m2 ixA mo mi):=
 iq (vG ui ho hi hs) (mf (by lia) ho hi hs) λ_ _=>bV _ _ _ _ _ _
def FT(d:D):SA:=match d with
 | .tup ds=>Gu ds
 | d=>RO d
def D0(m:ME):MI:=λe S=>(m e S).bind λd S1=>match FT d S1 with
 | some _=>.ok (FT d) S1
 | none=>.bad
theorem Cu(h:GE X E e m):GI X E tg e (D0 m):=rk (rj h) (rh h) λl S=>by
 unfold D0 vA oV
 cases m l S with
 | ok d S1=>
  dsimp only[Res.bind]
  cases d <;> first | exact .inl rfl | exact .inr rfl
 | err c S1=>exact .inl rfl
 | bad=>exact .inl rfl
def Qv(m:ME):ME:=λe S=>(m e S).bind λd S1=>match HG d S1 with
 | some ds=>.ok (.int ds.length) S1
 | none=>.bad
theorem Q3(hg:Gl X "len") (hm:X.mg "len" = none) (h:GE X E e m) (he:Ad [e] X.env=(false,Cj e X.env) :: Ad [] X.env:=by rfl):GE X E (.Call (.Name "len" p) [e] [] pos) (Qv m):=
 (XH XU p9 hg hm PySem.boot_len (ij h) (by decide) (by decide) he).imp λσ H Q ⟨ρ,l,S,hl,hs,a⟩=>⟨ρ,l,S,hl,hs,by
  have q:mQ ux (Rz m) l S=Qv m l S:=by
   unfold mQ Rz Qv
   cases m l S with
   | ok d S1=>
    dsimp only[Res.bind]
    cases HG d S1 <;> rfl
   | err c S1=>rfl
   | bad=>rfl
  rw[q];exact a⟩
theorem mZ(hc:X.calm=true)(hg:Gl X "min") (hm:X.mg "min" = none) (h:GA X E [a,b] ml) (he:Ad [a,b] X.env=(false,Cj a X.env) :: Ad [b] X.env:=by rfl) (wD:(EB pos (Ad [b] X.env)).any (·.1)=false:=by rfl):GE X E (.Call (.Name "min" p) [a,b] [] pos) (mQ Vp ml):=
 bi (eA hc) nP hg hm Sg h (by decide) (by decide) he wD
theorem md(hc:X.calm=true)(hg:Gl X "max") (hm:X.mg "max" = none) (h:GA X E [a,b] ml) (he:Ad [a,b] X.env=(false,Cj a X.env) :: Ad [b] X.env:=by rfl) (wD:(EB pos (Ad [b] X.env)).any (·.1)=false:=by rfl):GE X E (.Call (.Name "max" p) [a,b] [] pos) (mQ Vr ml):=
 bi (eB hc) nQ hg hm vn h (by decide) (by decide) he wD
theorem ir(hc:X.calm=true)(hg:Gl X "all") (hm:X.mg "all" = none) (h:GE X E e m) (he:Ad [e] X.env=(false,Cj e X.env) :: Ad [] X.env:=by rfl):GE X E (.Call (.Name "all" p) [e] [] pos) (mQ jW (Rz m)):=
 XH (eD hc) gK hg hm vt (ij h) (by decide) (by decide) he
end
def kF(sc:Uq)(x:Str):Bool:=decide (sc.names.lookup x=some .local)||decide (sc.names.lookup x=some .cell)||decide (sc.names.lookup x=some .free)
def jI(X:Cx)(scope:Uq)(own N':List Str):Bool:=
 decide (scope.kind=.function)&&scope.names.all (λy=>!decide (y.2=.local)||decide (scope.names.lookup y.1=some .local)) &&
 scope.names.all (λy=>!decide (y.2=.free)||decide (X.env.kindOf y.1=some .cell)||decide (X.env.kindOf y.1=some .free))&&decide (N'.length=own.length+X.N.length) &&
 ((N'.drop own.length).zip X.N).all (λp=>!kF (LK scope X.env) p.1||(decide (p.1=p.2)&&kF X.env.scope p.1&&(decide ((LK scope X.env).names.lookup p.1=some .cell)||decide ((LK scope X.env).names.lookup p.1=some .free))&&!decide (X.env.kindOf p.1=some .local)&&!scope.names.any (λz=>decide (z=(p.1,DI)))&&scope.names.any (λz=>decide (z=(p.1,Gk))))) &&
 (LK scope X.env).names.all (λy=>(!decide (y.2=.cell)&&!decide (y.2=.free))||scope.names.any (λz=>decide (z=(y.1,Gk)))||scope.names.any (λz=>decide (z=(y.1,DI))))
theorem X0:kF sc x=true↔Vis sc x:=by
 unfold kF Vis;simp[or_assoc]
theorem D7(h:jI X scope own N'=true):PK X scope own N':=by
 unfold jI at h;simp only[CU]at h;obtain⟨⟨⟨⟨⟨h1,h3⟩,h4⟩,h5⟩,h6⟩,h7⟩:=h;rw[Iu]at h3 h4 h6 h7;refine⟨of_decide_eq_true h1,λy hy e=>?_,λy hy e=>?_,of_decide_eq_true h5,λi x e v=>?_,λx hx=>?_⟩
 ·have:=h3 y hy
  simpa[e]using this
 ·have:=h4 y hy
  simpa[e]using this
 ·have hlen:=of_decide_eq_true h5
  have hi:own.length+i < N'.length:=(AD.mp e).1
  have hx:i < X.N.length:=by lia
  have hm:(x,X.N[i])∈(N'.drop own.length).zip X.N:=by
   rw[List.mem_iff_getElem?];refine⟨i,?_⟩;rw[List.getElem?_zip_eq_some];exact⟨by rw[QJ];exact e,by simp[hx]⟩
  have:=h6 _ hm;rw[X0.mpr v]at this;simp only[Li,pA,CU,Jc,decide_eq_true_eq,Bool.not_eq_true',decide_eq_false_iff_not]at this;obtain⟨⟨⟨⟨⟨z1,z2⟩,z3⟩,z4⟩,z5⟩,z6⟩:=this;refine⟨⟨by rw[z1];simp[hx],X0.mp z2,z3,z4⟩,λq=>?_,?_⟩
  ·rw[ei]at z5
   exact z5 _ q (wX rfl)
  ·obtain⟨z,hz,e⟩:=Go.mp z6
   rw[of_decide_eq_true e]at hz;exact hz
 ·have key:∀k,(LK scope X.env).names.lookup x=some k->(k=.cell∨k=.free)->(x,Gk)∈scope.names∨(x,DI)∈scope.names:=λk e hk=>by
   have:=h7 _ (D5 e)
   rcases hk with rfl | rfl
   ·simpa using this
   ·simpa using this
  rcases hx with e | e
  ·exact key _ e (.inl rfl)
  ·exact key _ e (.inr rfl)
structure Dfn(K:AG)(mg:Str->Option AI)(x qual:Str)(st:C2)(ps:List Str) where
 f:AW
 fd:Lv
 F:Fun K x qual st f fd
 b:Binds K fd ps []
 m:mg x=some (.ref f)
theorem Dfn.kp{K}{mg}{x qual}{st}{ps}(d:Dfn K mg x qual st ps):Fi K (.ref d.f)=true:=d.F.kp
structure Mtd(K:AG)(x qual:Str)(st:C2)(ps:List Str) where
 f:AW
 fd:Lv
 F:Fun K x qual st f fd
 b:Binds K fd ps []
structure Own(K:AG)(mg:Str->Option AI)(x:Str)(C f:AW):Prop where
 cl:Cls K C
 mk':Mk K C f
 m:mg x=some (.ref C)
abbrev wN:Nat:=1000000
end L2
namespace Srt
open PySem PyProof.Rows
structure Ord(U:Dg->Prop)(lt:Dg->Dg->Bool):Prop where
 asym:∀x y,U x->U y->lt x y=true->lt y x=false
 ntr:∀x y z,U x->U y->U z->lt y x=false->lt z y=false->lt z x=false
theorem Ord.irr(o:Ord U lt)(h:U x):lt x x=false:=by
 cases e:lt x x with
 | false=>rfl
 | true=>exact(o.asym x x h h e).symm.trans e |>.symm▸rfl
def ix(xs:Array Dg)(i:Nat):Dg:=xs.getD i (.none,.none)
theorem LZ(h:xs[i]?=ys[j]?):ix xs i=ix ys j:=by
 unfold ix;rw[Jf,Jf,h]
theorem SQ(h:i < xs.size):xs[i]?=some (ix xs i):=by
 unfold ix;rw[Jf,getElem?_pos xs i h];rfl
theorem dX(hs:src < xs.size)(hd:d<=src)(k:Nat) :
  ix (oq xs src d) k=if k=src - d then ix xs src else if src - d < k/\k<=src then ix xs (k - 1)else ix xs k:=by
 have e:=getElem?_bubble hs d hd k;split
 ·rename_i h;rw[qX h]at e;exact LZ e
 ·rename_i h
  rw[qY h]at e;split
  ·rename_i h2;rw[qX h2]at e;exact LZ e
  ·rename_i h2;rw[qY h2]at e;exact LZ e
theorem Ex(hj:j<=xs.size)(k:Nat) :
  ix (Lq xs i j ((j - i) / 2)) k=if i<=k/\k < j then ix xs (i+j - 1 - k)else ix xs k:=by
 have e:=getElem?_mirror_all (i:=i) hj k;split
 ·rename_i h;rw[qX h]at e;exact LZ e
 ·rename_i h;rw[qY h]at e;exact LZ e
section
def Ug(prog:Bg)(w:CL)(A:CO)(s:AQ)(a₀:Array Dg)(κ:QR)(lt:Dg->Dg->Bool):Prop:=
 ∀x y,x∈a₀->y∈a₀->∀(Q:Bool->AQ->Prop) (E:AI->AQ->Prop),Q (lt x y) s->Ag (Ap prog w) A (keyLt' κ x.1 y.1) Q E s
structure Good(a₀:Array Dg)(κ:QR)(st:Fh):Prop where
 perm:(A0 st).Perm a₀
 kind:kindOf st=κ
 failed:failedOf st=none
theorem Good.size{st:Fh}(g:Good a₀ κ st):(A0 st).size=a₀.size:=g.perm.size_eq
theorem Good.mem{st:Fh}(g:Good a₀ κ st){i:Nat}(h:i < a₀.size):ix (A0 st) i∈a₀:=by
 have h':i < (A0 st).size:=by rw[g.size];exact h
 have e:=SQ h';have:=Array.mem_of_getElem? e;exact GN.mp ((KM.mp g.perm).mem_iff.mp (GN.mpr this))
theorem Good.setArr{st:Fh}(g:Good a₀ κ st){xs:Array Dg}(hp:xs.Perm (A0 st)):Good a₀ κ (setArr st xs):=⟨hp.trans g.perm,g.kind,g.failed⟩
theorem pD{st:Fh}{x y:Dg}{Q:Option Bool->Fh->Prop}(C:Ug prog w A s a₀ κ lt)(g:Good a₀ κ st)(hx:x∈a₀)(hy:y∈a₀)(h:Q (some (lt x y)) st):wpS (Ap prog w) A E s (lt' x y) Q st:=by
 rw[lt'_eq];refine Bx (Y3 ?_);rw[g.kind];refine Bx (wpS_lift (NJ ?_));refine C x y hx hy _ _ ⟨rfl,?_⟩;exact Cw h
theorem QU{st:Fh}{i j:Nat}{Q:Option Bool->Fh->Prop}(C:Ug prog w A s a₀ κ lt)(g:Good a₀ κ st)(hi:i < a₀.size)(hj:j < a₀.size)(h:Q (some (lt (ix (A0 st) i) (ix (A0 st) j))) st) :
  wpS (Ap prog w) A E s (sh i j) Q st:=by
 rw[ltAt'_eq];refine Bx (Y3 ?_);show wpS _ _ _ _ (do let x <-elem' (A0 st) i;let y <-elem' (A0 st) j;lt' x y) Q st;rw[elem'_eq,elem'_eq,SQ (by rw[g.size];exact hi),SQ (by rw[g.size];exact hj)];exact Bx (Cw (Bx (Cw (pD C g (g.mem hi) (g.mem hj) h))))
def Up(lt:Dg->Dg->Bool)(xs:Array Dg)(lo hi:Nat):Prop:=∀i j,lo<=i->i<=j->j < hi->lt (ix xs j) (ix xs i)=false
def Dn(lt:Dg->Dg->Bool)(xs:Array Dg)(lo hi:Nat):Prop:=∀i j,lo<=i->i<=j->j < hi->lt (ix xs i) (ix xs j)=false
def Out(xs ys:Array Dg)(lo hi:Nat):Prop:=∀i,(i < lo∨hi<=i)->ix ys i=ix xs i
theorem Out.refl{xs:Array Dg}{lo hi:Nat}:Out xs xs lo hi:=λ_ _=>rfl
theorem Out.trans{xs ys zs:Array Dg}{lo hi:Nat}(a:Out xs ys lo hi)(b:Out ys zs lo hi):Out xs zs lo hi:=λi h=>(b i h).trans (a i h)
theorem Up.grow{st:Fh}(O:Ord (·∈a₀) lt)(g:Good a₀ κ st){lo hi:Nat}(hs:hi < a₀.size)(u:Up lt (A0 st) lo hi)(h0:lo < hi)(h:lt (ix (A0 st) hi) (ix (A0 st) (hi - 1))=false):Up lt (A0 st) lo (hi+1):=λi j h1 h2 h3=>by
 by_cases hj:j < hi
 ·exact u i j h1 h2 hj
 ·have:j=hi:=by lia
  subst this
  by_cases yY:i=j
  ·subst yY;exact O.irr (g.mem hs)
  ·exact O.ntr _ _ _ (g.mem (by lia)) (g.mem (show j - 1 < _ by omega)) (g.mem hs) (u i (j - 1) h1 (by lia) (by lia)) h
theorem wpS_binarySort{st:Fh}{lo n ok:Nat}{Q:Bool->Fh->Prop}(C:Ug prog w A s a₀ κ lt)(O:Ord (·∈a₀) lt)(hn:lo+n<=a₀.size)(hok:ok<=n)(g:Good a₀ κ st)(u:Up lt (A0 st) lo (lo+ok))
  (h:∀w5,Good a₀ κ w5->Up lt (A0 w5) lo (lo+n)->Out (A0 st) (A0 w5) lo (lo+n)->CN w5=CN st->Q true w5):wpS (Ap prog w) A E s (binarySort' lo n ok) Q st:=by
 rw[binarySort'_eq]
 refine Bx (QM (Iw (I:=λk c w5=>c=(none,())/\Good a₀ κ w5/\Up lt (A0 w5) lo (lo+min k n)/\Out (A0 st) (A0 w5) lo (lo+n)/\CN w5=CN st)
  (Q:=λc w5=>c=(none,())/\Good a₀ κ w5/\Up lt (A0 w5) lo (lo+n)/\Out (A0 st) (A0 w5) lo (lo+n)/\CN w5=CN st) ?step ?fin ?init) ?post)
 case post=>
  rintro c w5 ⟨rfl,g',u',o',p'⟩;exact Cw (h w5 g' u' o' p')
 case init=>
  refine⟨rfl,g,λi j h1 h2 h3=>?_,.refl,rfl⟩
  by_cases h0:ok=0
  ·have:i=j:=by lia
   subst this;exact O.irr (g.mem (by omega))
  ·exact u i j h1 h2 (by lia)
 case fin=>
  rintro c w5 ⟨hc,g',u',o',p'⟩;refine⟨hc,g',?_,o',p'⟩;rwa [show min (max (max ok 1) n) n=n by lia]at u'
 case step=>
  rintro k c wB hak hkn ⟨rfl,g1,u1,o1,p1⟩;rw[show min k n=k by lia]at u1
  have hk:lo+k < a₀.size:=by lia
  refine Bx (QM (Iw (I:=λx c wa=>wa=wB/\∃l r,c=(none,l,r)/\l<=r/\r<=k/\r - l<=k - x /\
    (∀i,i < l->lt (ix (A0 wB) (lo+k)) (ix (A0 wB) (lo+i))=false)/\(∀i,r<=i->i < k->lt (ix (A0 wB) (lo+k)) (ix (A0 wB) (lo+i))=true))
   (Q:=λc wa=>wa=wB/\∃l r,c=(none,l,r)/\l<=k /\
    (∀i,i < l->lt (ix (A0 wB) (lo+k)) (ix (A0 wB) (lo+i))=false)/\(∀i,l<=i->i < k->lt (ix (A0 wB) (lo+k)) (ix (A0 wB) (lo+i))=true)) ?istep ?ifin ?iinit) ?ipost)
  case iinit=>exact⟨rfl,0,k,rfl,by lia,by lia,by lia,λi hi=>by lia,λi h1 h2=>by lia⟩
  case ifin=>
   rintro c wa ⟨rfl,l,r,rfl,hlr,hrk,hm,zp,hhi⟩
   have:l=r:=by lia
   subst this;exact⟨rfl,l,l,rfl,hrk,zp,hhi⟩
  case istep=>
   rintro x c wa _ hxk ⟨rfl,l,r,rfl,hlr,hrk,hm,zp,hhi⟩;dsimp only
   by_cases hge:l ≥ r
   ·rw[qX hge]
    have:l=r:=by lia
    subst this;exact Cw ⟨rfl,l,l,rfl,hrk,zp,hhi⟩
   ·rw[qY hge]
    refine Bx (QU C g1 hk (by lia) ?_)
    cases hless:lt (ix (A0 wa) (lo+k)) (ix (A0 wa) (lo+(l+r) / 2))with
    | true=>
     refine Cw ⟨rfl,l,(l+r) / 2,rfl,by lia,by lia,by omega,zp,λi h1 h2=>?_⟩
     cases e:lt (ix (A0 wa) (lo+k)) (ix (A0 wa) (lo+i))with
     | true=>rfl
     | false=>
      have:=O.ntr _ _ _ (g1.mem (show lo+(l+r) / 2 < _ by lia)) (g1.mem (show lo+i < _ by lia)) (g1.mem hk) (u1 (lo+(l+r) / 2) (lo+i) (by lia) (by lia) (by lia)) e;rw[hless]at this;cases this
    | false=>
     refine Cw ⟨rfl,(l+r) / 2+1,r,rfl,by lia,by omega,by omega,λi h1=>?_,hhi⟩;exact O.ntr _ _ _ (g1.mem (show lo+i < _ by lia)) (g1.mem (show lo+(l+r) / 2 < _ by lia)) (g1.mem hk) (u1 (lo+i) (lo+(l+r) / 2) (by lia) (by lia) (by lia)) hless
  case ipost=>
   rintro c wa ⟨rfl,l,r,rfl,hlk,zp,hhi⟩;show wpS _ _ _ _ (do moveDown' (lo+k) (lo+l);pure (Ii (none,()))) _ _;rw[moveDown'_eq]
   have hks:lo+k < (A0 wa).size:=by rw[g1.size];exact hk
   have e:∀i,ix (oq (A0 wa) (lo+k) (lo+k - (lo+l))) i=if i=lo+l then ix (A0 wa) (lo+k)else if lo+l < i/\i<=lo+k then ix (A0 wa) (i - 1)else ix (A0 wa) i:=λi=>by
    rw[dX hks (by lia),show lo+k - (lo+k - (lo+l))=lo+l by lia]
   refine Bx (Lj (Cw ⟨rfl,g1.setArr (bubble_perm _ _ _),?_,o1.trans λi hi=>?_,p1⟩))
   ·rw[show min (k+1) n=k+1 by lia]
    intro i j h1 h2 h3;show lt (ix (oq (A0 wa) (lo+k) (lo+k - (lo+l))) j) (ix (oq (A0 wa) (lo+k) (lo+k - (lo+l))) i)=false;rw[e,e]
    repeat' split
    all_goals first
     | (exfalso;lia)
     | exact O.irr (g1.mem hk)
     | (have q:=zp (i - lo) (by lia);rw[show lo+(i - lo)=i by lia]at q;exact q)
     | (have q:=hhi (j - 1 - lo) (by omega) (by omega);rw[show lo+(j - 1 - lo)=j - 1 by lia]at q;exact O.asym _ _ (g1.mem hk) (g1.mem (by lia)) q)
     | exact u1 _ _ (by omega) (by omega) (by lia)
   ·show ix (oq (A0 wa) (lo+k) (lo+k - (lo+l))) i=ix (A0 wa) i
    rw[e,qY (by lia),qY (by lia)]
end
section
theorem Xy{σ:Type}{M:Model}{r:String}{Q:PUnit->σ->Prop}{st:σ}(h:Q ⟨⟩ st):wpS M A E s (liftM (rule r):StateT σ Sem PUnit) Q st:=wpS_lift (ZB ⟨rfl,h⟩)
theorem Dn.flip{xs:Array Dg}{lo hi:Nat}(hs:hi<=xs.size)(d:Dn lt xs lo hi):Up lt (Lq xs lo hi ((hi - lo) / 2)) lo hi:=λi j h1 h2 h3=>by
 rw[Ex hs,Ex hs,qX (by lia),qX (by lia)];exact d _ _ (by omega) (by omega) (by omega)
theorem Dn.part{xs:Array Dg}{lo hi m:Nat}(hs:hi<=xs.size)(hm:lo<=m)(hmh:m<=hi)(d:Dn lt xs lo hi)(e:Up lt xs m hi):Dn lt (Lq xs m hi ((hi - m) / 2)) lo hi:=λi j h1 h2 h3=>by
 rw[Ex hs,Ex hs]
 by_cases yY:m<=i
 ·rw[qX (by lia),qX (by lia)]
  exact e _ _ (by omega) (by omega) (by omega)
 ·rw[qY (by lia)]
  split
  ·exact d _ _ (by omega) (by lia) (by omega)
  ·exact d _ _ (by omega) (by omega) (by omega)
theorem MP{xs:Array Dg}{i j lo hi:Nat}(hj:j<=xs.size)(h1:lo<=i)(h2:j<=hi):Out xs (Lq xs i j ((j - i) / 2)) lo hi:=λk hk=>by
 rw[Ex hj,qY (by lia)]
theorem Dn.grow{st:Fh}(O:Ord (·∈a₀) lt)(g:Good a₀ κ st){lo hi:Nat}(hs:hi < a₀.size)(u:Dn lt (A0 st) lo hi)(h0:lo < hi)(h:lt (ix (A0 st) (hi - 1)) (ix (A0 st) hi)=false):Dn lt (A0 st) lo (hi+1):=λi j h1 h2 h3=>by
 by_cases hj:j < hi
 ·exact u i j h1 h2 hj
 ·have:j=hi:=by lia
  subst this
  by_cases yY:i=j
  ·subst yY;exact O.irr (g.mem hs)
  ·exact O.ntr _ _ _ (g.mem hs) (g.mem (show j - 1 < _ by omega)) (g.mem (by lia)) h (u i (j - 1) h1 (by lia) (by lia))
theorem ZU(O:Ord (·∈a₀) lt){st:Fh}(g:Good a₀ κ st){lo:Nat}(h:lo < a₀.size):Up lt (A0 st) lo (lo+1):=λi j h1 h2 h3=>by
 have e1:i=lo:=by lia
 have e2:j=lo:=by lia
 rw[e1,e2];exact O.irr (g.mem h)
theorem jz{st:Fh}{lo wb n:Nat}{Q:Option Nat->Fh->Prop}(C:Ug prog w A s a₀ κ lt)(O:Ord (·∈a₀) lt)(h1:1<=n)(h2:n<=wb)(hn:lo+wb<=a₀.size)(g:Good a₀ κ st)(u:Up lt (A0 st) lo (lo+n))
  (h:∀n,1<=n->n<=wb->Up lt (A0 st) lo (lo+n)->Q (some n) st):wpS (Ap prog w) A E s (do
   let mut n:=n
   for _ in [n:wb] do
    let some wt <-sh (lo+n) (lo+n - 1) | return none
    if wt then break
    n:=n+1
   return some n) Q st:=by
 refine Bx (QM (Iw (I:=λx c w5=>w5=st/\c=(none,x)/\Up lt (A0 st) lo (lo+x))
  (Q:=λc w5=>w5=st/\∃n,c=(none,n)/\1<=n/\n<=wb/\Up lt (A0 st) lo (lo+n)) ?step ?fin ⟨rfl,rfl,u⟩) ?post)
 case fin=>
  rintro c w5 ⟨rfl,rfl,u⟩
  have e:max n wb=wb:=by lia
  rw[e]at u ⊢;exact⟨rfl,wb,rfl,by lia,AO _,u⟩
 case step=>
  rintro x c w5 hx1 hx2 ⟨rfl,rfl,u⟩;dsimp only;refine Bx (QU C g (by lia) (by lia) ?_)
  cases hq:lt (ix (A0 w5) (lo+x)) (ix (A0 w5) (lo+x - 1))with
  | true=>exact Cw ⟨rfl,x,rfl,by lia,by lia,u⟩
  | false=>exact Cw ⟨rfl,rfl,Up.grow (hi:=lo+x) O g (by lia) u (by lia) hq⟩
 case post=>
  rintro c w5 ⟨rfl,n,rfl,Φ,xu,u⟩;exact Cw (h n Φ xu u)
theorem wpS_countRun{st}{lo wb}{Q}(C:Ug prog w A s a₀ κ lt)(O:Ord (·∈a₀) lt)(h1:1<=wb)(hn:lo+wb<=a₀.size)(g:Good a₀ κ st)
  (h:∀w5 n,Good a₀ κ w5->1<=n->n<=wb->Up lt (A0 w5) lo (lo+n)->Out (A0 st) (A0 w5) lo (lo+wb)->CN w5=CN st->Q (some n) w5):wpS (Ap prog w) A E s (countRun' lo wb) Q st:=by
 rw[countRun'_eq]
 refine Bx (QM (Iw (I:=λx c w5=>w5=st/\c=(none,x)/\Up lt (A0 st) lo (lo+x))
  (Q:=λc w5=>w5=st/\∃n,c=(none,n)/\1<=n/\n<=wb/\Up lt (A0 st) lo (lo+n)/\(n=wb∨lt (ix (A0 st) (lo+n)) (ix (A0 st) (lo+n - 1))=true)) ?step ?fin ?init) ?post)
 case init=>
  refine⟨rfl,rfl,λi j a1 a2 a3=>?_⟩
  have:i=j:=by lia
  subst this;exact O.irr (g.mem (by lia))
 case fin=>
  rintro c w5 ⟨rfl,rfl,u⟩
  have e:max 1 wb=wb:=by lia
  rw[e]at u ⊢;exact⟨rfl,wb,rfl,h1,AO _,u,.inl rfl⟩
 case step=>
  rintro x c w5 hx1 hx2 ⟨rfl,rfl,u⟩;dsimp only;refine Bx (QU C g (by lia) (by lia) ?_)
  cases hq:lt (ix (A0 w5) (lo+x)) (ix (A0 w5) (lo+x - 1))with
  | true=>exact Cw ⟨rfl,x,rfl,hx1,by lia,u,.inr hq⟩
  | false=>exact Cw ⟨rfl,rfl,Up.grow (hi:=lo+x) O g (by lia) u (by lia) hq⟩
 case post=>
  rintro c w5 ⟨rfl,n,rfl,Φ,xu,u,hd⟩;dsimp only
  by_cases hnn:n=wb
  ·rw[qX (by simpa using hnn)]
   exact Cw (h w5 n g Φ xu u .refl rfl)
  ·rw[qY (by simpa using hnn)]
   have y9:=hd.resolve_left hnn
   have desc:∀(wB:Fh),Good a₀ κ wB->Dn lt (A0 wB) lo (lo+(n+1))->Out (A0 w5) (A0 wB) lo (lo+wb)->CN wB=CN w5 ->
     wpS (Ap prog w) A E s (do
      liftM (rule "list.sort.descending-run")
      let mut n:=n+1
      let mut neq:=0
      for _ in [n:wb] do
       let some wt <-sh (lo+n) (lo+n - 1) | return none
       if wt then
        if neq > 0 then SC (lo+n - (neq+1)) (lo+n)
        neq:=0
       else
        let some zw <-sh (lo+n - 1) (lo+n) | return none
        if zw then break
        neq:=neq+1
       n:=n+1
      if neq > 0 then SC (lo+n - (neq+1)) (lo+n)
      SC lo (lo+n)
      for _ in [n:wb] do
       let some wt <-sh (lo+n) (lo+n - 1) | return none
       if wt then break
       n:=n+1
      return some n) Q wB:=by
    intro wB g1 d1 o1 p1;refine Bx (Xy ?_)
    refine Bx (QM (Iw (I:=λx c wa=>Good a₀ κ wa/\∃q,c=(none,x,q)/\q+1<=x/\Dn lt (A0 wa) lo (lo+x)/\Up lt (A0 wa) (lo+x - (q+1)) (lo+x)/\Out (A0 w5) (A0 wa) lo (lo+wb)/\CN wa=CN w5)
     (Q:=λc wa=>Good a₀ κ wa/\∃n q,c=(none,n,q)/\n<=wb/\q+1<=n/\Dn lt (A0 wa) lo (lo+n)/\Up lt (A0 wa) (lo+n - (q+1)) (lo+n)/\Out (A0 w5) (A0 wa) lo (lo+wb)/\CN wa=CN w5) ?dstep ?dfin ?dinit) ?dpost)
    case dinit=>
     refine⟨g1,0,rfl,by lia,d1,?_,o1,p1⟩;have:=ZU O g1 (lo:=lo+n) (by lia);rwa [show lo+(n+1) - (0+1)=lo+n by lia,show lo+(n+1)=lo+n+1 by lia]
    case dfin=>
     rintro c wa ⟨g2,q,rfl,hq,d2,u2,o2,p2⟩
     have e:max (n+1) wb=wb:=by lia
     rw[e]at d2 u2 hq ⊢;exact⟨g2,wb,q,rfl,AO _,hq,d2,u2,o2,p2⟩
    case dstep=>
     rintro x c wa hx1 hx2 ⟨g2,q,rfl,hq,d2,u2,o2,p2⟩;dsimp only;refine Bx (QU C g2 (by lia) (by lia) ?_)
     cases hs:lt (ix (A0 wa) (lo+x)) (ix (A0 wa) (lo+x - 1))with
     | true=>
      dsimp only;rw[qX rfl];have wo:=O.asym _ _ (g2.mem (show lo+x < _ by lia)) (g2.mem (show lo+x - 1 < _ by lia)) hs
      by_cases zy:q > 0
      ·rw[qX zy,OT]
       have hsz:lo+x<=(A0 wa).size:=by rw[g2.size];lia
       have g3:Good a₀ κ (setArr wa (Lq (A0 wa) (lo+x - (q+1)) (lo+x) ((lo+x - (lo+x - (q+1))) / 2))):=g2.setArr (Xg _ _ _ _);have d3:=Dn.part (lt:=lt) (lo:=lo) hsz (show lo<=lo+x - (q+1) by lia) (by omega) d2 u2;refine Bx (Lj (Cw ⟨g3,0,rfl,by lia,?_,?_,o2.trans (MP hsz (by lia) (by lia)),p2⟩))
       ·refine Dn.grow (hi:=lo+x) O g3 (by lia) d3 (by lia) ?_
        show lt (ix (Lq (A0 wa) (lo+x - (q+1)) (lo+x) ((lo+x - (lo+x - (q+1))) / 2)) (lo+x - 1)) (ix (Lq (A0 wa) (lo+x - (q+1)) (lo+x) ((lo+x - (lo+x - (q+1))) / 2)) (lo+x))=false;rw[Ex hsz,Ex hsz,qX (by omega),qY (by lia)];exact O.ntr _ _ _ (g2.mem (by lia)) (g2.mem (show lo+x - 1 < _ by lia)) (g2.mem (by omega)) wo (d2 _ _ (by lia) (by omega) (by lia))
       ·have:=ZU O g3 (lo:=lo+x) (by lia)
        rwa [show lo+(x+1) - (0+1)=lo+x by lia,show lo+(x+1)=lo+x+1 by lia]
      ·rw[qY zy]
       refine Cw ⟨g2,0,rfl,by lia,Dn.grow (hi:=lo+x) O g2 (by lia) d2 (by lia) wo,?_,o2,p2⟩;have:=ZU O g2 (lo:=lo+x) (by lia);rwa [show lo+(x+1) - (0+1)=lo+x by lia,show lo+(x+1)=lo+x+1 by lia]
     | false=>
      dsimp only;rw[qY AK];refine Bx (QU C g2 (by lia) (by lia) ?_)
      cases hl:lt (ix (A0 wa) (lo+x - 1)) (ix (A0 wa) (lo+x))with
      | true=>exact Cw ⟨g2,x,q,rfl,by lia,hq,d2,u2,o2,p2⟩
      | false=>
       refine Cw ⟨g2,q+1,rfl,by lia,Dn.grow (hi:=lo+x) O g2 (by lia) d2 (by lia) hl,?_,o2,p2⟩;rw[show lo+(x+1) - (q+1+1)=lo+x - (q+1) by lia];exact Up.grow (hi:=lo+x) O g2 (by lia) u2 (by omega) hs
    case dpost=>
     rintro c wa ⟨g2,m,q,rfl,hm,hq,d2,u2,o2,p2⟩;dsimp only
     have hsz:lo+m<=(A0 wa).size:=by rw[g2.size];lia
     have last:∀xB,Good a₀ κ xB->Dn lt (A0 xB) lo (lo+m)->Out (A0 w5) (A0 xB) lo (lo+wb)->CN xB=CN w5->∀(R:StateT Fh Sem (Option Nat)),R=(do
        let mut n:=m
        for _ in [n:wb] do
         let some wt <-sh (lo+n) (lo+n - 1) | return none
         if wt then break
         n:=n+1
        return some n)->wpS (Ap prog w) A E s (do SC lo (lo+m);R) Q xB:=by
      rintro xB g3 d3 o3 p3 R rfl
      have Χ:lo+m<=(A0 xB).size:=by rw[g3.size];lia
      rw[OT];refine Bx (Lj ?_);have g4:Good a₀ κ (setArr xB (Lq (A0 xB) lo (lo+m) ((lo+m - lo) / 2))):=g3.setArr (Xg _ _ _ _)
      exact jz C O (by lia) hm hn g4 (Dn.flip Χ d3) λk k1 k2 k3=>h _ k g4 k1 k2 k3 (o3.trans (MP Χ (by lia) (by lia))) p3
     by_cases zy:q > 0
     ·rw[qX zy,OT]
      refine Bx (Lj ?_);exact last _ (g2.setArr (Xg _ _ _ _)) (Dn.part hsz (by lia) (by omega) d2 u2) (o2.trans (MP hsz (by lia) (by lia))) p2 _ rfl
     ·rw[qY zy]
      exact last _ g2 d2 o2 p2 _ rfl
   have wo:=O.asym _ _ (g.mem (show lo+n < _ by lia)) (g.mem (show lo+n - 1 < _ by omega)) y9
   by_cases Κ:n > 1
   ·rw[qX Κ]
    refine Bx (QU C g (by lia) (by omega) ?_)
    cases hr:lt (ix (A0 w5) lo) (ix (A0 w5) (lo+n - 1))with
    | true=>exact Cw (h w5 n g Φ xu u .refl rfl)
    | false=>
     dsimp only;rw[qY AK,OT]
     have hsz:lo+n<=(A0 w5).size:=by rw[g.size];lia
     have g1:Good a₀ κ (setArr w5 (Lq (A0 w5) lo (lo+n) ((lo+n - lo) / 2))):=g.setArr (Xg _ _ _ _)
     have al:∀i j,lo<=i->i < lo+n->lo<=j->j < lo+n->lt (ix (A0 w5) i) (ix (A0 w5) j)=false:=λi j i1 i2 j1 j2=>by
      have q1:=u j (lo+n - 1) (by omega) (by lia) (by omega);have q2:=u lo i (by lia) (by omega) (by omega);exact O.ntr _ _ _ (g.mem (by lia)) (g.mem (show lo < _ by lia)) (g.mem (by lia)) (O.ntr _ _ _ (g.mem (by lia)) (g.mem (show lo+n - 1 < _ by lia)) (g.mem (by lia)) q1 hr) q2
     refine Bx (Lj ?_);refine desc _ g1 ?_ (MP hsz (by lia) (by lia)) rfl;refine Dn.grow (hi:=lo+n) O g1 (by lia) (λi j a1 a2 a3=>?_) (by lia) ?_
     ·show lt (ix (Lq (A0 w5) lo (lo+n) ((lo+n - lo) / 2)) i) (ix (Lq (A0 w5) lo (lo+n) ((lo+n - lo) / 2)) j)=false
      rw[Ex hsz,Ex hsz,qX (by lia),qX (by lia)];exact al _ _ (by omega) (by omega) (by omega) (by omega)
     ·show lt (ix (Lq (A0 w5) lo (lo+n) ((lo+n - lo) / 2)) (lo+n - 1)) (ix (Lq (A0 w5) lo (lo+n) ((lo+n - lo) / 2)) (lo+n))=false
      rw[Ex hsz,Ex hsz,qX (by omega),qY (by lia),show lo+(lo+n) - 1 - (lo+n - 1)=lo by omega];exact O.ntr _ _ _ (g.mem (by lia)) (g.mem (show lo+n - 1 < _ by lia)) (g.mem (by lia)) wo hr
   ·rw[qY Κ]
    have e:n=1:=by lia
    subst e;refine desc _ g (Dn.grow (hi:=lo+1) O g (by lia) (λi j a1 a2 a3=>?_) (by lia) wo) .refl rfl
    have e1:i=lo:=by lia
    have e2:j=lo:=by lia
    rw[e1,e2];exact O.irr (g.mem (by lia))
end
theorem m6(a:Array Dg)(i:Nat):(a.extract i a.size).toList=a.toList.drop i:=by
 simp[List.extract];exact Hw (by simp)
section
variable{lt:Dg->Dg->Bool}
abbrev Rl(lt:Dg->Dg->Bool)(x y:Dg):Prop:=lt y x=false
end
theorem rH{a:Array Dg}{lo hi i:Nat}(h:hi<=a.size)(yY:i < hi - lo):ix (a.extract lo hi) i=ix a (lo+i):=by
 apply LZ
 rw[Array.getElem?_extract];simp
 lia
section
variable{lt:Dg->Dg->Bool}
theorem t6{a:Array Dg}{lo hi:Nat}(h:hi<=a.size)(u:Up lt a lo hi):(a.extract lo hi).toList.Pairwise (Rl lt):=by
 rw[WI];intro i j yY hj hij;simp at yY hj
 have e:∀k (hk:k < (a.extract lo hi).toList.length),(a.extract lo hi).toList[k]=ix a (lo+k):=λk hk=>by
  have wI:k < (a.extract lo hi).size:=by rw[CD]at hk;exact hk
  have:=SQ wI;rw[getElem?_pos (a.extract lo hi) k wI]at this
  have hs:(a.extract lo hi).size=hi - lo:=by simp;lia
  rw[<-rH h (by lia)];simpa using this
 rw[e,e];exact u _ _ (by lia) (by lia) (by omega)
end
section
variable{prog:Bg}{w:CL}{A:CO}{E:AI->AQ->Prop}{s:AQ}{a₀:Array Dg}{κ:QR}{lt:Dg->Dg->Bool}
theorem Uu{st:Fh}{Q:Unit->Fh->Prop}(Ψ:a₀.size < 64)(h1:1<=a₀.size)(C:Ug prog w A s a₀ κ lt)(O:Ord (·∈a₀) lt)(g:Good a₀ κ st)(hp:CN st = #[])
  (h:∀w5,Good a₀ κ w5->Up lt (A0 w5) 0 a₀.size->Q () w5):wpS (Ap prog w) A E s sortRuns' Q st:=by
 rw[sortRuns'_eq];refine Bx (Y3 ?_);dsimp only;rw[g.size]
 have hmr:minRun' a₀.size a₀.size 0=a₀.size:=by
  obtain⟨f,hf⟩:∃f,a₀.size=f+1:=⟨a₀.size - 1,by omega⟩
  have:minRun' (f+1) a₀.size 0=a₀.size:=by rw[minRun'_succ,qX Ψ];rfl
  rwa [<-hf]at this
 rw[hmr]
 refine Bx (QM (Iw (I:=λx c w5=>(x=0/\c=(none,0)/\Good a₀ κ w5/\CN w5 = #[])∨(1<=x/\c=(none,a₀.size)/\Good a₀ κ w5/\Up lt (A0 w5) 0 a₀.size/\(CN w5).size<=1))
  (Q:=λc w5=>c=(none,a₀.size)/\Good a₀ κ w5/\Up lt (A0 w5) 0 a₀.size/\(CN w5).size<=1) ?step ?fin ?init) ?post)
 case init=>exact .inl ⟨rfl,rfl,g,hp⟩
 case fin=>
  rintro c w5 (⟨h0,_⟩ | ⟨_,rfl,g',u',p'⟩)
  ·lia
  ·exact⟨rfl,g',u',p'⟩
 case step=>
  rintro x c wB _ hx (⟨rfl,rfl,g1,p1⟩ | ⟨hx1,rfl,g1,u1,p1⟩)
  ·dsimp only
   rw[qY (by lia)];refine Bx (wpS_countRun C O (by lia) (by lia) g1 λwa n g2 n1 n2 u2 o2 p2=>?_);dsimp only;rw[Rc]at u2
   by_cases hm:n < a₀.size
   ·rw[qX hm]
    refine Bx (Xy ?_);refine Bx (wpS_binarySort C O (by lia) (by lia) g2 (by simpa using u2) λxB g3 u3 o3 p3=>?_);rw[qY (by simp)];refine Bx (Y3 ?_)
    have e3:CN xB = #[]:=by rw[p3,p2,p1]
    rw[e3];dsimp only[tI]
    have em:min (a₀.size - 0) a₀.size=a₀.size:=by lia
    rw[em]at u3 ⊢;refine Bx (Lj (Cw (.inr ⟨by lia,by rw[Rc],⟨g3.perm,g3.kind,g3.failed⟩,by simpa using u3,?_⟩)));show((CN xB).push (0,a₀.size,0)).size<=1;rw[e3];simp
   ·have e:n=a₀.size:=by lia
    subst e;rw[qY hm];refine Bx (Y3 ?_)
    have e3:CN wa = #[]:=by rw[p2,p1]
    rw[e3];dsimp only[tI];refine Bx (Lj (Cw (.inr ⟨by lia,by rw[Rc],⟨g2.perm,g2.kind,g2.failed⟩,u2,?_⟩)));show((CN wa).push (0,a₀.size,0)).size<=1;rw[e3];simp
  ·dsimp only
   rw[qX (AO _)];exact Cw ⟨rfl,g1,u1,p1⟩
 case post=>
  rintro c wB ⟨rfl,g1,u1,p1⟩;dsimp only;refine Bx (QM (Iw (I:=λx c yt=>c=(none,())/\Good a₀ κ yt/\Up lt (A0 yt) 0 a₀.size/\(CN yt).size<=1) (Q:=λc yt=>c=(none,())/\Good a₀ κ yt/\Up lt (A0 yt) 0 a₀.size) ?_ ?_ ⟨rfl,g1,u1,p1⟩) ?_)
  ·rintro x c yt _ _ ⟨rfl,g4,u4,p4⟩
   refine Bx (Y3 ?_);rw[qX p4];exact Cw ⟨rfl,g4,u4⟩
  ·rintro c yt ⟨rfl,g4,u4,_⟩
   exact⟨rfl,g4,u4⟩
  ·rintro c yt ⟨rfl,g4,u4⟩
   exact Cw (h yt g4 u4)
end
def ltL:List Int->List Int->Bool
 | [],[]=>false
 | [],_ :: _=>true
 | _ :: _,[]=>false
 | x :: xs,y :: ys=>if x=y then ltL xs ys else decide (x < y)
theorem UD:∀x y,ltL x y=true->ltL y x=false
 | [],[],h=>by cases h
 | [],_ :: _,_=>rfl
 | _ :: _,[],h=>by cases h
 | x :: xs,y :: ys,h=>by
  unfold ltL at h ⊢
  by_cases e:x=y
  ·rw[qX e]at h;rw[qX e.symm];exact UD xs ys h
  ·rw[qY e]at h;rw[qY (Br e)];simp at h ⊢;lia
theorem W8:∀x y z,ltL y x=false->ltL z y=false->ltL z x=false
 | [],y,[],_,_=>rfl
 | [],[],_ :: _,_,_=>rfl
 | [],_ :: _,_ :: _,_,_=>rfl
 | x :: xs,[],z,h,_=>by cases h
 | _,y :: ys,[],_,h=>by cases h
 | x :: xs,y :: ys,z :: zs,h1,h2=>by
  unfold ltL at h1 h2 ⊢
  by_cases e1:y=x
  ·rw[qX e1]at h1
   subst e1
   by_cases e2:z=y
   ·rw[qX e2]at h2 ⊢
    exact W8 xs ys zs h1 h2
   ·rw[qY e2]at h2 ⊢;exact h2
  ·rw[qY e1]at h1
   by_cases e2:z=y
   ·subst e2;rw[qY e1];exact h1
   ·rw[qY e2]at h2
    by_cases e3:z=x
    ·subst e3;simp at h1 h2;lia
    ·rw[qY e3];simp at h1 h2 ⊢;lia
theorem bW:∀x y,ltL x y=false->ltL y x=false->x=y
 | [],[],_,_=>rfl
 | [],_ :: _,h,_=>by cases h
 | _ :: _,[],_,h=>by cases h
 | x :: xs,y :: ys,h1,h2=>by
  unfold ltL at h1 h2
  by_cases e:x=y
  ·rw[qX e]at h1;rw[qX e.symm]at h2;rw[e,bW xs ys h1 h2]
  ·rw[qY e]at h1;rw[qY (Br e)]at h2;simp at h1 h2;lia
def ltK(f:AI->List Int)(x y:Dg):Bool:=ltL (f x.1) (f y.1)
theorem lj(f:AI->List Int)(U:Dg->Prop):Ord U (ltK f):=⟨λx y _ _ h=>UD _ _ h,λx y z _ _ _ h1 h2=>W8 _ _ _ h1 h2⟩
section
theorem Zq(o:Bool)(h:Q (decide (a < b)) s):Ag (Ap prog w) A (oneLt' o (.int a t) (.int b u)) Q E s:=by
 cases o with
 | true=>exact oneLt_int h
 | false=>
  rw[oneLt'_eq];simp only[Bi,if_false];exact AB (wpAny_lt_int (DZ h))
def aU(s:AQ)(v:AI)(ns:List Int):Prop:=∃a tx,v=.ref a/\s.heap.IsTuple a tx/\D8 tx.toList ns
def vQ(o:Bool):(AI×AI)×Nat->Option Bool×Unit->Sem (ForInStep (Option Bool×Unit)):=λe _=>match e with
 | ((p,q),i)=>eqBool p q >>= λc=>if (!c)=true then oneLt' (o&&i==0) p q >>= λb=>pure (.done (some b,()))else pure (.yield (none,()))
theorem iU(o:Bool)(x y:AI):keyLt' (se o) x y=(KQ x >>= λr=>KQ y >>= λq=>forIn (r.toList.zip q.toList).zipIdx ((none,()):Option Bool×Unit) (vQ o) >>= λz=>match z.1 with
  | some b=>pure b
  | none=>pure (decide (r.size < q.size))):=by kernel_rfl
theorem jK(o:Bool):∀{is js:List AI} {ns ms:List Int} (k:Nat) {Q:Bool->AQ->Prop},D8 is ns->D8 js ms->Q (ltL ns ms) s ->
  Ag (Ap prog w) A (forIn ((is.zip js).zipIdx k) ((none,()):Option Bool×Unit) (vQ o) >>= λz=>match z.1 with
   | some b=>pure b
   | none=>pure (decide (n0+is.length < n0+js.length))) Q E s:=by
 intro is
 induction is with
 | nil=>
  intro js ns ms k Q h1 h2 hq;cases h1;rw[eY,jt,VX];refine AB (AL (AL ?_))
  cases h2 with
  | nil=>simpa[ltL]using hq
  | cons m t h=>simpa[ltL]using hq
 | cons v is ih=>
  intro js ns ms k Q h1 h2 hq
  cases h1 with
  | cons n t h1=>
   cases h2 with
   | nil=>
    rw[HI,jt,VX];refine AB (AL (AL ?_));rw[wY (by rw[Av,D4];lia)];exact hq
   | cons m u h2=>
    rw[FD,List.zipIdx_cons,jw];rw[bind_assoc];unfold ltL at hq;refine AB ?_;refine AB (tL ?_)
    by_cases e:n=m
    ·rw[qX e]at hq
     rw[qY (by simp[e])];refine AL ?_;have:=ih (k+1) h1 h2 hq;simpa[Nat.add_lt_add_iff_left]using this
    ·rw[qY e]at hq
     rw[qX (by simp[e])];refine AB (Zq _ (AL ?_));exact AB (AL (AL hq))
end
section
theorem Qa(h:aU s v ns):∃tx:Array AI,D8 tx.toList ns/\s.TypeIs v "tuple"/\∀(E:AI->AQ->Prop) (Q:Array AI->AQ->Prop),Q tx s->Ag (Ap prog w) A (KQ v) Q E s:=by
 obtain⟨a,tx,rfl,⟨o,ho,hc,n,hd⟩,hi⟩:=h;exact⟨tx,hi,⟨o,ho,hc⟩,λE Q q=>listItems_at ho hd q⟩
theorem nD(o:Bool)(hx:aU s x ns)(hy:aU s y ms)(h:Q (ltL ns ms) s):Ag (Ap prog w) A (keyLt' (se o) x y) Q E s:=by
 obtain⟨r,hr,_,wr⟩:=Qa (prog:=prog) (w:=w) (A:=A) hx;obtain⟨q,hq,_,wq⟩:=Qa (prog:=prog) (w:=w) (A:=A) hy;rw[iU];refine AB (wr E _ (AB (wq E _ ?_)));have:=jK (prog:=prog) (w:=w) (A:=A) (E:=E) (n0:=0) o 0 hr hq h;simp only[Rc,CD]at this;exact this
theorem dj(h:aU s v (n :: ns))(hq:∀t,Q (some (.int n t)) s):Ag (Ap prog w) A (cI v) Q E s:=by
 obtain⟨r,hr,ty,wr⟩:=Qa (prog:=prog) (w:=w) (A:=A) h;refine(AB (Ui ty ?_):Ag _ _ (cI v) Q E s);refine(show Ag (Ap prog w) A (if (GM "tuple" != GM "tuple")=true then _ else _) Q E s from ?_);rw[qY (by simp)];refine AB (wr E _ (AL ?_));generalize hl:r.toList=l at hr
 cases hr with
 | cons _ t h2=>
  have:r[0]?=some (.int n t):=by
   rw[<-ZA,hl];rfl
  rw[this];exact hq t
theorem UO:∀{vs:List AI},(∀v∈vs,∃n ns,aU s v (n :: ns))->∀{Q:List (Option AI)->AQ->Prop},(∀is ns,D8 is ns->is.length=vs.length->Q (is.map some) s)->Ag (Ap prog w) A (vs.mapM cI) Q E s
 | [],_,Q,h=>by
  rw[List.mapM_nil];exact AL (h [] [] .nil rfl)
 | v :: vs,hv,Q,h=>by
  obtain⟨n,ns,hn⟩:=hv v AV;rw[List.mapM_cons];refine AB (dj hn λt=>AB (UO (λv W'=>hv v (AS _ W')) λis ms h1 h2=>AL ?_));exact h (.int n t :: is) (n :: ms) (.cons n t h1) (by rw[Av,h2,Av])
theorem W0(h:D8 is ns)(h0:is≠[]):oneTypeOnly' is.toArray=pure (some (.type "int")):=by
 rw[oneTypeOnly'_eq,ed,mapM_typeOf_ints h];simp only[map_pure,pure_bind]
 cases is with
 | nil=>exact zX rfl h0
 | cons v is=>
  have e0:(ah (λ_=>GM "int") (v :: is)).toArray[0]?=some (GM "int"):=by simp
  have e1:((ah (λ_=>GM "int") (v :: is)).toArray.all λx=>x==GM "int")=true:=by
   simp only[List.all_toArray,Y7,Iu]
   exact λ_ _=>rfl
  rw[e0];simp only[e1,if_true]
theorem iS(hv:∀v∈vs,∃n ns,aU s v (n :: ns))(h0:vs≠[])(h:Q (se true) s):Ag (Ap prog w) A (keyKind' vs.toArray) Q E s:=by
 rw[keyKind'_eq,ed];refine AB ?_;rw[map_eq_pure_bind];refine AB (UO hv λis ns h1 h2=>AL ?_)
 have ya:((is.map some).toArray.all λx=>x.isSome)=true:=by simp
 rw[qX ya];refine AB (ZB ?_)
 have hf:(is.map some).toArray.filterMap id=is.toArray:=by simp
 rw[hf,W0 h1 (by intro e;subst e;cases vs with | nil=>exact h0 rfl | cons=>simp at h2)];refine AB (AL (AL ?_));exact h
end
section
theorem IM(h:x∈ND vs):x.1∈vs/\x.1=x.2:=by
 have:x∈(ND vs).toList:=GN.mpr h;rw[pairsOf_toList]at this;exact⟨(mem_zip_self this).2,(mem_zip_self this).1⟩
theorem dL(vs:List AI):(ND vs).map (·.2)=vs.toArray:=by
 apply Array.ext'
 rw[Lw,pairsOf_toList];simp[List.map_snd_zip]
def Xa(prog:Bg)(w:CL)(A:CO)(s:AQ)(vs:List AI)(f:AI->List Int):Prop:=
 ∃κ:QR,(∀(Q:QR->AQ->Prop) (E:AI->AQ->Prop),Q κ s->Ag (Ap prog w) A (keyKind' vs.toArray) Q E s)/\Ug prog w A s (ND vs) κ (ltK f)
theorem R4{a:AW}{vs:List AI}{n:Nat}{P:Fin->AQ->Prop}{f:AI->List Int}(ho:s.heap.get? a=some (Km "list" vs.toArray n)) (hz:vs.length<=sizeLine) (h63:vs.length < 64)
  (hk:2<=vs.length->∀s':AQ,(∀b o,b≠a->s.heap.get? b=some o->s'.heap.get? b=some o)->Xa prog w A s' vs f)
  (h:∀out:Array AI,out.toList.Perm vs->out.toList.Pairwise (λx y=>ltL (f y) (f x)=false)->P (.done (.ret .none)) { s with heap:=oo s.heap a vs out }) :
  Ag (Ap prog w) A (RM.«list.sort» ⟨[.ref a],[]⟩) P E s:=by
 have ha:a < s.heap.objs.size:=Ac ho
 have hsz:vs.toArray.size=vs.length:=by simp
 obtain⟨e1,ho1⟩:∃e1,(s.heap.update a (Gc λ_=>#[])).get? a=some (Km "list" #[] e1):=⟨_,get?_update_seq ho (λ_=>#[])⟩
 have ho6:(((s.heap.update a (Gc λ_=>#[])).push (Km "tuple" vs.toArray 0)).push (Km "list" #[] 0)).get? a=some (Km "list" #[] e1):=
  AJ _ (AJ _ ho1)
 have old:∀b o,b≠a->s.heap.get? b=some o->(((s.heap.update a (Gc λ_=>#[])).push (Km "tuple" vs.toArray 0)).push (Km "list" #[] 0)).get? b=some o:=λb o hb hg=>
  AJ _ (AJ _ (by rw[cS _ _ _ _ hb];exact hg))
 have fin:∀w5:Fh,(A0 w5).Perm (ND vs)->(A0 w5).toList.Pairwise (Rl (ltK f))->P (.done (.ret .none)) { s with heap:=oo s.heap a vs ((A0 w5).map (·.2)) }:=by
  intro w5 hp hs
  have xS:∀x∈(A0 w5).toList,x.1=x.2:=λx hx=>by
   have:x∈(ND vs).toList:=(KM.mp hp).mem_iff.mp hx;exact(IM (GN.mp this)).2
  refine h _ ?_ ?_
  ·have:=(KM.mp hp).map (·.2)
   rw[<-Lw,<-Lw,dL]at this;simpa using this
  ·rw[Lw,Ca]
   refine hs.imp_of_mem λ{x y} hx hy r=>?_
   rw[<-xS x hx,<-xS y hy];exact r
 have last:∀w5:Fh,(A0 w5).Perm (ND vs)->failedOf w5=none->(A0 w5).toList.Pairwise (Rl (ltK f))->(((A0 w5).map (·.2)).size<=sizeLine+1):=λw5 hp _ _=>by
  rw[Array.size_map,hp.size_eq,Um]
  lia
 rw[list_sort_plain];refine AB (listItems_at ho rfl (AB (cH ho rfl (AB (jj ho1 rfl (AB (wpAny_newTuple (AB (wpAny_newList (E1 ?_)))))) ) (by rw[hsz];exact hz) (ED _))));show Ag (Ap prog w) A _ P E { s with heap:=((s.heap.update a (Gc λ_=>#[])).push (Km "tuple" vs.toArray 0)).push (Km "list" #[] 0) };dsimp only
 by_cases h2:vs.toArray.size < 2
 ·rw[qX h2,qX h2]
  refine AB (AL ?_);rw[StateT.run_pure]
  have hs0:(A0 (Mw ZG (vs.toArray.zip vs.toArray) #[] 7 none)).toList.Pairwise (Rl (ltK f)):=by
   have:(A0 (Mw ZG (vs.toArray.zip vs.toArray) #[] 7 none)).toList.length < 2:=by
    rw[CD];show(ND vs).size < 2;rw[Um];omega
   generalize (A0 (Mw ZG (vs.toArray.zip vs.toArray) #[] 7 none)).toList=l at this
   match l,this with
   | [],_=>exact .nil
   | [x],_=>exact Xq _ _
   | _ :: _ :: _,h=>simp at h;lia
  refine AB (AL (AB (jj ho6 rfl (AB (cH ho6 rfl ?_ (ED _) (last (Mw ZG (vs.toArray.zip vs.toArray) #[] 7 none) (QK _) rfl hs0))))));simp only[bne_self_eq_false,Bi,if_false];exact AL (fin (Mw ZG (vs.toArray.zip vs.toArray) #[] 7 none) (QK _) hs0)
 ·rw[qY h2,qY h2]
  obtain⟨κ,kk,C⟩:=hk (by lia) { s with heap:=((s.heap.update a (Gc λ_=>#[])).push (Km "tuple" vs.toArray 0)).push (Km "list" #[] 0) } old;refine AB (kk _ _ ?_)
  refine AB (Ei (Srt.Uu (a₀:=ND vs) (st:=Mw κ (vs.toArray.zip vs.toArray) #[] 7 none)
   (Q:=λ_ w5=>(A0 w5).Perm (ND vs)/\failedOf w5=none/\(A0 w5).toList.Pairwise (Rl (ltK f))) (by rw[Um];exact h63) (by rw[Um];lia) C (lj f _) ⟨QK _,rfl,rfl⟩ rfl λw5 g u=>⟨g.perm,g.failed,?_⟩) ?_ λ_ _ e=>e)
  ·have:=t6 (a:=A0 w5) (lo:=0) (hi:=(A0 w5).size) (AO _) (by rw[g.size];exact u)
   rwa [m6,List.drop_zero]at this
  rintro⟨⟨⟩,w5⟩ s' ⟨rfl,hp,hf,hs⟩;refine AB (jj ho6 rfl (AB (cH ho6 rfl ?_ (ED _) (last w5 hp hf hs))));rw[hf];simp only[bne_self_eq_false,Bi,if_false];exact AL (fin w5 hp hs)
theorem cn(h:∀v∈vs,aU s v (f v)/\f v≠[])(h0:vs≠[]):Xa prog w A s vs f:=
 ⟨se true,λQ E q=>iS (λv hv=>by
  obtain⟨h1,h2⟩:=h v hv
  cases e:f v with
  | nil=>exact zX e h2
  | cons n ns=>exact⟨n,ns,by rw[<-e];exact h1⟩) h0 q,λx y hx hy Q E q=>nD true (h _ (IM hx).1).1 (h _ (IM hy).1).1 q⟩
def gz(v:AI):List Int:=[numOf v]
theorem cq(h:D8 vs ns)(h2:2<=vs.length):Xa prog w A s vs gz:=by
 refine⟨oneType',λQ E q=>?_,λx y hx hy Q E q=>?_⟩
 ·match vs,h2,h with
  | v :: u :: r,_,h=>rw[keyKind_ints h];exact AL q
 ·obtain⟨n,t,e1⟩:=h.all _ (IM hx).1
  obtain⟨m,u,e2⟩:=h.all _ (IM hy).1;rw[keyLt'_oneType,e1,e2];refine oneLt_int ?_
  have:ltK gz x y=decide (n < m):=by
   unfold ltK gz;rw[e1,e2];show(if n=m then false else decide (n < m))=_;split
   ·rename_i e;simp[e]
   ·rfl
  rw[<-this];exact q
end
def VU(h:Cz)(d:AW)(es:Array RL)(ep:Nat):Prop:=∃o,h.get? d=some o/\o.ExactDict/\o.data=.dict es ep
theorem VU.at'(x:VU h d es ep)(e:∀o,h.get? d=some o->h'.get? d=some o):VU h' d es ep:=let ⟨o,ho,r⟩:=x;⟨o,e _ ho,r⟩
theorem VU.ty{s:AQ}{d:AW}{es:Array RL}{ep:Nat}(x:VU s.heap d es ep):s.TypeIs (.ref d) "dict":=let ⟨o,ho,hc,_⟩:=x;⟨o,ho,hc.1⟩
section
theorem YQ{Q:AI->AQ->Prop}(hd:(d==EA)=false)(hm:VU s.heap d es ep)
  (kq:Q (.ref s.heap.objs.size) { s with heap:=s.heap.push { cls:=.type "dict_keyiterator",data:=.fields #[.ref d,.int 0 0,.int es.size 0,.int ep 0] } }):Ag (Ap prog w) A (ZC (.ref d)) Q E s:=by
 have hT:=hm.ty;obtain⟨o,ho,hc,Ω⟩:=hm;refine wpAny_pyIter_slot hT WF (DP WF hT PySem.F.entry_dict_iter ?_ (PySem.F.args_dict_iter_1 _));unfold RM.«dict.__iter__»;refine AB ?_;unfold wA;refine AB (wpAny_notOrdered_dict hT (show Ag _ _ (pure (BY d)) _ _ s from AL ?_));refine(show Ag _ _ (Ss d >>= _) _ _ s from ?_);unfold Ss;rw[qY (by simp[hd])];refine AB (AL (AB (Uk ho Ω (AB (Xn ho Ω (AB (Cf (AL ⟨_,rfl, "dict_keyiterator",_,⟨_,Aa _ rfl,rfl⟩,C9.lookup,?_⟩))))))));simpa[Ln]using kq
theorem YO(ki:s.heap.IsKeyIter it d i es.size ep)(hm:VU s.heap d es ep)(hi:i < es.size)
  (kq:∀h',h'.IsKeyIter it d (i+1) es.size ep->FE it s.heap h'->Q (some es[i].key) { s with heap:=h' }):Ag (Ap prog w) A (Lp (.ref it)) Q E s:=by
 obtain⟨o,ho,hc,hd⟩:=id ki;obtain⟨od,ε,xP,η⟩:=hm;unfold Lp;refine AB (NJ (Ch (name:=Gp "__next__") ki.typeIs C9 (DP C9 ki.typeIs Od (AB (AL (AB (AB ?_)))) (OV _))))
 first | refine AB (Fb ki.typeIs (AL (AB (QP ho hd ?_)))) | refine AB (Hs ki.typeIs (AL (AB (QP ho hd ?_))))
 simp only[show NI "dict_keyiterator" = false by decide,Bi,if_false];refine(show Ag _ _ (if (BY d==EL)=true then _ else _) _ _ s from ?_);rw[qY (λz:(BY d==EL)=true=>AK z)];refine AB (AL (AB (Uk ε η ?_)));rw[qY (by simp)];refine AB (AL (AB (Xn ε η ?_)));rw[qY (by simp)];refine AL ?_;simp only[show ¬((i:Int) < 0) by lia,if_false,An,Va hi];refine AB ?_
 first | refine AB (Fb ki.typeIs (AL (AB (PU ki.typeIs ?_)))) | refine AB (Hs ki.typeIs (AL (AB (PU ki.typeIs ?_))))
 refine(show Ag _ _ (setField (.ref it) 1 (Ln ((i:Int)+1)) >>= _) _ _ s from ?_);have ki':(s.heap.update it (sy (·.setIfInBounds 1 (Ln ((i:Int)+1))))).IsKeyIter it d (i+1) es.size ep:=⟨_,Fe _ ho (ae (Ko hd _)),(jc ..).trans hc,by rw[Ko hd];simp[Ln]⟩;refine AB (QO ho hd (by simp) (AB (E1 (AB (PU (s:={ s with heap:=s.heap.update it (sy (·.setIfInBounds 1 (Ln ((i:Int)+1)))) }) ki'.typeIs ?_)))));exact(show Ag _ _ (pure es[i].key) _ _ _ from AL (AL ⟨_,rfl,AL (kq _ ki' (IG ..))⟩))
theorem bF(h0:A.handled=none)(ki:s.heap.IsKeyIter it d i es.size ep)(hm:VU s.heap d es ep)(hi:es.size<=i)
  (kq:∀h',Sq it s.heap h'->Q none { s with heap:=h' }):Ag (Ap prog w) A (Lp (.ref it)) Q E s:=by
 obtain⟨o,ho,hc,hd⟩:=id ki;obtain⟨od,ε,xP,η⟩:=hm;unfold Lp;refine AB (NJ (Ch (name:=Gp "__next__") ki.typeIs C9 (DP C9 ki.typeIs Od (AB (AL (AB (AB ?_)))) (OV _))))
 first | refine AB (Fb ki.typeIs (AL (AB (QP ho hd ?_)))) | refine AB (Hs ki.typeIs (AL (AB (QP ho hd ?_))))
 simp only[show NI "dict_keyiterator" = false by decide,Bi,if_false];refine(show Ag _ _ (if (BY d==EL)=true then _ else _) _ _ s from ?_);rw[qY (λz:(BY d==EL)=true=>AK z)];refine AB (AL (AB (Uk ε η ?_)));rw[qY (by simp)];refine AB (AL (AB (Xn ε η ?_)));rw[qY (by simp)];refine AL ?_;simp only[show ¬((i:Int) < 0) by lia,if_false,An,Array.getElem?_eq_none hi];refine AB ?_
 first | refine AB (Fb ki.typeIs (AL (show Ag _ _ (setField (.ref it) 0 .none >>= _) _ _ s from ?_))) | refine AB (Hs ki.typeIs (AL (show Ag _ _ (setField (.ref it) 0 .none >>= _) _ _ s from ?_)))
 refine AB (QO ho hd (by simp) (show Ag _ _ (newExc (.type "StopIteration") [] >>= _) _ _ _ from AB ?_));simp only[newExc,newTuple];refine AB (Cf (AB (m:=QQ _ _) (Xd (a:=EL) (by first | rfl | (simp only[QQ];rfl)) (Cf ?_ (by size_fits)))) (by size_fits));simp only[raiseNew];refine AB (wpAny_handled ?_);rw[show A.in1.handled=none from h0];refine AB (AL (wpAny_throw ?_));refine AB (V9 (T:="StopIteration") (b:=true) ⟨_,Aa _ rfl,rfl⟩ ZF (AL ?_));exact kq _ (((IG ..).extBut.push _).push _)
theorem dF(h0:A.handled=none)(I:AW)(wg:d≠I):Walks prog w A I [I,d] [I] es.size (λi v=>∃h:i < es.size,v=es[i].key) (λi h=>h.IsKeyIter I d i es.size ep/\VU h d es ep) where
 sub:=λx hx=>by simp at hx;simp[hx]
 frame:=λ_ _ _ st keep=>⟨st.1.at λo e=>keep I (by simp) o e,st.2.at' λo e=>keep d (by simp) o e⟩
 item:=λi s Q E hi st kq=>YO st.1 st.2 hi λh' ki' yZ=>kq _ h' s.toks ⟨hi,rfl⟩ ⟨ki',st.2.at' λo e=>yZ.extBut d o wg e⟩ λb o hb e=>yZ.extBut b o (λh=>hb (by simp[h])) e
 done:=λs Q E st kq=>bF h0 st.1 st.2 (AO _) λh' θ=>kq h' s.toks λb o hb e=>θ b o (λh=>hb (by simp[h])) e
 self:=λ_ _ _ _ st kq=>jf st.1 kq
theorem bE(lo:(d==EA)=false):PySem.W.KdlSrc prog w "dict" d d es.size (λi v=>∃h:i < es.size,v=es[i].key) (λh=>VU h d es ep) where
 type:=λ_ hm=>hm.ty
 there:=λ_ hm=>⟨let ⟨_,ho,_⟩:=hm;Ac ho,let ⟨_,ho,_⟩:=hm;Ac ho⟩
 keep:=λ_ _ hm hk=>hm.at' λo e=>hk d (.inl rfl) o e
 notList:=by decide
 notTuple:=by decide
 hint:=λ_ _ _ _ hm hq=>PySem.W.kdl_hint_dict hm.ty hq
 iter:=λ_ _ h0 hm=>⟨_,_,(λ_ _ hq=>YQ lo hm hq),dF h0 _ (BE (let ⟨_,ho,_⟩:=hm;Ac ho)),⟨⟨_,Aa _ rfl,rfl,rfl⟩,hm.at' λo e=>AJ _ e⟩⟩
end
end Srt
namespace L2
open PySem PySem.Spec PyProof.Rows
open Srt (ltL)
theorem YT{α β:Type}{R:α->β->Prop}{l2 l2':List β}(p:l2.Perm l2'):∀{l1:List α},G3 R l1 l2->∃Ο,G3 R Ο l2'/\Ο.Perm l1:=by
 induction p with
 | nil=>intro l1 h;cases h;exact⟨[],.nil,.refl _⟩
 | cons x _ ih=>
  intro l1 h
  cases h with
  | cons r t=>
   obtain⟨l',h1,h2⟩:=ih t;exact⟨_ :: l',.cons r h1,h2.cons _⟩
 | swap x y l=>
  intro l1 h
  cases h with
  | cons r t=>
   cases t with
   | cons r2 t=>exact⟨_ :: _ :: _,.cons r2 (.cons r t),List.Perm.swap _ _ _⟩
 | trans _ _ ih1 ih2=>
  intro l1 h;obtain⟨a,h1,h2⟩:=ih1 h;obtain⟨b,h3,h4⟩:=ih2 h1;exact⟨b,h3,h4.trans h2⟩
theorem Pv{α β γ:Type}{R:α->β->Prop}{f:α->γ}{g:β->γ}:∀{l1:List α} {l2:List β},G3 R l1 l2->(∀a∈l1,∀b,R a b->g b=f a)->l2.map g=l1.map f
 | _,_,.nil,_=>rfl
 | _,_,.cons r t,h=>by rw[BC,BC,h _ AV _ r,Pv t λa ha=>h a (AS _ ha)]
theorem Tp{α β:Type}{R:α->β->Prop}:∀{l1:List α} {l2:List β} {b:β},G3 R l1 l2->b∈l2->∃a∈l1,R a b
 | _,_,_,.nil,h=>nomatch h
 | _,_,b,.cons r t,h=>by
  rcases Ae.mp h with h | h
  ·subst h;exact⟨_,AV,r⟩
  ·obtain⟨a,ha,e⟩:=Tp t h
   exact⟨a,AS _ ha,e⟩
def VM:V->Int
 | .int n=>n
 | _=>0
def dB(H:Hp):AI->List Int
 | .int n _=>[n]
 | .ref b=>match H b with
  | some (.tup xs)=>xs.map VM
  | _=>[]
 | _=>[]
theorem Qs(r:List Int):(r.map V.int).map VM=r:=by
 rw[BF];exact(DS λa _=>rfl).trans (tE r)
def vW(K:AG)(H:Hp)(p:AW)(G:List V->Prop):Prop:=
 (∃vs,(SqL K H p vs∨SqT K H p vs)/\G vs)∨(∃f',H p=some (.dK f')/\G (f'.map λx=>kV x.1)) ∨
  ∃f',H p=some (.dT f')/\∀bs:List AW,G3 (λ(k:List Key×V) b=>H b=some (.tup (k.1.map kV))) f' bs->G (bs.map V.ref)
def V8(H:Hp)(f:V->List Int)(vs:List V):Prop:=(∀v∈vs,∃n,v=.int n/\f v=[n])∨∀v∈vs,∃b,v=.ref b/\H b=some (.tup ((f v).map V.int))/\f v≠[]
def uN(K:AG):List V->Hp->VK->Prop:=λxs H Q=>∃p,xs=[.ref p]/\vW K H p λvs=>∃f:V->List Int,vs.length < 64/\V8 H f vs /\
 ∀out,out.Perm vs->out.Pairwise (λx y=>ltL (f y) (f x)=false)->∀l,H l=none->Q (.ref l) (upd H l (.lst out))
theorem V8.rel(h:V8 H f vs):∀v∈vs,∀u,RelV v u->dB H u=f v:=λv hv u r=>by
 rcases h with h | h
 ·obtain⟨n,rfl,e⟩:=h v hv
  obtain⟨t,rfl⟩:=r;exact e.symm
 ·obtain⟨b,rfl,e,_⟩:=h v hv
  cases r;show(match H b with | some (.tup xs)=>xs.map VM | _=>[])=_;rw[e];exact Qs _
theorem X9(hc:X.calm=true)(I:Inv X ζ σ H s)(h:vW X.K H p G) :
  ∃vs tx,G vs/\Bv vs tx/\tx.length<=sizeLine/\∀(R:List AI->AQ->Prop) (E:AI->AQ->Prop),(∀(g:Cz) (tk:Nat),(∀b o,s.heap.get? b=some o->g.get? b=some o)->R tx { s with heap:=g,toks:=tk })->Ag (Ap X.prog X.w) X.A.in1 (collect (.ref p)) R E s:=by
 have hh:X.A.handled=none:=I.ok.hd hc
 rcases h with⟨vs,sq,g⟩ | ⟨f',e,g⟩ | ⟨f',e,g⟩
 ·rcases sq with sq | sq
  ·obtain⟨tx,rv,pl,hz⟩:=I.list sq
   refine⟨vs,tx,g,rv,by rw[<-rv.length];exact hz,λR E k=>collect_list pl.isList (k _ s.toks λb o e=>?_) (by rw[<-rv.length];exact hz)⟩;rw[cS _ _ _ _ (BE (Ac e))];exact AJ _ e
  ·obtain⟨tx,rv,⟨o,ho,yW,n,hd⟩,hz⟩:=I.tuple sq
   have hz':tx.length<=sizeLine:=by rw[<-rv.length];exact hz
   exact⟨vs,tx,g,rv,hz',λR E k=>wpAny_collect_seq p (.inr rfl) ho yW hd (λh' kp=>by simpa using k h' s.toks kp) (by simpa using hz')⟩
 ·obtain⟨hz,sm,us,kv,o,es,ep,g1,g2,g3,g5,g6,_⟩:=(show Do X.prog X.w H s.heap p (.dK f')from I.hok p _ e)
  have hlen:es.size=f'.length:=by
   have a1:=g6.length;have a2:f'.length=us.length:=FJ kv;rw[CD]at a1
   lia
  have hv:Bv (f'.map λx=>kV x.1) (es.toList.map (·.key)):=by
   have key:∀{l:List RL} {us:List (Key×AI)} {f':List (Key×V)},Pairs (Et X.prog X.w) l us->KV f' us->Bv (f'.map λx=>kV x.1) (l.map (·.key)):=by
    intro l us f' hp
    induction hp generalizing f' with
    | nil=>intro h;cases h;exact .nil
    | cons q1 q2 _ ih=>
     intro h
     cases h with
     | cons r t=>
      refine .cons ?_ (ih t);dsimp only;rw[r.1]
      rcases Dk q1 with⟨i,t,e1,e2⟩ | ⟨x,t,e1,e2⟩
      ·rw[e1,e2];exact⟨t,rfl⟩
      ·rw[e1,e2];exact⟨t,rfl⟩
   exact key g6 kv
  refine⟨_,es.toList.map (·.key),g,hv,by rw[AF,CD,hlen];exact hz,λR E k=>?_⟩
  refine Y5 (Srt.bE (es:=es) (ep:=ep) sm) hh ⟨o,g1,g2,g3⟩ (by rw[hlen];exact hz) λg' tk acc kp ac=>?_
  have:acc.toList=es.toList.map (·.key):=by
   apply Hz
   intro j
   by_cases hj:j < es.size
   ·have yf:j < acc.size:=by rw[ac.1];exact hj
    obtain⟨_,e2⟩:=ac.2 j acc[j] (by simp[yf]);simp[hj,yf,e2]
   ·have yf:¬j < acc.size:=by rw[ac.1];exact hj
    simp[hj,yf]
  rw[this];exact k g' tk kp
 ·obtain⟨hz,sm,xs,rr,o,es,ep,g1,g2,g3,g4,_⟩:=(show Do X.prog X.w H s.heap p (.dT f')from I.hok p _ e)
  have hlen:es.size=f'.length:=by
   have a1:=congrArg Of g4;have a2:f'.length=xs.length:=FJ rr;rw[CD,AF]at a1
   lia
  have hb:G3 (λ(k:List Key×V) b=>H b=some (.tup (k.1.map kV))) f' (xs.map (·.2.1)):=by
   have key:∀{f':List (List Key×V)} {xs:List (List Key×AW×AI)},G3 (λ(p:List Key×V) (q:List Key×AW×AI)=>p.1=q.1/\H q.2.1=some (.tup (p.1.map kV))/\RelV p.2 q.2.2) f' xs->G3 (λ(k:List Key×V) b=>H b=some (.tup (k.1.map kV))) f' (xs.map (·.2.1)):=by
    intro f' xs h
    induction h with
    | nil=>exact .nil
    | cons r _ ih=>exact .cons r.2.1 ih
   exact key rr
  have hk:es.toList.map (·.key)=(xs.map (·.2.1)).map BY:=by
   rw[g4,BF,BF];rfl
  have hv:∀l:List AW,Bv (l.map V.ref) (l.map BY):=λl=>by
   induction l with
   | nil=>exact .nil
   | cons a l ih=>exact .cons rfl ih
  refine⟨_,(xs.map (·.2.1)).map BY,g _ hb,hv _,by rw[AF,AF,<-FJ rr];exact hz,λR E k=>?_⟩
  refine Y5 (Srt.bE (es:=es) (ep:=ep) sm) hh ⟨o,g1,g2,g3⟩ (by rw[hlen];exact hz) λg' tk acc kp ac=>?_
  have:acc.toList=(xs.map (·.2.1)).map BY:=by
   rw[<-hk]
   apply Hz
   intro j
   by_cases hj:j < es.size
   ·have yf:j < acc.size:=by rw[ac.1];exact hj
    obtain⟨_,e2⟩:=ac.2 j acc[j] (by simp[yf]);simp[hj,yf,e2]
   ·have yf:¬j < acc.size:=by rw[ac.1];exact hj
    simp[hj,yf]
  rw[this];exact k g' tk kp
theorem YH{X:Cx}{s:AQ}{H:Hp}{f:V->List Int}{vs:List V}{tx:List AI}(I:∀b xs,H b=some (.tup xs)->∃is:List AI,Bv xs is/\ZM s.heap b is.toArray)(h:V8 H f vs)(rv:Bv vs tx)(h2:2<=tx.length){A:CO}:Srt.Xa X.prog X.w A s tx (dB H):=by
 rcases id h with hi | ht
 ·have:∃ns,D8 tx ns:=by
   have key:∀{vs:List V} {tx:List AI},Bv vs tx->(∀v∈vs,∃n,v=.int n/\f v=[n])->∃ns,D8 tx ns:=by
    intro vs tx r
    induction r with
    | nil=>exact λ_=>⟨[],.nil⟩
    | cons r _ ih=>
     intro hv
     obtain⟨ns,yU⟩:=ih λv W'=>hv v (AS _ W')
     obtain⟨n,rfl,_⟩:=hv _ AV;obtain⟨t,rfl⟩:=r;exact⟨n :: ns,.cons n t yU⟩
   exact key rv hi
  obtain⟨ns,yU⟩:=this;obtain⟨κ,k1,k2⟩:=Srt.cq (prog:=X.prog) (w:=X.w) (A:=A) (s:=s) yU h2;refine⟨κ,k1,λx y hx hy Q E q=>k2 x y hx hy Q E ?_⟩;obtain⟨n,t,e1⟩:=yU.all _ (Srt.IM hx).1;obtain⟨m,u,e2⟩:=yU.all _ (Srt.IM hy).1
  have e:Srt.ltK Srt.gz x y=Srt.ltK (dB H) x y:=by
   unfold Srt.ltK Srt.gz;rw[e1,e2];rfl
  rw[e];exact q
 ·refine Srt.cn (λu hu=>?_) (by intro e;subst e;simp at h2)
  obtain⟨v,hv,r⟩:=Tp rv hu;rw[h.rel v hv u r];obtain⟨b,rfl,e,ne⟩:=ht v hv;cases r;refine⟨⟨b,?_⟩,ne⟩;obtain⟨is,r,o,ho,yW,n,hd⟩:=I b _ e;exact⟨is.toArray,rfl,⟨o,ho,yW,n,hd⟩,by simpa using intsAre_of r⟩
theorem dy{X}(hc:X.calm=true):Kl X (.builtin "sorted") (uN X.K):=by
 intro ζ s σ H xs us Q I r h;obtain⟨p,rfl,src⟩:=h;obtain⟨u,rfl,rx⟩:=vals1 r;cases rx;obtain⟨vs,tx,⟨f,h63,rows,q⟩,rv,hz,col⟩:=X9 hc I src;refine Calls.call_function_entry kind_sorted plain_sorted entry_sorted (args_sorted1 _) ?_;unfold RM.«sorted»;refine AB (m:=checkCount "sorted" 1 1 _) (AL (AB (col _ _ λg tk kp=>?_)));refine AB (wpAny_newList ?_ hz);have I1:Inv X ζ σ H { s with heap:=g,toks:=tk }:=I.kept kp;have hl:(g.push (Km "list" tx.toArray 0)).get? g.objs.size=some (Km "list" tx.toArray 0):=Aa _ rfl;refine AB (E1 (DP slot_list_sort ⟨_,hl,rfl⟩ entry_list_sort (Srt.R4 (f:=dB H) hl hz (by rw[<-rv.length];exact h63) (λh2 s' keep=>?_) λout po so=>⟨_,rfl,AL ⟨_,rfl,?_⟩⟩) (args_list_sort _)))
 ·refine YH (λb xs e=>?_) rows rv h2
  obtain⟨_,is,r,o,ho,yW,n,hd⟩:=(show Do X.prog X.w H g b (.tup xs)from I1.hok b _ e);exact⟨is,r,o,keep b o (BE (Ac ho)) (AJ _ ho),yW,n,hd⟩
 ·obtain⟨vo,ro,pv⟩:=YT po.symm rv
  have so':vo.Pairwise (λx y=>ltL (f y) (f x)=false):=by
   have e:out.toList.map (dB H)=vo.map f:=Pv ro λa ha b rb=>rows.rel a (pv.mem_iff.mp ha) b rb
   have:=(Ca (f:=dB H) (R:=λx y=>ltL y x=false)).mpr so;rw[e]at this;exact Ca.mp this
  obtain⟨k,hk⟩:=sortedHeap_at (out:=out) hl
  have hlen:vo.length<=sizeLine:=by rw[pv.length_eq,rv.length];exact hz
  have I2:=I1.laid (a:=g.objs.size) (o:=.lst vo) (t':=tk) (h':=oo (g.push (Km "list" tx.toArray 0)) g.objs.size tx out)
   (λb u z=>by
    have lt:b < g.objs.size:=Ac z;rw[sortedHeap_old (BE lt) (by rw[size_push'];exact IF lt)]
    exact AJ _ z) (AO _) ⟨hlen,out.toList,k,ro,hk⟩
  exact⟨.ref g.objs.size,_,I2,rfl,q vo pv so' _ (I1.hok.fresh (AO _))⟩
def CF(ns:List Int):List Int:=ns.mergeSort (λa b=>decide (a<=b))
@[simp] def tJ:CF []=[]:=by unfold CF;simp
theorem Dv(ns:List Int):(CF ns).Perm ns:=cM ns _
theorem NW(ns:List Int):(CF ns).Pairwise (·<=·):=by
 have:=Xr (le:=λa b:Int=>decide (a<=b)) (by intro a b c h1 h2;simp at h1 h2 ⊢;lia) (by intro a b;simp;lia) ns
 exact this.imp λh=>by simpa using h
def Pn(rs:List (List Int)):List (List Int):=rs.mergeSort (λa b=>!ltL b a)
theorem Ji(rs:List (List Int)):(Pn rs).Perm rs:=cM rs _
theorem TV(rs:List (List Int)):(Pn rs).Pairwise (λa b=>ltL b a=false):=by
 have:=Xr (le:=λa b:List Int=>!ltL b a) (by intro a b c h1 h2;simp at h1 h2 ⊢;exact Srt.W8 _ _ _ h1 h2) (by
  intro a b
  cases e:ltL b a with
  | false=>simp
  | true=>simp[Srt.UD _ _ e]) rs
 exact this.imp λh=>by simpa using h
theorem Ve{l l':List (List Int)}(p:l.Perm l')(h:l.Pairwise (λa b=>ltL b a=false))(h':l'.Pairwise (λa b=>ltL b a=false)):l=l':=
 p.eq_of_pairwise (λa b _ _ h1 h2=>Srt.bW a b h2 h1) h h'
def Z6:Key->D
 | .inl i=>.int i
 | .inr x=>.str x
def K0(d:D)(S:Sto):Option (List D):=match d with
 | .fro ds=>some ds
 | .tup ds=>some ds
 | .ref n=>match S[n]? with
  | some (.lst ds)=>some ds
  | some (.dK f')=>some (f'.map λx=>Z6 x.1)
  | some (.dT f')=>some (f'.map λx=>.tup (x.1.map Z6))
  | _=>none
 | _=>none
def Rs(r:List Int):D:=.tup (r.map D.int)
def Vi:List D->Option (List (List Int))
 | []=>some []
 | .tup ds :: r=>match JL ds,Vi r with
  | some (n :: ns),some rs=>some ((n :: ns) :: rs)
  | _,_=>none
 | _ :: _=>none
def LV(ds:List D):Option (List D):=if ds.length < 64 then(match JL ds with
 | some ns=>some ((CF ns).map D.int)
 | none=>match Vi ds with
  | some rs=>some ((Pn rs).map Rs)
  | none=>none)else none
theorem Vf{ds es:List D}(h:LV ds=some es):ds.length < 64:=by
 unfold LV at h;split at h
 ·assumption
 ·cases h
def GX(m:ME):ME:=λe S=>(m e S).bind λd S1=>match K0 d S1 with
 | some ds=>match LV ds with
  | some es=>.ok (.ref S1.length) (S1++[.lst es])
  | none=>.bad
 | none=>.bad
section
theorem mP(x y:Int):ltL [y] [x]=decide (y < x):=by
 show(if y=x then false else decide (y < x))=_;split
 ·rename_i e;simp[e]
 ·rfl
def U9(H:Hp):V->List Int
 | .int n=>[n]
 | .ref b=>match H b with
  | some (.tup xs)=>xs.map VM
  | _=>[]
 | _=>[]
theorem YI{K}{ρ}{H}:∀{ds:List D} {rs:List (List Int)} {vs:List V},Vi ds=some rs->Az K ρ H ds vs->vs.map (U9 H)=rs/\∀v∈vs,∃b,v=.ref b/\H b=some (.tup ((U9 H v).map V.int))/\U9 H v≠[]
 | [],_,_,h,.nil=>by cases h;exact⟨rfl,λv hv=>nomatch hv⟩
 | .tup ts :: ds,rs,_,h,.cons r t=>by
  unfold Vi at h;split at h
  ·rename_i n ns rs' h1 h2
   cases h;obtain⟨i1,i2⟩:=YI h2 t
   cases r with
   | @tup _ b ws hb rr=>
    have:=Nr h1;subst this;have:=rr.ints;subst this
    have e:U9 H (.ref b)=n :: ns:=by
     show(match H b with | some (.tup xs)=>xs.map VM | _=>[])=_;rw[hb];exact Qs _
    refine⟨by rw[BC,e,i1],λv hv=>?_⟩
    rcases Ae.mp hv with hv | hv
    ·subst hv
     refine⟨b,rfl,?_,?_⟩
     ·rw[e];exact hb
     ·rw[e];exact List.cons_ne_nil _ _
    ·exact i2 v hv
  ·cases h
 | .non :: _,_,_,h,_=>by cases h
 | .bl _ :: _,_,_,h,_=>by cases h
 | .int _ :: _,_,_,h,_=>by cases h
 | .str _ :: _,_,_,h,_=>by cases h
 | .fro _ :: _,_,_,h,_=>by cases h
 | .ref _ :: _,_,_,h,_=>by cases h
 | .exc _ :: _,_,_,h,_=>by cases h
theorem YM{K}{ρ}{H}:∀{vs:List V},(∀v∈vs,∃b,v=.ref b/\H b=some (.tup ((U9 H v).map V.int))/\U9 H v≠[])->Az K ρ H ((vs.map (U9 H)).map Rs) vs
 | [],_=>.nil
 | v :: vs,h=>by
  obtain⟨b,e,hb,_⟩:=h v AV;refine .cons ?_ (YM λu hu=>h u (AS _ hu));subst e;exact .tup hb (Az.of_ints _)
theorem gD{K:AG}{ρ:List AW}{H:Hp}{ds es:List D}{vs:List V}(h:LV ds=some es)(r:Az K ρ H ds vs) :
  ∃f:V->List Int,V8 H f vs/\∀out,out.Perm vs->out.Pairwise (λx y=>ltL (f y) (f x)=false)->Az K ρ H es out:=by
 have hl:=Vf h;unfold LV at h;rw[qX hl]at h;split at h
 ·rename_i ns hz
  cases h;have:=Nr hz;subst this;have:=r.ints;subst this;refine⟨λv=>[VM v],.inl λv hv=>?_,λout po so=>?_⟩
  ·obtain⟨n,_,rfl⟩:=BD.mp hv
   exact⟨n,rfl,rfl⟩
  ·have e1:out=(out.map VM).map V.int:=by
    rw[BF]
    conv=>lhs;rw[<-Sm out]
    refine DS λv hv=>?_
    obtain⟨n,_,rfl⟩:=BD.mp (po.mem_iff.mp hv);rfl
   have e2:out.map VM=CF ns:=by
    have p1:(out.map VM).Perm (CF ns):=by
     have:=po.map VM;rw[Qs]at this;exact this.trans (Dv ns).symm
    refine p1.eq_of_pairwise (λa b _ _ h1 h2=>nq h1 h2) ?_ (NW ns);rw[Ca]
    refine so.imp λ{x y} hxy=>?_
    rw[mP]at hxy;simp at hxy;exact hxy
   rw[e1,e2];exact Az.of_ints _
 ·split at h
  ·rename_i rs hr
   cases h;obtain⟨i1,i2⟩:=YI hr r;refine⟨U9 H,.inr i2,λout po so=>?_⟩
   have e2:out.map (U9 H)=Pn rs:=by
    refine Ve ?_ (Ca.mpr so) (TV rs);have:=po.map (U9 H);rw[i1]at this;exact this.trans (Ji rs).symm
   rw[<-e2]
   exact YM λv hv=>i2 v (po.mem_iff.mp hv)
  ·cases h
theorem UI{K}{ρ}{H}:∀ks:List Key,Az K ρ H (ks.map Z6) (ks.map kV)
 | []=>.nil
 | .inl i :: ks=>.cons (.int i) (UI ks)
 | .inr x :: ks=>.cons (.str x) (UI ks)
theorem P2{K}{ρ}{H}:∀{f':List (Key×D)} {w6:List (Key×V)},KVR K ρ H f' w6->Az K ρ H (f'.map λx=>Z6 x.1) (w6.map λx=>kV x.1)
 | _,_,.nil=>.nil
 | (k,_) :: _,(k',_) :: _,.cons r t=>by
  have e:k=k':=r.1;subst e
  cases k with
  | inl i=>exact .cons (.int i) (P2 t)
  | inr x=>exact .cons (.str x) (P2 t)
theorem UH{K}{ρ}{H}:∀{f':List (List Key×D)} {w6:List (List Key×V)} {bs:List AW},KVR K ρ H f' w6->G3 (λ(k:List Key×V) b=>H b=some (.tup (k.1.map kV))) w6 bs->Az K ρ H (f'.map λx=>.tup (x.1.map Z6)) (bs.map V.ref)
 | _,_,_,.nil,.nil=>.nil
 | (k,_) :: _,(k',_) :: _,_,.cons r t,.cons r2 t2=>by
  have e:k=k':=r.1;subst e;exact .cons (.tup r2 (UI k)) (UH t t2)
theorem Jd(hc:X.calm=true)(hg:Gl X "sorted") (hm:X.mg "sorted" = none) (h:GE X E e m) (he:Ad [e] X.env=(false,Cj e X.env) :: Ad [] X.env:=by rfl):GE X E (.Call (.Name "sorted" p) [e] [] pos) (GX m):=
 (Nd (dy hc) hg hm vm (Ie h Kx he) (by decide) (by decide) he rfl).imp λσ H Q ⟨ρ,l,S,hl,hs,hm⟩=>by
 refine⟨ρ,l,S,hl,hs,hm.seq λd S1 hm ρ1 H1 x l1 s1 r1=>?_⟩
 cases hq:K0 d S1 with
 | none=>rw[hq]at hm;exact hm.elim
 | some ds=>
  rw[hq]at hm;dsimp only at hm
  cases hi:LV ds with
  | none=>rw[hi]at hm;exact hm.elim
  | some es=>
   rw[hi]at hm
   have fin:∀vs:List V,Az X.K ρ1 H1 es vs->∀q,H1 q=none->Q (.ref q) (upd H1 q (.lst vs)):=λvs rr q hq=>by
    have le:Le X.K ρ1 H1 (ρ1++[q]) (upd H1 q (.lst vs)):=Le.alloc hq;obtain⟨s4,l4,at4⟩:=s1.alloc (ho:=.lst vs) (o:=.lst es) hq ⟨_,B2,rr.mono le⟩;exact hm _ _ _ (l1.trans l4) s4 (.ref at4)
   have out:∀vs,Az X.K ρ1 H1 ds vs->∃f:V->List Int,vs.length < 64/\V8 H1 f vs/\∀out,out.Perm vs->out.Pairwise (λx y=>ltL (f y) (f x)=false)->∀l,H1 l=none->Q (.ref l) (upd H1 l (.lst out)):=λvs rr=>by
    obtain⟨f,k1,k2⟩:=gD hi rr;exact⟨f,by rw[<-rr.length];exact Vf hi,k1,λout po so=>fin out (k2 out po so)⟩
   cases r1 with
   | fro h1 h2=>cases hq;exact⟨_,rfl,.inl ⟨_,.inl h1.sq,out _ h2⟩⟩
   | tup h1 h2=>cases hq;exact⟨_,rfl,.inl ⟨_,.inr (.inl (.inl h1)),out _ h2⟩⟩
   | @ref n a hn=>
    obtain⟨o,ho,ro⟩:=s1.there hn;unfold K0 at hq;simp only[ho]at hq
    cases o with
    | lst ys=>cases hq;obtain⟨vs,e,rr⟩:=ro;exact⟨_,rfl,.inl ⟨vs,.inl (.inl (.inl e)),out _ rr⟩⟩
    | dK f'=>cases hq;obtain⟨vs,e,rr⟩:=ro;exact⟨_,rfl,.inr (.inl ⟨vs,e,out _ (P2 rr)⟩)⟩
    | dT f'=>cases hq;obtain⟨vs,e,rr⟩:=ro;exact⟨_,rfl,.inr (.inr ⟨vs,e,λbs hb=>out _ (UH rr hb)⟩)⟩
    | ins C fs=>cases hq
    | fK _=>cases hq
    | fT _=>cases hq
    | mem _=>cases hq
   | _=>cases hq
end
open PySem PySem.Spec PyProof.Rows
def gC(K:AG):Sp:=λvs H Q _=>∃(a:AW) (ns:List Int),vs=[.ref a]/\VW K H a (ns.map V.int)/\ns.length<=63/\∀H',Q (.bl true) H'
theorem iP{P}{w}{K}{mg}{base}{k}{fa}{fd}{f}(F:Cg P w K mg base (CXG P w) k fa fd ["script"] (spM K 1 f))
  (h:∀ns:List Int,ns.length<=63->∃S',f [.fro (ns.map D.int)] []=.ok (.bl true) S'):Cg P w K mg base (CXG P w) k fa fd ["script"] (gC K):=F.imp λvs H Q E ⟨a,ns,e,hS,hl,q⟩=>by
 subst e;obtain⟨S',e⟩:=h ns hl;refine⟨[],[.fro (ns.map D.int)],[],rfl,.cons (.fro hS (Az.of_ints ns)) .nil,⟨rfl,λi j a hi=>by simp at hi,λn o a hn=>by simp at hn⟩,?_⟩;rw[e]
 exact λρ' H' x _ _ r=>by cases r;exact q H'
theorem rq{K:AG}{H:Hp}{a:AW}{ns:List Int}(hO:nT H)(hS:SqL K H a (ns.map V.int)):VW K H a (ns.map V.int):=by
 rcases hS with(h | h) | h
 ·rcases hO a with z | ⟨o,xs,z⟩ <;> rw[z]at h <;> cases h
 ·exact .inl h
 ·exact .inr h
theorem sM(h:CXG P w [] H s (λ_ _ _=>False) e s'):False:=by
 obtain⟨_,_,_,_,_,_,_,_,_,z⟩:=h;exact z
open PySem
def oZ(I:Lo->Sto->Prop)(R:Fl->Sto->Prop)(f:Fl)(S:Sto):Prop:=match f with
 | .nx e=>I e S
 | .ct e=>I e S
 | .bk e=>R (.nx e) S
 | .rt d=>R (.rt d) S
 | .ex c e=>R (.ex c e) S
theorem mm(I:Nat->Lo->Sto->Prop)(R:Fl->Sto->Prop)(hv:∀i e S,I i e S->v S=some xs)
  (step:∀i d e S,xs[i]?=some d->I i e S->∃e1 S1,g d e S=.ok e1 S1/\∃f S2,b e1 S1=.ok f S2/\oZ (I (i+1)) R f S2)
  (fin:∀e S,I xs.length e S->R (.nx e) S):∀(k i:Nat) (e:Lo) (S:Sto),I i e S->i<=xs.length->xs.length<=i+k->∃f S',NB v g b k i e S=.ok f S'/\R f S':=by
 intro k
 induction k with
 | zero=>
  intro i e S h h1 h2
  have:i=xs.length:=by lia
  subst this;refine⟨.nx e,S,?_,fin e S h⟩;unfold NB;rw[hv _ e S h];simp
 | succ k ih=>
  intro i e S h h1 h2;unfold NB;rw[hv _ e S h];dsimp only
  by_cases hi:i < xs.length
  ·have hd:xs[i]?=some xs[i]:=by simp[hi]
   rw[hd];dsimp only;obtain⟨e1,S1,q1,f,S2,q2,t⟩:=step i _ e S hd h;rw[q1];dsimp only[Res.bind];rw[q2];dsimp only[Res.bind]
   cases f with
   | nx e2=>exact ih (i+1) e2 S2 t (by lia) (by lia)
   | ct e2=>exact ih (i+1) e2 S2 t (by lia) (by lia)
   | bk e2=>exact⟨_,_,rfl,t⟩
   | rt d=>exact⟨_,_,rfl,t⟩
   | ex c e2=>exact⟨_,_,rfl,t⟩
  ·have:i=xs.length:=by lia
   subst this;rw[show xs[xs.length]?=none by simp];exact⟨.nx e,S,rfl,fin e S h⟩
theorem Nv(I:Nat->Lo->Sto->Prop)(R:Fl->Sto->Prop)(h0:I 0 e S)(hv:∀i e S,I i e S->v S=some xs)
  (step:∀i d e S,xs[i]?=some d->I i e S->∃e1 S1,g d e S=.ok e1 S1/\∃f S2,b e1 S1=.ok f S2/\oZ (I (i+1)) R f S2)
  (fin:∀e S,I xs.length e S->R (.nx e) S):∃f S',NB v g b (EF v S) 0 e S=.ok f S'/\R f S':=by
 have hl:EF v S=xs.length:=by unfold EF;rw[hv 0 e S h0]
 rw[hl];exact mm I R hv step fin _ _ _ _ h0 (ED _) (by lia)
theorem jH(I:Nat->Lo->Sto->List D->Prop)(hv:∀i e S acc,I i e S acc->v S=some xs)
  (step:∀i d e S acc,xs[i]?=some d->I i e S acc->acc.length < sizeLine/\∃e1 S1,g d e S=.ok e1 S1/\∃b S2,c e1 S1=.ok b S2/\((b=true/\∃y S3,m e1 S2=.ok y S3/\I (i+1) e1 S3 (acc++[y]))∨(b=false/\I (i+1) e1 S2 acc))) :
  ∀(k i:Nat) (e:Lo) (S:Sto) (acc:List D),I i e S acc->i<=xs.length->xs.length<=i+k->∃r S',HC v g c m k i e S acc=.ok r S'/\∃e',I xs.length e' S' r:=by
 intro k
 induction k with
 | zero=>
  intro i e S acc h h1 h2
  have:i=xs.length:=by lia
  subst this;refine⟨acc,S,?_,e,h⟩;unfold HC;rw[hv _ e S acc h];simp
 | succ k ih=>
  intro i e S acc h h1 h2;unfold HC;rw[hv _ e S acc h];dsimp only
  by_cases hi:i < xs.length
  ·have hd:xs[i]?=some xs[i]:=by simp[hi]
   rw[hd];dsimp only;obtain⟨hz,e1,S1,q1,b,S2,q2,t⟩:=step i _ e S acc hd h;rw[qX hz,q1];dsimp only[okR,Res.bind];rw[q2];dsimp only[okR,Res.bind]
   rcases t with⟨rfl,y,S3,q3,t⟩ | ⟨rfl,t⟩
   ·rw[qX rfl,q3]
    exact ih (i+1) e1 S3 _ t (by lia) (by lia)
   ·rw[qY AK]
    exact ih (i+1) e1 S2 acc t (by lia) (by lia)
  ·have:i=xs.length:=by lia
   subst this;rw[show xs[xs.length]?=none by simp];exact⟨acc,S,rfl,e,h⟩
theorem b5(I:Nat->Lo->Sto->List D->Prop)(h0:I 0 e S [])(hv:∀i e S acc,I i e S acc->v S=some xs)
  (step:∀i d e S acc,xs[i]?=some d->I i e S acc->acc.length < sizeLine/\∃e1 S1,g d e S=.ok e1 S1/\∃b S2,c e1 S1=.ok b S2/\((b=true/\∃y S3,m e1 S2=.ok y S3/\I (i+1) e1 S3 (acc++[y]))∨(b=false/\I (i+1) e1 S2 acc))) :
  ∃r S',HC v g c m (EF v S) 0 e S []=.ok r S'/\∃e',I xs.length e' S' r:=by
 have hl:EF v S=xs.length:=by unfold EF;rw[hv 0 e S [] h0]
 rw[hl];exact jH I hv step _ _ _ _ _ h0 (ED _) (by lia)
theorem qy(h:-1000000<=j):-(2 ^ 62)<=j:=Int.le_trans (by decide) h
theorem rW{j:Int}(h:j<=1000000):j < 2 ^ 62:=eo h (by decide)
theorem iY{ml:ML}{e:Lo}{S S1:Sto}{j:Int}(h:ml e S=.ok [.int j] S1)(h0:-1000000<=j)(h1:j<=1000000):iR1 ml e S=.ok (Gu (Ju 0 j.toNat)) S1:=by
 unfold iR1;rw[h];dsimp only[Res.bind];rw[qX ⟨qy h0,rW h1⟩]
theorem rR{ml:ML}{e:Lo}{S S1:Sto}{i j:Int}(h:ml e S=.ok [.int i,.int j] S1)(h0:-1000000<=i)(h1:i<=1000000)(h2:-1000000<=j)(h3:j<=1000000):iR2 ml e S=.ok (Gu (Ju i (j - i).toNat)) S1:=by
 unfold iR2;rw[h];dsimp only[Res.bind];rw[qX ⟨qy h0,rW h1,qy h2,rW h3⟩]
theorem dC(lo:Int)(n:Nat):(Ju lo n).length=n:=by simp[Ju]
theorem gX{lo:Int}{n i:Nat}{d:D}(h:(Ju lo n)[i]?=some d):i < n/\d=.int (lo+i):=by
 rw[Vj]at h;split at h
 ·rename_i hi
  cases h;exact⟨hi,rfl⟩
 ·cases h
theorem ur(h:-1000000<=j)(h1:j<=1000000):Y2 i j:=.inr ⟨Int.lt_of_lt_of_le (by decide) h,eo h1 (by decide)⟩
theorem mG(h:-1000000<=j)(h1:j<=1000000):W5 (.int i) (.int j) S=.ok (.int (i * j)) S:=by
 show(if Y2 i j then _ else _)=_;rw[qX (ur h h1)]
theorem i6(h:0 < j)(h1:j<=1000000):Ny (.int i) (.int j) S=.ok (.int (i / j)) S:=by
 show(if jZ i j then _ else _)=_;rw[qX ⟨h,by lia⟩]
theorem bQ(h:0 < j):Qu (.int i) (.int j) S=.ok (.int (i % j)) S:=by
 show(if 0 < j then _ else _)=_;rw[qX h]
theorem Dc(ha:ma e S=.ok x S1)(hb:mb e S1=.ok y S2)(hf:f x y S2=.ok d S3):m2 f ma mb e S=.ok d S3:=by
 unfold m2;rw[ha];dsimp only[Res.bind];rw[hb];dsimp only[Res.bind];rw[hf];rfl
theorem Jj(h:m e S=.ok d S1):CP i m e S=.ok (.nx (e.set i (some d))) S1:=by
 unfold CP c8;rw[h];rfl
theorem IK(h:m e S=.ok d S1):CZ m e S=.ok (.rt d) S1:=by
 unfold CZ;rw[h];rfl
theorem QB(h:m e S=.ok d S1):Il m e S=.ok (.nx e) S1:=by
 unfold Il;rw[h];rfl
theorem HB(h:t e S=.ok c S1):sIf t a b e S=if c=true then a e S1 else b e S1:=by
 unfold sIf;rw[h];rfl
theorem XA(h:t e S=.ok c S1):UC t a b e S=if c=true then a e S1 else b e S1:=by
 unfold UC;rw[h];rfl
theorem LA(h:m e S=.ok v S1):Ez m g b e S=NB v g b (EF v S1) 0 e S1:=by
 unfold Ez;rw[h];rfl
theorem Mp(h:m e S=.ok ds S1)(hn:ds.length=n):Bp n f m e S=f ds S1:=by
 unfold Bp;rw[h];dsimp only[Res.bind];rw[qX hn]
theorem B1(h:a e S=.ok (.nx e1) S1):BK a b e S=b e1 S1:=by unfold BK;rw[h];rfl
theorem TX(h:a e S=.ok (.rt d) S1):BK a b e S=.ok (.rt d) S1:=by unfold BK;rw[h];rfl
def Keeps(S S':Sto):Prop:=S.length<=S'.length/\∀j,j < S.length->S'[j]?=S[j]?
theorem Keeps.refl(S:Sto):Keeps S S:=⟨AO _,λ_ _=>rfl⟩
theorem Keeps.trans(a:Keeps S S1)(b:Keeps S1 S2):Keeps S S2:=⟨At a.1 b.1,λj h=>(b.2 j (AT h a.1)).trans (a.2 j h)⟩
theorem Keeps.app(S:Sto)(G:Sto):Keeps S (S++G):=⟨by simp,λj h=>A9 h⟩
theorem Keeps.set(a:Keeps S S1)(h:S.length<=m)(o:Ob):Keeps S (S1.set m o):=⟨by simpa using a.1,λj hj=>by rw[Ab (by lia)];exact a.2 j hj⟩
theorem Keeps.at{S S1:Sto}(a:Keeps S S1){j:Nat}{o:Ob}(h:S[j]?=some o):S1[j]?=some o:=by
 rw[a.2 j (AD.mp h).1];exact h
theorem XY(h1:mo e S=.ok (.ref n) S1)(h2:S1[n]?=some (.lst xs))(h3:ma e S1=.ok y S2)(h4:S2[n]?=some (.lst xs2))(h5:xs2.length < sizeLine) :
  P0 mo ma e S=.ok .non (S2.set n (.lst (xs2++[y]))):=by
 unfold P0;rw[h1];dsimp only[Res.bind];rw[h2];dsimp only;rw[h3];dsimp only[Res.bind];rw[h4];dsimp only;rw[qX h5]
theorem kb(h:xs.length+ys.length<=sizeLine):Ja (.tup xs) (.tup ys) S=.ok (.tup (xs++ys)) S:=by
 unfold Ja;dsimp only;rw[qX h]
theorem Da(h:S[n]?=some (.lst xs)):FT (.ref n) S=some xs:=by
 unfold FT RO;dsimp only;rw[h]
theorem Lb(h:m e S=.ok (.ref n) S1)(hx:S1[n]?=some (.lst xs)):D0 m e S=.ok (FT (.ref n)) S1:=by
 unfold D0;rw[h];dsimp only[Res.bind];rw[Da hx]
theorem UL(h:m e S=.ok (.tup xs) S1):D0 m e S=.ok (Gu xs) S1:=by
 unfold D0;rw[h];rfl
theorem Zv(h:ml e S=.ok ds S1):FZ ml e S=.ok (.ref S1.length) (S1++[.lst ds]):=by
 unfold FZ;rw[h];rfl
theorem FQ(S:Sto)(o:Ob):(S++[o])[S.length]?=some o:=by simp
theorem Fm(h:S[n]?=some (.lst ds)):HG (.ref n) S=some ds:=by
 unfold HG;dsimp only;rw[h]
theorem Z8(h:S[n]?=some (.lst ds)):K0 (.ref n) S=some ds:=by
 unfold K0;dsimp only;rw[h]
theorem OL(h:m e S=.ok d S1)(hi:K0 d S1=some ds)(hs:LV ds=some es):GX m e S=.ok (.ref S1.length) (S1++[.lst es]):=by
 unfold GX;rw[h];dsimp only[Res.bind];rw[hi];dsimp only;rw[hs]
theorem Pm(h:m e S=.ok d S1)(hq:HG d S1=some ds):Gf m e S=.ok (.tup ds) S1:=by
 unfold Gf;rw[h];dsimp only[Res.bind];rw[hq]
theorem iN(h:m e S=.ok d S1)(hq:HG d S1=some ds):Qv m e S=.ok (.int ds.length) S1:=by
 unfold Qv;rw[h];dsimp only[Res.bind];rw[hq]
theorem SI(hv:mv e S=.ok v S1)(ho:mo e S1=.ok (.ref n) S2)(hs:S2[n]?=some (.ins C fs))(hl:fs.length < 1000) :
  KW C f mo mv e S=.ok (.nx e) (S2.set n (.ins C (KO f v fs))):=by
 unfold KW;rw[hv];dsimp only[Res.lift];rw[ho];dsimp only[Res.lift];rw[hs];dsimp only;rw[qX ⟨rfl,hl⟩]
theorem LB(h:m e S=.ok (.ref n) S1)(hs:S1[n]?=some (.ins C fs))(hl:fs.lookup f=some v):DC C f m e S=.ok v S1:=by
 unfold DC;rw[h];dsimp only[Res.bind];rw[hs];dsimp only;rw[qX rfl,hl]
theorem bT(h:ml e S=.ok ds S1)(hn:ds.length+1=n)(hf:f (.ref S1.length :: ds) (S1++[.ins C []])=.ok .non S2):Ol C n f ml e S=.ok (.ref S1.length) S2:=by
 unfold Ol;rw[h];dsimp only[Res.bind];rw[qX hn,hf]
theorem Cq(h:m e S=.ok d S1)(hr:r e S1=.ok ds S2):AN m r e S=.ok (d :: ds) S2:=by
 unfold AN;rw[h];dsimp only[Res.bind];rw[hr]
theorem XQ(h:mi e S=.ok v S1):Eo n mi g c m e S=HC v g c m (EF v S1) 0 (Bt n none++e) S1 []:=by
 unfold Eo;rw[h];rfl
theorem Uh(h:m e S=.ok (.bl b) S1):mB m e S=.ok b S1:=by
 unfold mB;rw[h];rfl
theorem oR(ha:ma e S=.ok x S1)(hb:mb e S1=.ok y S2)(hf:f x y S2=.ok (.bl true) S3)(hc:mc e S3=.ok w S4)(hg:g y w S4=.ok d S5):m3 f g ma mb mc e S=.ok d S5:=by
 unfold m3;rw[ha];dsimp only[Res.bind];rw[hb];dsimp only[Res.bind];rw[hf];dsimp only[Res.bind,okR];rw[hc];dsimp only[Res.bind];rw[hg]
theorem uu(ha:ma e S=.ok x S1)(hb:mb e S1=.ok y S2)(hf:f x y S2=.ok (.bl false) S3):m3 f g ma mb mc e S=.ok (.bl false) S3:=by
 unfold m3;rw[ha];dsimp only[Res.bind];rw[hb];dsimp only[Res.bind];rw[hf];rfl
theorem iO(h:decide (i<=j)=b):leD (.int i) (.int j) S=.ok (.bl b) S:=by subst h;rfl
theorem qv(h:decide (i < j)=b):ltD (.int i) (.int j) S=.ok (.bl b) S:=by subst h;rfl
theorem rp(h:decide (j<=i)=b):geD (.int i) (.int j) S=.ok (.bl b) S:=by subst h;rfl
theorem sE(h:decide (i=j)=b):eqD false (.int i) (.int j) S=.ok (.bl b) S:=by
 subst h;show Res.ok (D.bl (i==j)) S=_;rfl
theorem O7(h:m e S=.ok b S1):Nn m e S=.ok (!b) S1:=by
 unfold Nn;rw[h];rfl
theorem TN(h:ml e S=.ok ds S1)(hl:ds.length<=1000):Jx ml e S=.ok (.tup ds) S1:=by
 unfold Jx;rw[h];dsimp only[Res.bind];rw[qX (At hl (by decide))]
theorem qd(h:ta e S=.ok true S1):mOr ta tb e S=.ok true S1:=by
 unfold mOr;rw[h];rfl
theorem gy(h:ta e S=.ok false S1):mOr ta tb e S=tb e S1:=by
 unfold mOr;rw[h];rfl
theorem XZ(h:ta e S=.ok true S1):R3 ta tb e S=tb e S1:=by
 unfold R3;rw[h];rfl
theorem cC(h:ta e S=.ok false S1):R3 ta tb e S=.ok false S1:=by
 unfold R3;rw[h];rfl
theorem oE(h:m e S=.ok d S1)(hq:HG d S1=some ds):Rz m e S=.ok ds S1:=by
 unfold Rz;rw[h];dsimp only[Res.bind];rw[hq]
theorem lC(h:ml e S=.ok ds S1)(hf:f ds S1=.ok d S2):mQ f ml e S=.ok d S2:=by
 unfold mQ;rw[h];dsimp only[Res.bind];rw[hf];rfl
theorem P1(h:S[n]?=some (.lst ds)):UE (.ref n) S=some ds:=by
 unfold UE;dsimp only;rw[h]
open PySem PySem.Spec PyProof.Rows
section
variable{X:Cx}{E:EW}{e:Expr}{p pos:Pos}{m:ME}
def mN(m:ME):ME:=λe S=>(m e S).bind λd S1=>match d with
 | .int i=>.ok (.int i) S1
 | .bl k=>.ok (.int (if k then 1 else 0)) S1
 | _=>.bad
theorem me(hg:Gl X "int") (hm:X.mg "int" = none) (h:GE X E e m) (he:Ad [e] X.env=(false,Cj e X.env) :: Ad [] X.env:=by rfl):GE X E (.Call (.Name "int" p) [e] [] pos) (mN m):=
 (Vk eC hg hm vq (Ie h Kx he) (by decide) (by decide) he rfl).imp λσ H Q ⟨ρ,l,S,hl,hs,hm⟩=>by
 refine⟨ρ,l,S,hl,hs,hm.seq λd S1 hm ρ1 H1 x l1 s1 r1=>?_⟩
 cases d <;> first | exact hm.elim | skip
 ·cases r1
  exact .inr ⟨_,rfl,hm ρ1 H1 _ l1 s1 (.int _)⟩
 ·cases r1
  exact .inl ⟨_,rfl,hm ρ1 H1 _ l1 s1 (.int _)⟩
end
end L2
namespace PySem
open Sem (wp)
open AutoSeq1 (wpAny_loadPart')
theorem Nm(l:AW)(items:Array AI)(n:Nat)(zz:Option AW)(sl:Array (Option AI)) :
  Meets (RM.«enumerate.__new__» ⟨[.type "enumerate",.ref l],[]⟩) (λ_ R s=>s.heap.get? l=some { cls:=.type "tuple",dict:=zz,data:=.seq items n,slots:=sl } /\
   R (.ok (.ret (.ref (s.heap.push { cls:=.type "tuple_iterator",data:=.fields #[.ref l,.int 0 0] }).objs.size)))
    { s with heap:=(s.heap.push { cls:=.type "tuple_iterator",data:=.fields #[.ref l,.int 0 0] }).push { cls:=.type "enumerate",data:=.fields #[.none,.bool false,.ref s.heap.objs.size,Ln 0,.none,.none] } }):=
 .of_wp λprog w A R s h=>by
  obtain⟨hp,g,d,tk,os⟩:=s;obtain⟨hl,h⟩:=h;have ye:=sub_enumerate;have hL:tG (ox ⟨hp,g,d,tk,os⟩) l items:=⟨_,hl,rfl,n,rfl⟩
  wp_walk using De hl
  refine vb λst=>AL ?_
  split
  ·rename_i c _ _ _ _ _
   cases(c==GM "enumerate")
   ·wp_walk using De hl,DJ hL
    exact⟨_,rfl,h⟩
   ·wp_walk using De hl,DJ hL
    exact⟨_,rfl,h⟩
  ·wp_walk using De hl,DJ hL
   exact⟨_,rfl,h⟩
section
variable{w:CL}{A:CO}{E:AI->AQ->Prop}{s:AQ}
theorem N5(hL:s.heap.IsTuple l items)
  (h:∀h',Lu h' (s.heap.objs.size+1) s.heap.objs.size 0 .none->h'.IsTupleIter s.heap.objs.size l 0->h'.objs.size=s.heap.objs.size+2 ->
   (∀b o,s.heap.get? b=some o->h'.get? b=some o)->Q (.ref (s.heap.objs.size+1)) { s with heap:=h' }) :
  Ag (Ap prog w) A (call (.type "enumerate") [.ref l]) Q E s:=by
 obtain⟨⟨c,zz,dt,sl⟩,hl,hc,n,hd⟩:=hL
 replace hc:c=.type "tuple":=hc
 replace hd:dt=.seq items n:=hd
 subst hc hd
 refine callType_new jy (by decide) (F.typeCall_enumerate_1 _) (F.newCall_enumerate_1 _) (λobj=>F.args_object_init_2 obj _) eV
  (Nm l items n zz sl) ⟨hl,?_⟩
 have hz:(s.heap.push { cls:=.type "tuple_iterator",data:=.fields #[.ref l,.int 0 0] }).objs.size=s.heap.objs.size+1:=C0 ..;show _/\_;rw[hz]
 have he:Lu ((s.heap.push { cls:=.type "tuple_iterator",data:=.fields #[.ref l,.int 0 0] }).push
   { cls:=.type "enumerate",data:=.fields #[.none,.bool false,.ref s.heap.objs.size,Ln 0,.none,.none] }) (s.heap.objs.size+1) s.heap.objs.size 0 .none:=by
  have:=Aa (s.heap.push { cls:=.type "tuple_iterator",data:=.fields #[.ref l,.int 0 0] })
   (o:={ cls:=.type "enumerate",data:=.fields #[.none,.bool false,.ref s.heap.objs.size,Ln 0,.none,.none] }) rfl
  rw[hz]at this;exact this
 refine⟨⟨_,he,rfl⟩,h _ he ⟨_,AJ _ (Aa _ rfl),rfl,rfl⟩ (by rw[C0,hz]) λb o x=>AJ _ (AJ _ x)⟩
theorem Ke{it t}{i}{items}{x}{Q}(hit:s.heap.IsTupleIter it t i)
  (ht:s.heap.IsTuple t items) (hx:items[i]?=some x)
  (hQ:∀h',h'.IsTupleIter it t (i+1)->FE it s.heap h'->Q x { s with heap:=h' }) :
  Ag (Ap prog w) A (E3 (.ref it)) Q E s:=by
 obtain⟨o,ho,hc,hd⟩:=id hit;obtain⟨ol,hol,_,nl,hdl⟩:=ht;unfold E3
 refine AB (Ch (name:=Gp "__next__") hit.typeIs Gs
  (DP Gs hit.typeIs Xk ?_ (WL _)))
 show Ag _ _ (si (.ref it) 0 >>= _) _ _ s;refine AB (G2 ho hd (x:=.ref t) rfl ?_);show Ag _ _ (if (BY t==EL)=true then _ else _) _ _ s;rw[qY (show ¬((BY t==EL)=true)from AK)];show Ag _ _ (si (.ref it) 1 >>= _) _ _ s;refine AB (G2 ho hd (x:=.int i 0) rfl ?_);show Ag _ _ (WB (.ref t) >>= _) _ _ s;refine AB (Ll hol hdl ?_);simp only[An,hx];refine AB (QO ho hd (by simp) (AL ⟨x,rfl,AL (hQ _ ?_ (IG ..))⟩))
 exact⟨_,Fe _ ho (ae (Ko hd _)),(jc ..).trans hc,by
  rw[Ko hd];simp[Ln]⟩
theorem GV{it t}{i}{items}{Q}(hh:A.handled=none)
  (hit:s.heap.IsTupleIter it t i) (ht:s.heap.IsTuple t items) (hx:items[i]?=none)
  (hE:∀h' e,Sq it s.heap h'->(∃o,h'.get? e=some o/\o.cls=.type "StopIteration")->E (.ref e) { s with heap:=h' }) :
  Ag (Ap prog w) A (E3 (.ref it)) Q E s:=by
 obtain⟨o,ho,hc,hd⟩:=id hit;obtain⟨ol,hol,_,nl,hdl⟩:=ht;unfold E3
 refine AB (Ch (name:=Gp "__next__") hit.typeIs Gs
  (DP Gs hit.typeIs Xk ?_ (WL _)))
 show Ag _ _ (si (.ref it) 0 >>= _) _ _ s;refine AB (G2 ho hd (x:=.ref t) rfl ?_);show Ag _ _ (if (BY t==EL)=true then _ else _) _ _ s;rw[qY (show ¬((BY t==EL)=true)from AK)];show Ag _ _ (si (.ref it) 1 >>= _) _ _ s;refine AB (G2 ho hd (x:=.int i 0) rfl ?_);show Ag _ _ (WB (.ref t) >>= _) _ _ s;refine AB (Ll hol hdl ?_);simp only[An,hx];refine AB (ZB (AB (QO ho hd (by simp) ?_)));show Ag _ _ (newExc (.type "StopIteration") [] >>= _) _ _ _;refine AB ?_;simp only[newExc,newTuple];refine AB (Cf ?_ (by size_fits));refine AB (m:=QQ _ _) (Xd (a:=EL) (by first | rfl | (simp only[QQ];rfl)) ?_);refine Cf ?_ (by size_fits);simp only[raiseNew];refine AB (wpAny_handled ?_)
 first | rw[show A.in1.handled=none from hh] | rw[hh]
 refine AB (AL (wpAny_throw ?_));exact hE _ _ (((IG ..).extBut.push _).push _) ⟨_,Aa _ rfl,rfl⟩
theorem Y0(hh:A.handled=none)(it l:AW)(wg:l≠it)(items:Array AI) :
  Draws prog w A it [it,l] items.size (λi v=>items[i]?=some v) (λi h=>h.IsTupleIter it l i/\h.IsTuple l items) where
 live:=λ_ _ st=>let ⟨o,ho,_⟩:=st.1;⟨o,ho⟩
 frame:=λ_ _ _ st hk=>⟨st.1.at λo e=>hk it (by simp) o e,let ⟨o,ho,r⟩:=st.2;⟨o,hk l (by simp) o ho,r⟩⟩
 item:=λi s Q E hi st hQ=>by
  refine Ke st.1 st.2 (x:=items[i]) (by simp[hi]) λh' yg yZ=>?_
  exact hQ _ h' s.toks (by simp[hi]) ⟨yg,st.2.extBut yZ.extBut wg⟩ yZ
 done:=λs Q E st hE=>GV hh st.1 st.2 (by simp) hE
theorem OX{e it l:AW}{i:Nat}{items:Array AI}{old:AI}{Q:Option AI->AQ->Prop}(hh:A.handled=none)
  (he:Lu s.heap e it i old) (hit:s.heap.IsTupleIter it l i) (hl:s.heap.IsTuple l items) (hx:items[i]?=none)
  (hQ:∀h',Sq it s.heap h'->Q none { s with heap:=h' }):Ag (Ap prog w) A (Lp (.ref e)) Q E s:=by
 have hT:s.TypeIs (.ref e) "enumerate":=⟨_,he,rfl⟩;unfold Lp
 refine AB (NJ (Ch (name:=Gp "__next__") hT JJ
  (DP JJ hT cT ?_ (ai _))))
 show Ag _ _ (si (.ref e) 2 >>= _) _ _ _;refine AB (G2 he rfl (x:=.ref it) rfl ?_);refine AB (GV hh hit hl hx λh' x θ zA=>?_);obtain⟨o,ho,hc⟩:=zA;refine AB (V9 (T:="StopIteration") (b:=true) ⟨o,ho,hc⟩ ZF ?_);exact AL (hQ _ θ)
end
end PySem
namespace L2
open PySem PySem.Spec PyProof.Rows
theorem Inv.turned2(I:Inv X ζ σ H s)(k:∀b u,b≠e->b≠it->s.heap.get? b=some u->h'.get? b=some u)
  (fe:PJ X ζ H e) (fi:PJ X ζ H it) (ha:s.heap.objs.size<=a) (new:Do X.prog X.w (upd H a o) h' a o):Inv X ζ σ (upd H a o) { s with heap:=h',toks:=t' }:=by
 have hn:=I.hok.fresh ha
 have V':∀b u,H b=some u->b≠e/\b≠it:=λb u q=>⟨λz=>(by rw[z,fe.1]at q;cases q),λz=>(by rw[z,fi.1]at q;cases q)⟩
 have out:∀b:AW,b∉[e,it]->b≠e/\b≠it:=λb hb=>⟨λz=>hb (by simp[z]),λz=>hb (by simp[z])⟩
 refine I.step (g':=s.gens) (d':=s.drawn) (ch:=[e,it]) (λb hb=>?_) (λb o _ _ hc q _=>k b o (out b hc).1 (out b hc).2 q) (λb o _ _ hc q _=>⟨o.slots,k b o (out b hc).1 (out b hc).2 q⟩) (λb o _ q n=>?_)
  (λb o hc q=>⟨o,k b o (out b hc).1 (out b hc).2 q⟩) (λb xs q=>by rw[Bj (Cm q hn)];exact q) (λb o u q=>by rw[Bj (Cm q hn)];exact q) (λb ps q=>⟨#[],by rw[Bj (Cm q hn),q];simp⟩) (λm hm=>?_) (λb u q=>?_) I.bare
 ·have wc:b=e∨b=it:=by simpa using hb
  rcases wc with z | z
  ·subst z;exact⟨fe.2.2.2.1,fe.2.1,fe.2.2.2.2.1,fe.2.2.2.2.2⟩
  ·subst z;exact⟨fi.2.2.2.1,fi.2.1,fi.2.2.2.2.1,fi.2.2.2.2.2⟩
 ·rw[Bj (BE (AT (Ac q) ha))];exact n
 ·obtain⟨o,es,ep,ho,r⟩:=hm
  exact⟨o,es,ep,k _ o (Br fe.2.1) (Br fi.2.1) ho,r⟩
 ·by_cases hb:b=a
  ·subst hb;rw[B2]at q;cases q;exact new
  ·rw[Bj hb]at q
   refine(I.hok b u q).stay (λc v hc r=>?_) (λc r=>by rw[Bj (Cm r hn)];exact r) λc xs r=>by rw[Bj (Cm r hn)];exact r
   have:c≠e/\c≠it:=by
    rcases hc with z | z
    ·rw[z];exact V' b u q
    ·exact V' c _ z
   exact k c v this.1 this.2 r
def Ite(sq:Hp->List V->Prop):It:=
 ⟨λi H=>∃xs x,sq H xs/\xs[i]?=some x,λi H y H'=>∃p x,H p=none/\y=.ref p/\H'=upd H p (.tup [.int i,x])/\∀xs,sq H xs->xs[i]?=some x,λi H=>∃xs,sq H xs/\xs.length<=i⟩
section
variable{P:Bg}{w:CL}{K:AG}{elts:List Expr}{x1:Nat}{pos:Pos}
theorem Q9{X:Cx}{ζ:List (AW×Obj)}{σ:St}{H:Hp}{s:AQ}{E:AI->AQ->Prop}{sq:Hp->List V->Prop}{e it:AW}{i:Nat}{x:V}{u:AI}{tk:Nat}{h':Cz}{tn:Nat->Cz->Prop}
  (I:Inv X ζ σ H s) (wg:e≠it) (hf:∀b∈[e,it],PJ X ζ H b) (le:e < s.heap.objs.size) (li:it < s.heap.objs.size) (ru:RelV x u) (hx:∀xs,sq H xs->xs[i]?=some x)
  (ho:IsEnumOut h' e it ((i:Int)+1) u s.heap.objs.size) (hT:h'.get? s.heap.objs.size=some { cls:=.type "tuple",data:=.seq #[.int i tk,u] }) (hk:∀b o,b≠e->b≠it->s.heap.get? b=some o->h'.get? b=some o)
  (ht:∀h2,FE e h' h2->(∃old,Lu h2 e it ((i+1:Nat):Int) old)->tn (i+1) h2) :
  Ag (Ap X.prog X.w) X.A (PM (.Tuple elts x1 pos) (.ref e) (.ref s.heap.objs.size)) (λ_ s2=>∃y H',Inv X ζ σ H' s2/\RelV y (.ref s.heap.objs.size)/\(Ite sq).yld i H y H'/\tn (i+1) s2.heap/\∀b∈[e,it],H' b=none) E { s with heap:=h',toks:=tk+1 }:=by
 have fe:=hf e (by simp);have fi:=hf it (by simp);have ne:e≠s.heap.objs.size:=BE le;have ni:it≠s.heap.objs.size:=BE li
 have new:Do X.prog X.w (upd H s.heap.objs.size (.tup [.int i,x])) h' s.heap.objs.size (.tup [.int i,x]):=
  ⟨⟨At (show 2<=1000 by decide) (by decide),_,hT,rfl⟩,[.int i tk,u],.cons ⟨tk,rfl⟩ (.cons ru .nil),_,hT,rfl,_,rfl⟩
 have I1:=I.turned2 (t':=tk+1) hk fe fi (AO _) new
 refine wpAny_letOwnedTupleGo_enum (s:={ s with heap:=h',toks:=tk+1 }) ho λh2 zB wK=>?_
 have ι:FE e h' h2:=wK;have I2:=I1.turned (t':=tk+1) (h':=h2) (it:=e) (λb o hb q=>(ι.2 b hb).trans q) (by rw[Bj ne];exact fe.1) fe.2.1 fe.2.2.2.1 fe.2.2.2.2.1 fe.2.2.2.2.2;refine⟨.ref s.heap.objs.size,_,I2,rfl,⟨s.heap.objs.size,x,I.hok.fresh (AO _),rfl,rfl,hx⟩,ht h2 ι ⟨u,by rw[Int.natCast_add,Int.natCast_one];exact zB⟩,λb hb=>?_⟩
 have wc:b=e∨b=it:=by simpa using hb
 rcases wc with z | z
 ·rw[z,Bj ne];exact fe.1
 ·rw[z,Bj ni];exact fi.1
theorem ZZ(a e it:AW)(wg:e≠it):VR P w K (.Tuple elts x1 pos) (Ite λH xs=>SqL K H a xs) [e,it] e (λi h=>(∃old,Lu h e it i old)/\h.IsListIter it a i) where
 mem:=by simp
 obj:=λi h st b hb=>by
  have wc:b=e∨b=it:=by simpa using hb
  rcases wc with z | z
  ·subst z
   obtain⟨⟨old,he⟩,_⟩:=st
   exact⟨_,he,λv z=>by
    have z':Sr _=Xw v:=z
    cases z'⟩
  ·subst z
   obtain⟨_,o,e,c,d⟩:=st;exact⟨o,e,λv z=>by rw[d]at z;cases z⟩
 keep:=λi h h' st k=>⟨st.1.imp λold he=>k e (by simp) _ he,st.2.at λo q=>k it (by simp) o q⟩
 item:=by
  intro X hP hw hK hc i ζ s σ H E I hf st hg;subst hP hw hK;obtain⟨xs,x,hq,hx⟩:=hg;obtain⟨tx,rv,p,hz⟩:=I.list hq;obtain⟨u,hu,ru⟩:=rv.get hx;obtain⟨⟨old,he⟩,hit⟩:=st
  have li:it < s.heap.objs.size:=by obtain⟨o,q,_⟩:=hit;exact Ac q
  refine wpAny_pyNext_enum_item he hit p.isList (x:=u) (by simpa using hu) wg λh' ho yg hT hsz hk=>?_
  exact⟨_,rfl,Q9 (sq:=λH xs=>SqL X.K H a xs) (tn:=λi h=>(∃old,Lu h e it i old)/\h.IsListIter it a i) I wg hf (Ac he) li ru (λys hy=>by rw[I.list_inj hy hq];exact hx) ho hT hk λh2 wK zB=>⟨zB,yg.at λo q=>(wK.2 it (Br wg)).trans q⟩⟩
 done:=by
  intro X hP hw hK hc i ζ s σ H E I hf st hg;subst hP hw hK;obtain⟨xs,hq,hx⟩:=hg;obtain⟨tx,rv,p,hz⟩:=I.list hq;obtain⟨⟨old,he⟩,hit⟩:=st;obtain⟨f0,f1,f2,f3,f4,f5⟩:=hf it (by simp);have hl:=rv.length
  exact wpAny_pyNext_enum_end (I.ok.hd hc) he hit p.isList (by simp;lia) λh' eb=>⟨rfl,I.turned (t':=s.toks) (λb o hb e=>eb b o hb e) f0 f1 f3 f4 f5⟩
 self:=λ_ _ _ _ _ st h=>by
  obtain⟨⟨old,he⟩,_⟩:=st;exact Gh he h
theorem ZY(a e it:AW)(wg:e≠it)(hae:a≠it)(hef:e≠a):VR P w K (.Tuple elts x1 pos) (Ite λH xs=>SqT K H a xs) [e,it] e (λi h=>(∃old,Lu h e it i old)/\h.IsTupleIter it a i) where
 mem:=by simp
 obj:=λi h st b hb=>by
  have wc:b=e∨b=it:=by simpa using hb
  rcases wc with z | z
  ·subst z
   obtain⟨⟨old,he⟩,_⟩:=st
   exact⟨_,he,λv z=>by
    have z':Sr _=Xw v:=z
    cases z'⟩
  ·subst z
   obtain⟨_,o,e,c,d⟩:=st;exact⟨o,e,λv z=>by rw[d]at z;cases z⟩
 keep:=λi h h' st k=>⟨st.1.imp λold he=>k e (by simp) _ he,st.2.at λo q=>k it (by simp) o q⟩
 item:=by
  intro X hP hw hK hc i ζ s σ H E I hf st hg;subst hP hw hK;obtain⟨xs,x,hq,hx⟩:=hg;obtain⟨tx,rv,p,hz⟩:=I.tuple hq;have p':s.heap.IsTuple a tx.toArray:=p;obtain⟨u,hu,ru⟩:=rv.get hx
  have wo:i < tx.toArray.size:=by
   have:=(AD.mp hu).1;simpa using this
  obtain⟨⟨old,he⟩,hit⟩:=st
  have li:it < s.heap.objs.size:=by obtain⟨o,q,_⟩:=hit;exact Ac q
  refine eI (Y0 (A:=X.A.in1) (I.ok.hd hc) it a hae tx.toArray) he ⟨hit,p'⟩ wo wg (by simp[wg,hef]) λu' h' tk hu' ho zC hT hsz hk=>?_
  have:u'=u:=by
   have ν:tx[i]?=some u':=by simpa using hu'
   rw[hu]at ν;cases ν;rfl
  subst this;exact⟨_,rfl,Q9 (sq:=λH xs=>SqT X.K H a xs) (tn:=λi h=>(∃old,Lu h e it i old)/\h.IsTupleIter it a i) I wg hf (Ac he) li ru (λys hy=>by rw[I.tuple_inj hy hq];exact hx) ho hT hk λh2 wK zB=>⟨zB,zC.1.at λo q=>(wK.2 it (Br wg)).trans q⟩⟩
 done:=by
  intro X hP hw hK hc i ζ s σ H E I hf st hg;subst hP hw hK;obtain⟨xs,hq,hx⟩:=hg;obtain⟨tx,rv,p,hz⟩:=I.tuple hq;obtain⟨⟨old,he⟩,hit⟩:=st;obtain⟨f0,f1,f2,f3,f4,f5⟩:=hf it (by simp);have hl:=rv.length
  exact OX (I.ok.hd hc) he hit (show s.heap.IsTuple a tx.toArray from p) (by simp;lia) λh' eb=>⟨rfl,I.turned (t':=s.toks) (λb o hb e=>eb b o hb e) f0 f1 f3 f4 f5⟩
 self:=λ_ _ _ _ _ st h=>by
  obtain⟨⟨old,he⟩,_⟩:=st;exact Gh he h
end
section
variable{X:Cx}{E:EW}{e:Expr}{elts:List Expr}{x1:Nat}{p pos ο:Pos}{ta:TA}
def vC(K:AG)(ta:TA):TI:=λσ H R=>ta σ H λvs H1=>∃a,vs=[.ref a]/\(((∃xs,SqL K H1 a xs)/\R (Ite λH xs=>SqL K H a xs) H1)∨((∃xs,SqT K H1 a xs)/\R (Ite λH xs=>SqT K H a xs) H1))
theorem lR(hg:Gl X "enumerate") (hm:X.mg "enumerate" = none) (ha:PA X [e] ta) (hs:Ad [e] X.env=[(false,Cj e X.env)]:=by rfl):PI X (.Tuple elts x1 ο) (.Call (.Name "enumerate" p) [e] [] pos) (vC X.K ta):=by
 intro ζ s σ H R I h;refine Call_ (Qx I hg hm boot_enumerate (E2 (thn (ha pos ζ s σ H _ I h) λus s1 ⟨vs,H1,I1,r1,q1⟩=>?_) hs rfl));obtain⟨a,rfl,q1⟩:=q1;obtain⟨u,rfl,ru⟩:=vals1 r1;cases ru
 have fp:∀{h':Cz} (b:AW),b∈[s1.heap.objs.size+1,s1.heap.objs.size]->PJ X ζ H1 b:=λb hb=>by
  have wc:b=s1.heap.objs.size+1∨b=s1.heap.objs.size:=by simpa using hb
  rcases wc with z | z
  ·rw[z];exact I1.fpOk (JN _) (I1.hok.fresh (JN _))
  ·rw[z];exact I1.fpOk (AO _) (I1.hok.fresh (AO _))
 rcases q1 with⟨⟨xs,sq⟩,q⟩ | ⟨⟨xs,sq⟩,q⟩
 ·obtain⟨tx,rv,pl,hz⟩:=I1.list sq
  refine call_enumerate_list pl.isList λh' he hit hsz hk=>Gh he ?_
  exact⟨_,[s1.heap.objs.size+1,s1.heap.objs.size],_,_,H1,rfl,I1.kept (t':=s1.toks) hk,ZZ a _ _ (Sj _),⟨⟨_,he⟩,hit⟩,fp (h':=h'),q⟩
 ·obtain⟨tx,rv,pl,hz⟩:=I1.tuple sq
  have yG:s1.heap.IsTuple a tx.toArray:=pl
  have la:a < s1.heap.objs.size:=by obtain⟨o,q,_⟩:=yG;exact Ac q
  refine N5 yG λh' he hit hsz hk=>Gh he ?_
  exact⟨_,[s1.heap.objs.size+1,s1.heap.objs.size],_,_,H1,rfl,I1.kept (t':=s1.toks) hk,ZY a _ _ (Sj _) (BE la) (Er (IF la)),⟨⟨_,he⟩,hit⟩,fp (h':=h'),q⟩
def UU(ds:List D):List D:=ds.zipIdx.map λx=>.tup [.int x.2,x.1]
def Og(v:SA):SA:=λS=>(v S).map UU
def Jy(m:ME):MI:=λe S=>(m e S).bind λd S1=>match FT d S1 with
 | some _=>.ok (Og (FT d)) S1
 | none=>.bad
theorem UT(ds:List D)(i:Nat):(UU ds)[i]?=(ds[i]?).map λd=>.tup [.int i,d]:=by
 unfold UU;rw[AZ,En]
 cases ds[i]? <;> simp
theorem RN{K}{ρ}{H}{J}{v}{sq}(hJ:OC K ρ H J v)(h1:∀i H,J.go i H->∃xs x,sq H xs/\xs[i]?=some x)(h2:∀i H,J.stop i H->∃xs,sq H xs/\xs.length<=i)
  (h3:∀i H x,(∀xs,sq H xs->xs[i]?=some x)->J.yld i H x H):OC K ρ H (Ite sq) (Og v):=by
 intro ρ2 H2 S ds i l s hv;unfold Og at hv
 cases hd:v S with
 | none=>rw[hd]at hv;cases hv
 | some ds0=>
  rw[hd]at hv;cases hv;obtain⟨a1,a2⟩:=hJ ρ2 H2 S ds0 i l s hd;refine⟨λhn=>?_,λd y9=>?_⟩
  ·rw[UT]at hn
   refine h2 i H2 (a1 ?_)
   cases hq:ds0[i]? with
   | none=>rfl
   | some d=>rw[hq]at hn;cases hn
  ·rw[UT]at y9
   cases hq:ds0[i]? with
   | none=>rw[hq]at y9;cases y9
   | some d0=>
    rw[hq]at y9;cases y9;obtain⟨b1,b2⟩:=a2 d0 hq;refine⟨h1 i H2 b1,λy H' hy=>?_⟩;obtain⟨p,x,hp,rfl,rfl,hx⟩:=hy;obtain⟨ρ3,l3,s3,r3⟩:=b2 x H2 (h3 i H2 x hx);obtain⟨s4,l4⟩:=IY (ho:=.tup [.int i,x]) s3 hp;exact⟨ρ3,l3.trans l4,s4,.tup B2 (.cons (.int _) (.cons (r3.mono l4) .nil))⟩
theorem XG(hg:Gl X "enumerate") (hm:X.mg "enumerate" = none) (h:GE X E e m) (he:Ad [e] X.env=[(false,Cj e X.env)]:=by rfl):GI X E (.Tuple elts x1 ο) (.Call (.Name "enumerate" p) [e] [] pos) (Jy m):=
 (lR hg hm (Ie h Kx he) he).imp λσ H R ⟨ρ,l,S,hl,hs,hm⟩=>by
 refine⟨ρ,l,S,hl,hs,hm.seq λd S1 hm ρ1 H1 x l1 s1 r1=>?_⟩
 cases d with
 | tup ds=>
  have ς:=hm
  cases r1 with
  | @tup _ a vs q1 q2=>
   exact⟨a,rfl,.inr ⟨⟨vs,.inl (.inl q1)⟩,ς ρ1 H1 _ l1 s1 (RN (Su q1 q2) (λi H z=>z) (λi H z=>z) λi H x z=>⟨rfl,z⟩)⟩⟩
 | _=>
  cases hv:FT _ S1 with
  | none=>rw[hv]at hm;exact hm.elim
  | some ds=>
   rw[hv]at hm
   have:∃a,x=.ref a:=by
    cases r1 <;> first | exact⟨_,rfl⟩ | (cases hv;done)
   obtain⟨a,rfl⟩:=this;obtain⟨xs,sq,_⟩:=Sy s1 r1 hv;exact⟨a,rfl,.inl ⟨⟨xs,sq⟩,hm ρ1 H1 _ l1 s1 (RN (Sw r1) (λi H z=>z) (λi H z=>z) λi H x z=>⟨rfl,z⟩)⟩⟩
end
section
theorem bN{s:AQ}{o:Obj}{h':Cz}(hk:∀b u,b∉[s.heap.objs.size]->(s.heap.push o).get? b=some u->h'.get? b=some u):∀b u,s.heap.get? b=some u->h'.get? b=some u:=λb u e=>
 hk b u (λhm=>zX (AU.mp hm▸Ac e) (Ci _)) (AJ _ e)
theorem oY{s:AQ}{o:Obj}{l:AW}(hl:l < s.heap.objs.size):∀b∈[s.heap.objs.size,l],b < (s.heap.push o).objs.size:=λb hb=>by
 rw[C0]
 have wc:b=s.heap.objs.size∨b=l:=by simpa using hb
 rcases wc with rfl | rfl
 ·exact DH _
 ·exact IF hl
end
open PySem
theorem KB{α:Type}{xs:List α}{j:Int}{x:α}(h0:0<=j)(h:xs[j.toNat]?=some x):atI xs j=some x:=by
 have wo:=(AD.mp h).1;unfold atI ixN;rw[qX (by omega),qX (by lia)];simpa using h
theorem Yr{α:Type}(xs:List α){k:Nat}(h:k<=xs.length):Ip xs (some (k:Int)) none=xs.drop k:=by
 unfold Ip;rw[HT.k9,HT.gR,Nat.min_eq_left h];exact Hw (by simp)
theorem qz{α:Type}:∀{l:List α},l.length=1->∃x1,l=[x1]
 | [a],_=>⟨a,rfl⟩
theorem u0{α:Type}:∀{l:List α},l.length=2->∃x1 x2,l=[x1,x2]
 | y :: _,q=>by
  obtain⟨x2,rfl⟩:=qz (PQ q);exact⟨y,x2,rfl⟩
theorem uz{α:Type}:∀{l:List α},l.length=3->∃x1 x2 x3,l=[x1,x2,x3]
 | y :: _,q=>by
  obtain⟨x2,x3,rfl⟩:=u0 (PQ q);exact⟨y,x2,x3,rfl⟩
theorem uy{α:Type}:∀{l:List α},l.length=4->∃x1 x2 x3 x4,l=[x1,x2,x3,x4]
 | y :: _,q=>by
  obtain⟨x2,x3,x4,rfl⟩:=uz (PQ q);exact⟨y,x2,x3,x4,rfl⟩
theorem len5{α:Type}:∀{l:List α},l.length=5->∃x1 x2 x3 x4 x5,l=[x1,x2,x3,x4,x5]
 | y :: _,q=>by
  obtain⟨x2,x3,x4,x5,rfl⟩:=uy (PQ q);exact⟨y,x2,x3,x4,x5,rfl⟩
open PySem PySem.Spec PyProof.Rows
section
def Ti(i:Nat)(g:Int->Int->Int)(m:ME):MS:=λe S=>match e[i]? with
 | some (some (.int x))=>(m e S).lift e λd S1=>match d with
  | .int y=>.ok (.nx (e.set i (some (.int (g x y))))) S1
  | _=>.bad
 | _=>.bad
theorem rc(hN:X.N.Nodup)(hi:X.N[i]?=some x)(hx:Loc X.env.scope x)(hp:PIp X op (ipI g))(he:GE X E e m)
  (hf:X.fn x=true∨X.env.scope.names.lookup x=some .local:=by first | exact .inl rfl | exact .inr rfl | assumption):GS X E (.AugAssign (.Name x pos') op e pos) (Ti i g m):=(qN hN hi hx he hp hf).imp λD σ H ⟨ρ,l,S,hl,hs,hm⟩=>by
 unfold Ti at hm;split at hm
 ·rename_i n hn
  obtain⟨v,h1,h2⟩:=hl.at' i _ hn;cases h2;refine⟨_,h1,ρ,l,S,hl,hs,hm.lift hl .refl λd S1 hm ρ1 H1 y l1 s1 r1=>?_⟩
  cases d with
  | int y=>cases r1;exact⟨n,y,rfl,rfl,hm ρ1 H1 _ l1 s1 ((hl.mono l1).set (.int _) i)⟩
  | _=>exact hm.elim
 ·exact hm.elim
end
open PySem PySem.Spec PyProof.Rows
section
theorem YN{K}{ρ}{H}:∀{ns:List Int} {vs:List V},Az K ρ H (ns.map D.int) vs->vs=ns.map V.int
 | [],_,.nil=>rfl
 | n :: ns,_,.cons r t=>by
  cases r;rw[YN t];rfl
end
end L2
namespace PySem
open Sem (wp)
open AutoSeq1 (wpAny_loadPart')
section
variable{w:CL}{A:CO}{E:AI->AQ->Prop}{s:AQ}
theorem YW(hl:oj (.type T) "__init__" = pure (some (.builtin "object.__init__"))) (hm:Bind.madeBy (.type T)=pure (some newId)) (wg:(some newId != some "object.__new__")=true) (hr:(!rest.isEmpty||!kw.isEmpty)=true) :
  Meets (RM.«object.__init__» ⟨self :: rest,kw⟩) (λ_ R s=>s.TypeIs self T/\R (.ok (.ret .none)) s):=by
 refine Meets.of_wp λprog w A R s hs=>?_
 obtain⟨hT,hq⟩:=hs;unfold RM.«object.__init__»;dsimp only;rw[qX hr];(repeat(any_goals (first | assumption | wp_step)));exact⟨_,rfl,hq⟩
theorem aL(ft:TypeCalled T newId "object.__init__") (wg:(some newId != some "object.__new__")=true) (hr:(!args.isEmpty||!kw.isEmpty)=true)
  (hct:checkTypeCall T ⟨args,kw⟩=pure ()) (Ι:checkBuiltinCall newId ⟨.type T :: args,kw⟩=pure ()) (hok:∀obj,argsOk "object.__init__" ⟨obj :: args,kw⟩) (zD:entryFor table newId=some Bn) (g:Meets (Bn ⟨.type T :: args,kw⟩) S)
  (h:S A.in1 (wants (λobj s₁=>s₁.TypeIs obj T/\Q obj s₁) E) s):Ag (Ap prog w) A (call (.type T) args kw) Q E s:=by
 obtain⟨c,tl,hmro⟩:=ft.mro;have hmade:=ft.made;have ye:=ft.sub;refine oh (codeAny_of_tree ?_);show Ag _ _ (callAny (.type T) _) _ _ _;refine AL ⟨Code.quiet_builtin _ (by decide +kernel),PN F.entry_type_call ?_⟩;rw[CO.under_plain (weight_type_call_type T args kw) (units_type_call_type T args kw)];have h1:=ft.notType;have h2:=ft.canCreate;(repeat(any_goals (first | assumption | wp_step)))
 refine LN (jm ft.plain zD (Xd Ι (g prog w A.in1 _ s h))) λr s₁ hr₁=>?_
 cases r with
 | error e=>exact hr₁
 | ok fl=>
  cases fl with
  | ret obj=>
   obtain⟨hT,hq⟩:=hr₁;have hli:=ft.init.lookup;have hbi:=ft.init.bind obj;(repeat(any_goals (first | assumption | wp_step)))
   refine LN (jm (R:=wants (λr s₂=>r=.none/\Q obj s₂) E) ft.init.plain F.entry_object_init (ft.init.check _ _ _ _ _ _ _ _ hT (hok obj) (YW ft.init.lookup ft.made wg hr prog w A.in1 _ s₁ ⟨hT,rfl,hq⟩))) λr₂ s₂ hr₂=>?_
   cases r₂ with
   | error e=>exact hr₂
   | ok fl₂=>
    cases fl₂ with
    | ret r=>
     obtain⟨rfl,hq⟩:=hr₂;(repeat(any_goals (first | assumption | wp_step)))
    | _=>exact hr₂.elim
  | _=>exact hr₁.elim
theorem NA(l:AW)(items:Array AI)(n:Nat)(zz:Option AW)(sl:Array (Option AI))(t:Tok) :
  Meets (RM.«enumerate.__new__» ⟨[.type "enumerate",.ref l],[("start",.int 1 t)]⟩) (λ_ R s=>s.heap.get? l=some { cls:=.type "tuple",dict:=zz,data:=.seq items n,slots:=sl } /\
   R (.ok (.ret (.ref (s.heap.push { cls:=.type "tuple_iterator",data:=.fields #[.ref l,.int 0 0] }).objs.size)))
    { s with heap:=(s.heap.push { cls:=.type "tuple_iterator",data:=.fields #[.ref l,.int 0 0] }).push { cls:=.type "enumerate",data:=.fields #[.none,.bool false,.ref s.heap.objs.size,Ln 1,.none,.none] } }):=
 .of_wp λprog w A R s h=>by
  obtain⟨hp,g,d,tk,os⟩:=s;obtain⟨hl,h⟩:=h;have ye:=sub_enumerate;have hL:tG (ox ⟨hp,g,d,tk,os⟩) l items:=⟨_,hl,rfl,n,rfl⟩
  wp_walk using De hl
  refine vb λst=>AL ?_
  split
  ·rename_i c _ _ _ _ _
   cases(c==GM "enumerate")
   ·wp_walk using De hl,DJ hL
    exact⟨_,rfl,h⟩
   ·wp_walk using De hl,DJ hL
    exact⟨_,rfl,h⟩
  ·wp_walk using De hl,DJ hL
   exact⟨_,rfl,h⟩
end
section
variable{w:CL}{A:CO}{E:AI->AQ->Prop}{s:AQ}
theorem NC(hL:s.heap.IsTuple l items)
  (h:∀h',Lu h' (s.heap.objs.size+1) s.heap.objs.size 1 .none->h'.IsTupleIter s.heap.objs.size l 0->h'.objs.size=s.heap.objs.size+2 ->
   (∀b o,s.heap.get? b=some o->h'.get? b=some o)->Q (.ref (s.heap.objs.size+1)) { s with heap:=h' }) :
  Ag (Ap prog w) A (call (.type "enumerate") [.ref l] [("start",.int 1 t)]) Q E s:=by
 obtain⟨⟨c,zz,dt,sl⟩,hl,hc,n,hd⟩:=hL
 replace hc:c=.type "tuple":=hc
 replace hd:dt=.seq items n:=hd
 subst hc hd
 refine aL jy (by decide) rfl (by kernel_rfl) (by kernel_rfl) (λobj=>by
  unfold argsOk;rw[signature?_of (id:="object.__init__") (n:=['_','_','t','i','n','i','_','_']) (o:=['t','c','e','j','b','o']) (by kernel_rfl) F.owner_object];kernel_rfl) eV
  (NA l items n zz sl t) ⟨hl,?_⟩
 have hz:(s.heap.push { cls:=.type "tuple_iterator",data:=.fields #[.ref l,.int 0 0] }).objs.size=s.heap.objs.size+1:=C0 ..;show _/\_;rw[hz]
 have he:Lu ((s.heap.push { cls:=.type "tuple_iterator",data:=.fields #[.ref l,.int 0 0] }).push
   { cls:=.type "enumerate",data:=.fields #[.none,.bool false,.ref s.heap.objs.size,Ln 1,.none,.none] }) (s.heap.objs.size+1) s.heap.objs.size 1 .none:=by
  have:=Aa (s.heap.push { cls:=.type "tuple_iterator",data:=.fields #[.ref l,.int 0 0] })
   (o:={ cls:=.type "enumerate",data:=.fields #[.none,.bool false,.ref s.heap.objs.size,Ln 1,.none,.none] }) rfl
  rw[hz]at this;exact this
 refine⟨⟨_,he,rfl⟩,h _ he ⟨_,AJ _ (Aa _ rfl),rfl,rfl⟩ (by rw[C0,hz]) λb o x=>AJ _ (AJ _ x)⟩
theorem Tz(hh:A.handled=none)
  (he:Lu s.heap e it j old) (hit:s.heap.IsTupleIter it l i) (hl:s.heap.IsTuple l items) (hx:items[i]?=none)
  (hQ:∀h',Sq it s.heap h'->Q none { s with heap:=h' }):Ag (Ap prog w) A (Lp (.ref e)) Q E s:=by
 have hT:s.TypeIs (.ref e) "enumerate":=⟨_,he,rfl⟩;unfold Lp
 refine AB (NJ (Ch (name:=Gp "__next__") hT JJ
  (DP JJ hT cT ?_ (ai _))))
 show Ag _ _ (si (.ref e) 2 >>= _) _ _ _;refine AB (G2 he rfl (x:=.ref it) rfl (AB (GV hh hit hl hx λh' x θ zA=>?_)));obtain⟨o,ho,hc⟩:=zA;exact AB (V9 (T:="StopIteration") (b:=true) ⟨o,ho,hc⟩ ZF (AL (hQ _ θ)))
theorem Xc(hh:A.handled=none)(it l:AW)(wg:l≠it)(items:Array AI) :
  Draws prog w A it [it,l] (items.size+1) (λi v=>items[i - 1]?=some v) (λi h=>1<=i/\h.IsTupleIter it l (i - 1)/\h.IsTuple l items) where
 live:=λ_ _ st=>let ⟨o,ho,_⟩:=st.2.1;⟨o,ho⟩
 frame:=λ_ _ _ st hk=>⟨st.1,st.2.1.at λo e=>hk it (by simp) o e,let ⟨o,ho,r⟩:=st.2.2;⟨o,hk l (by simp) o ho,r⟩⟩
 item:=λi s Q E hi st hQ=>by
  obtain⟨h1,st⟩:=st
  have wo:i - 1 < items.size:=by omega
  refine Ke st.1 st.2 (x:=items[i - 1]) (by simp[wo]) λh' yg yZ=>?_
  refine hQ _ h' s.toks (by simp[wo]) ⟨by lia,?_,st.2.extBut yZ.extBut wg⟩ yZ;rw[show i+1 - 1=i - 1+1 by lia];exact yg
 done:=λs Q E st hE=>GV hh st.2.1 st.2.2 (by simp) hE
end
end PySem
namespace L2
open PySem PySem.Spec PyProof.Rows
def sX(sq:Hp->List V->Prop):It:=
 ⟨λi H=>∃xs x,sq H xs/\xs[i]?=some x,λi H y H'=>∃p x,H p=none/\y=.ref p/\H'=upd H p (.tup [.int ((i+1:Nat):Int),x])/\∀xs,sq H xs->xs[i]?=some x,λi H=>∃xs,sq H xs/\xs.length<=i⟩
section
variable{P:Bg}{w:CL}{K:AG}{elts:List Expr}{x1:Nat}{pos:Pos}
theorem X6(a e it:AW)(wg:e≠it)(hae:a≠it)(hef:e≠a):VR P w K (.Tuple elts x1 pos) (sX λH xs=>SqT K H a xs) [e,it] e (λi h=>(∃old,Lu h e it ((i+1:Nat):Int) old)/\h.IsTupleIter it a i) where
 mem:=by simp
 obj:=λi h st b hb=>by
  have wc:b=e∨b=it:=by simpa using hb
  rcases wc with z | z
  ·subst z
   obtain⟨⟨old,he⟩,_⟩:=st
   exact⟨_,he,λv z=>by
    have z':Sr _=Xw v:=z
    cases z'⟩
  ·subst z
   obtain⟨_,o,e,c,d⟩:=st;exact⟨o,e,λv z=>by rw[d]at z;cases z⟩
 keep:=λi h h' st k=>⟨st.1.imp λold he=>k e (by simp) _ he,st.2.at λo q=>k it (by simp) o q⟩
 item:=by
  intro X hP hw hK hc i ζ s σ H E I hf st hg;subst hP hw hK;obtain⟨xs,x,hq,hx⟩:=hg;obtain⟨tx,rv,p,hz⟩:=I.tuple hq;have p':s.heap.IsTuple a tx.toArray:=p;obtain⟨u,hu,ru⟩:=rv.get hx
  have wo:i < tx.toArray.size:=by
   have:=(AD.mp hu).1;simpa using this
  obtain⟨⟨old,he⟩,hit⟩:=st
  have li:it < s.heap.objs.size:=by obtain⟨o,q,_⟩:=hit;exact Ac q
  refine eI (Xc (A:=X.A.in1) (I.ok.hd hc) it a hae tx.toArray) (i:=i+1) he ⟨by lia,hit,p'⟩ (by lia) wg (by simp[wg,hef]) λu' h' tk hu' ho zC hT hsz hk=>?_
  have:u'=u:=by
   have ν:tx[i]?=some u':=by simpa using hu'
   rw[hu]at ν;cases ν;rfl
  subst this
  have t:=Q9 (i:=i+1) (E:=E) (elts:=elts) (x1:=x1) (pos:=pos) (sq:=λH xs=>∃y ys,xs=y :: ys/\SqT X.K H a ys) (tn:=λj h=>(∃old,Lu h e it (j:Int) old)/\h.IsTupleIter it a (j - 1)) I wg hf (Ac he) li ru (λys hy=>by
   obtain⟨y,ys',rfl,hy⟩:=hy;rw[Xt,I.tuple_inj hy hq]
   exact hx) ho hT hk λh2 wK zB=>⟨zB,zC.2.1.at λo q=>(wK.2 it (Br wg)).trans q⟩
  refine⟨_,rfl,Ei t (λ_ s2 h2=>?_) λ_ _ z=>z⟩;obtain⟨y,H',q1,q2,⟨p,x,e1,e2,e3,e4⟩,q4,q5⟩:=h2;exact⟨y,H',q1,q2,⟨p,x,e1,e2,e3,λzs hz=>by simpa using e4 (x :: zs) ⟨x,zs,rfl,hz⟩⟩,q4,q5⟩
 done:=by
  intro X hP hw hK hc i ζ s σ H E I hf st hg;subst hP hw hK;obtain⟨xs,hq,hx⟩:=hg;obtain⟨tx,rv,p,hz⟩:=I.tuple hq;obtain⟨⟨old,he⟩,hit⟩:=st;obtain⟨f0,f1,f2,f3,f4,f5⟩:=hf it (by simp);have hl:=rv.length
  exact Tz (I.ok.hd hc) he hit (show s.heap.IsTuple a tx.toArray from p) (by simp;lia) λh' eb=>⟨rfl,I.turned (t':=s.toks) (λb o hb e=>eb b o hb e) f0 f1 f3 f4 f5⟩
 self:=λ_ _ _ _ _ st h=>by
  obtain⟨⟨old,he⟩,_⟩:=st;exact Gh he h
end
section
variable{X:Cx}{E:EW}{e:Expr}{elts:List Expr}{x1:Nat}{p pos ο kp vp:Pos}{j1:Nat}{ta:TA}
def rS(K:AG)(ta:TA):TI:=λσ H R=>ta σ H λvs H1=>∃a,vs=[.ref a]/\(∃xs,SqT K H1 a xs)/\R (sX λH xs=>SqT K H a xs) H1
theorem R9{M}{A}{E}{s}{env}{pos}{T}{e}{rest}{kws}{Q}
  (h:Ag M A (spliced (EB pos (Ad (e :: rest) env))) (λvs s₁=>Ag M A (evalAll ((KL pos (Fd kws env)).map (·.2)))
   (λf' s₂=>Ag M A (call (.type T) vs (((KL pos (Fd kws env)).filterMap (·.1)).zip f')) Q E s₂) E s₁) E s)
  (he:EB pos (Ad (e :: rest) env)=(false,Cj e env) :: EB pos (Ad rest env)) (wR:(EB pos (Ad (e :: rest) env)).any (·.1)=false)
  (ya:(KL pos (Fd kws env)).all (·.1.isSome)=true) (hkw:(KL pos (Fd kws env)).any (·.1.isNone)=false) :
  Ag M A (jn pos (.type T) [] (EB pos (Ad (e :: rest) env)) (KL pos (Fd kws env))) Q E s:=by
 have h2:Ag M A (evalArgs (.type T) true (EB pos (Ad (e :: rest) env)) (KL pos (Fd kws env))) (λa s₁=>Ag M A (call (.type T) ([]++a.pos) a.kw) Q E s₁) E s:=by
  rw[he]at h ⊢;exact evalArgs_kwB ya h
 unfold jn;refine AB (E1 (Ei h2 (λa s₁ h₁=>AB (cD ?_)) λ_ _ x=>x));simp only[wR,hkw,Bool.or_false];exact AB (AL (AB (Ei h₁ (λr s₂ hr=>AB (E1 (wpAny_point (AL hr)))) λ_ _ x=>x)))
theorem gk(hg:Gl X "enumerate") (hm:X.mg "enumerate" = none) (ha:PA X [e] ta) (hs:Ad [e] X.env=[(false,Cj e X.env)]:=by rfl) :
  PI X (.Tuple elts x1 ο) (.Call (.Name "enumerate" p) [e] [⟨some "start",.Constant (.int 1) j1 vp,kp⟩] pos) (rS X.K ta):=by
 intro ζ s σ H R I h;refine IE (Qx I hg hm boot_enumerate ?_ (by decide) (by decide));refine R9 (thn (ha pos ζ s σ H _ I h) λus s1 ⟨vs,H1,I1,r1,q1⟩=>?_) (by rw[hs];rfl) (by rw[hs];rfl) rfl rfl;obtain⟨a,rfl,⟨xs,sq⟩,q⟩:=q1;obtain⟨u,rfl,ru⟩:=vals1 r1;cases ru;refine kws_cons ?_
 refine thn (gm (X:=X) (i:=1) (j:=j1) (pos:=vp) ζ s1 σ H1 (λx H2=>x=.int 1/\H2=H1) I1 ⟨rfl,rfl⟩) λv s2 ⟨x,H2,I2,r2,e1,e2⟩=>?_
 subst e1 e2;obtain⟨t,rfl⟩:=r2;refine kws_nil ?_;show Ag _ _ (call (.type "enumerate") [.ref a] [("start",.int 1 t)]) _ _ _;obtain⟨tx,rv,pl,hz⟩:=I2.tuple sq;have yG:s2.heap.IsTuple a tx.toArray:=pl
 have la:a < s2.heap.objs.size:=by obtain⟨o,q,_⟩:=yG;exact Ac q
 refine NC yG λh' he hit hsz hk=>Gh he ?_
 refine⟨_,[s2.heap.objs.size+1,s2.heap.objs.size],_,_,_,rfl,I2.kept (t':=s2.toks) hk,X6 a _ _ (Sj _) (BE la) (Er (IF la)),⟨⟨_,he⟩,hit⟩,λb hb=>?_,q⟩
 have wc:b=s2.heap.objs.size+1∨b=s2.heap.objs.size:=by simpa using hb
 rcases wc with z | z
 ·rw[z];exact I2.fpOk (JN _) (I2.hok.fresh (JN _))
 ·rw[z];exact I2.fpOk (AO _) (I2.hok.fresh (AO _))
def Kk(ds:List D):List D:=ds.zipIdx.map λx=>.tup [.int ((x.2+1:Nat):Int),x.1]
theorem RY(ds:List D)(i:Nat):(Kk ds)[i]?=(ds[i]?).map λd=>.tup [.int ((i+1:Nat):Int),d]:=by
 unfold Kk;rw[AZ,En]
 cases ds[i]? with
 | none=>rfl
 | some d=>simp
theorem WT{K}{ρ}{H}{a}{ds}{xs}(h1:H a=some (.tup xs))(h2:Az K ρ H ds xs):OC K ρ H (sX λH xs=>SqT K H a xs) (Gu (Kk ds)):=by
 intro ρ2 H2 S xf i l s hv;cases hv;have rr:=h2.mono l;have sq:SqT K H2 a xs:=.inl (.inl (l.tup _ _ h1));refine⟨λhn=>⟨xs,sq,?_⟩,λd hd=>?_⟩
 ·rw[RY]at hn
  rw[<-rr.length]
  cases hq:ds[i]? with
  | none=>exact Cp.mp hq
  | some d=>rw[hq]at hn;cases hn
 ·rw[RY]at hd
  cases hq:ds[i]? with
  | none=>rw[hq]at hd;cases hd
  | some d0=>
   rw[hq]at hd;cases hd;obtain⟨x,hx,rx⟩:=rr.get hq;refine⟨⟨xs,x,sq,hx⟩,λy H' ⟨p,x',e1,e2,e3,e4⟩=>?_⟩;subst e2 e3;have:=e4 xs sq;rw[hx]at this;cases this;obtain⟨s4,l4⟩:=IY (ho:=.tup [.int ((i+1:Nat):Int),x]) s e1;exact⟨ρ2,l4,s4,.tup B2 (.cons (.int _) (.cons (rx.mono l4) .nil))⟩
def SS(m:ME):MI:=λe S=>(m e S).bind λd S1=>match d with
 | .tup ds=>.ok (Gu (Kk ds)) S1
 | _=>.bad
theorem ik(hg:Gl X "enumerate") (hm:X.mg "enumerate" = none) (h:GE X E e m) (he:Ad [e] X.env=[(false,Cj e X.env)]:=by rfl) :
  GI X E (.Tuple elts x1 ο) (.Call (.Name "enumerate" p) [e] [⟨some "start",.Constant (.int 1) j1 vp,kp⟩] pos) (SS m):=
 (gk hg hm (Ie h Kx he) he).imp λσ H R ⟨ρ,l,S,hl,hs,hm⟩=>by
 refine⟨ρ,l,S,hl,hs,hm.seq λd S1 hm ρ1 H1 x l1 s1 r1=>?_⟩
 cases d with
 | tup ds=>
  have ς:=hm
  cases r1 with
  | @tup _ a vs q1 q2=>exact⟨a,rfl,⟨vs,.inl (.inl q1)⟩,ς ρ1 H1 _ l1 s1 (WT q1 q2)⟩
 | _=>exact hm.elim
end
open PySem PySem.Spec PyProof.Rows
theorem sA{P}{w}{K}{mg}{base}{CX}{k n}{f}{fd}{ps}:Cg P w K mg base CX k f fd ps (spM K n λ_ _=>.bad):=
 ⟨λ_ _ _ _ ⟨_,_,_,_,_,_,h⟩=>h.elim,λ_ _ _ _ _ _ _ _ _ _ _ _ _ ⟨_,_,_,_,_,_,h⟩=>h.elim⟩
end L2
namespace HT
open PySem PySem.Spec PyProof.Rows
section
variable{E:AI->AQ->Prop}
theorem P7{t sl}{items}{vl vu}{lo hi}{Q}(ht:ZM s.heap t items)(hs:s.heap.IsSliceOf sl vl vu .none)(pl:QT vl lo)(pu:QT vu hi)
  (hw:sIx items.size 0 lo=0/\sIx items.size items.size hi=items.size) (h:Q (.ref t) s):Ag (Ap prog w) A (LL (.ref t) (.ref sl)) Q E s:=by
 obtain⟨os,yC,hcs,Γ⟩:=id hs;have hTs:s.TypeIs (.ref sl) "slice":=⟨os,yC,hcs⟩;unfold LL
 try with_reducible refine E1 ?_
 first | refine AB (AL ?_) | skip
 refine AB (sZ ht.typeIs (by decide) (AB (Ch (name:=Gp "__getitem__") ht.typeIs CV
  (DP CV ht.typeIs nY ?_ (ot _ _)))))
 show Ag (Ap prog w) _ (Pa (.ref t) >>= _) _ _ s;refine AB (tupleItemsOf_ ht (AB (Ui hTs ?_)));rw[qX (by decide)];refine AB (LW hs pl pu ?_);show Ag (Ap prog w) _ (if (((sIx items.size 0 lo:Nat):Int)==0&&(1:Int)==1&&(sIx items.size items.size hi - sIx items.size 0 lo)==items.size)=true then _ else _) _ _ s;rw[hw.1,hw.2,qX (by simp)];unfold tY;refine AB (AB (Ui ht.typeIs (AL ?_)));rw[qX (by decide)];exact AB (ZB (AB (AL (AL ⟨_,rfl,AL h⟩))))
end
end HT
namespace L2
open PySem PySem.Spec PyProof.Rows
section
variable{X:Cx}
def rSlW(K:AG):V->Option Int->Option Int->Hp->VK->Prop:=λx lo hi H Q=>∃a xs,x=.ref a/\SqT K H a xs/\(HT.sIx xs.length 0 lo=0/\HT.sIx xs.length xs.length hi=xs.length)/\Q (.ref a) H
theorem p8:SlR X (rSlW X.K):=by
 intro ζ s σ H x v vl vu lo hi sl Q I rx hs pl pu h;obtain⟨a,xs,rfl,hx,hw,q⟩:=h;cases rx;obtain⟨tx,r,ht,_⟩:=I.tuple hx
 have hlen:tx.toArray.size=xs.length:=by rw[Ak];exact r.length.symm
 exact⟨"tuple",_,CV.lookup,ht.typeIs,HT.P7 ht hs pl pu (by rw[hlen];exact hw) ⟨.ref a,H,I,rfl,q⟩⟩
def p7(d:D)(lo hi:Option Int)(S:Sto):Res D:=match d with
 | .tup ds=>.ok (.tup (Ip ds lo hi)) S
 | _=>.bad
def SN(m:ME)(ml mh:MO):ME:=λe S=>(m e S).bind λd S1=>(ml e S1).bind λlo S2=>(mh e S2).bind λhi S3=>okR (p7 d lo hi S3)
variable{E:EW}{e:Expr}{lo hi:Option Expr}{pos p2:Pos}{m:ME}{ml mh:MO}
theorem nC{α:Type}(xs:List α)(lo hi:Option Int)(h:HT.sIx xs.length 0 lo=0/\HT.sIx xs.length xs.length hi=xs.length):Ip xs lo hi=xs:=by
 unfold Ip;rw[h.1,h.2];simp
theorem de(he:GE X E e m)(hl:GO X E lo ml)(hu:GO X E hi mh):GE X E (.Subscript e (.Slice lo hi none p2) pos) (SN m ml mh):=(YS (p8.or gJ) he hl hu).imp λσ H Q ⟨ρ,l,S,hl,hs,hm⟩=>by
 refine⟨ρ,l,S,hl,hs,hm.seq λd S1 hm ρ1 H1 x l1 s1 r1=>⟨ρ1,l,S1,hl.mono l1,s1,(hm.later l1).seq λlo S2 hm ρ2 H2 l2 s2=>⟨ρ2,l,S2,hl.mono (l1.trans l2),s2,(hm.later l2).seq λhi S3 hm ρ3 H3 l3 s3=>?_⟩⟩⟩;obtain⟨d',S',e,k⟩:=hm.okR;have r3:=r1.mono (l2.trans l3)
 cases d with
 | tup ds=>
  cases e
  cases r3 with
  | @tup _ a vs h1 h2=>
   by_cases hw:HT.sIx vs.length 0 lo=0/\HT.sIx vs.length vs.length hi=vs.length
   ·refine .inl ⟨a,vs,rfl,.inl (.inl h1),hw,k _ _ _ (l1.trans (l2.trans l3)) s3 ?_⟩
    rw[nC ds lo hi (by rw[h2.length];exact hw)];exact .tup h1 h2
   ·refine .inr ⟨a,vs,rfl,.inl (.inl h1),hw,λq hq=>?_⟩
    obtain⟨s4,l4⟩:=IY (ho:=.tup (R8 vs lo hi)) s3 hq;exact k _ _ _ (l1.trans (l2.trans (l3.trans l4))) s4 (.tup B2 ((UX h2 lo hi).mono l4))
 | _=>cases e
end
section
instance(i j:Int):Decidable ((λ_ j:Int=>0<=j) i j):=inferInstanceAs (Decidable (0<=j))
abbrev Qe:=intOp jY λi j=>.int (i * 2 ^ j.toNat)
abbrev YA:=intOp (λ_ j=>0<=j) λi j=>.int (i / 2 ^ j.toNat)
abbrev RH:=intOp (λ_ _=>True) λi j=>.int (BG i j)
abbrev pC:=intOp (λ_ _=>True) λi j=>.int (CC i j)
theorem Ni:OpR X (Cy .LShift) (rD X.K Qe):=Qr (λ_ _ _ _=>.int _) qh
theorem Zt:OpR X (Cy .RShift) (rD X.K YA):=Qr (λ_ _ _ _=>.int _) qg
theorem Nj:OpR X (Cy .BitAnd) (rD X.K RH):=MW (λ_ _ _ _=>.int _) qm
theorem qq:OpR X (Cy .BitXor) (rD X.K pC):=MW (λ_ _ _ _=>.int _) qe
theorem bd:PIp X .BitOr (ipI λi j=>Ce i j):=by
 intro ζ s σ H x y v u Q I r1 r2 h;obtain⟨i,j,e1,e2,q⟩:=h;subst e1;subst e2;obtain⟨a,rfl⟩:=r1;obtain⟨b,rfl⟩:=r2;exact ior_int ⟨.int _,H,I.tok _,⟨_,rfl⟩,q⟩
theorem rK:PIp X .BitAnd (ipI λi j=>BG i j):=by
 intro ζ s σ H x y v u Q I r1 r2 h;obtain⟨i,j,e1,e2,q⟩:=h;subst e1;subst e2;obtain⟨a,rfl⟩:=r1;obtain⟨b,rfl⟩:=r2;exact iand_int ⟨.int _,H,I.tok _,⟨_,rfl⟩,q⟩
theorem rJ:PIp X .BitXor (ipI λi j=>CC i j):=by
 intro ζ s σ H x y v u Q I r1 r2 h;obtain⟨i,j,e1,e2,q⟩:=h;subst e1;subst e2;obtain⟨a,rfl⟩:=r1;obtain⟨b,rfl⟩:=r2;exact ixor_int ⟨.int _,H,I.tok _,⟨_,rfl⟩,q⟩
end
def Kf(C:AW)(m:Str)(n:Nat)(f:List D->Sto->Res D)(mo:ME)(ml:ML):ME:=λe S=>(mo e S).bind λd S1=>match d with
 | .ref k=>match S1[k]? with
  | some (.ins C' fs)=>if C'=C/\fs.lookup m=none then(ml e S1).bind λds S2=>if ds.length+1=n then f (.ref k :: ds) S2 else .bad else .bad
  | _=>.bad
 | _=>.bad
theorem KVR.none{K}{ρ}{H}(f:Str):∀{x:List (Str×D)} {y:List (Str×V)},KVR K ρ H x y->x.lookup f=none->y.lookup f=none
 | _,_,.nil,_=>rfl
 | (g,a) :: x,(g',b) :: y,.cons r t,h=>by
  obtain⟨r1,r2⟩:=r;dsimp only at r1 r2;subst r1;rw[Bd]at h ⊢
  cases hq:(f==g)with
  | true=>rw[hq]at h;cases h
  | false=>rw[hq]at h;exact KVR.none f t h
section
variable{X:Cx}{E:EW}{k n:Nat}{f C:AW}{m:Str}{mo:ME}{ml:ML}{g:List D->Sto->Res D}
theorem fm{t:TA}{σ:St}{H:Hp}{Q:VK}(h:gE X.K E (Kf C m n g mo ml) σ H Q):oB C m (spM X.K n g) [] (WN E) (gE X.K E mo) (gA X.K E ml) σ H Q:=by
 obtain⟨ρ,l,S,hl,hs,hm⟩:=h;refine⟨ρ,l,S,hl,hs,hm.seq λd S1 hm ρ1 H1 x l1 s1 r1=>?_⟩
 cases d <;> first | exact hm.elim | skip
 rename_i q;dsimp only at hm
 cases ho:S1[q]? with
 | none=>rw[ho]at hm;exact hm.elim
 | some ob=>
  rw[ho]at hm
  cases ob <;> first | exact hm.elim | skip
  rename_i C' fs;dsimp only at hm;split at hm
  ·rename_i hC
   obtain⟨hC,hno⟩:=hC;rw[hC]at ho
   cases r1 with
   | ref xg=>
    obtain⟨dx,yp,e1,e2⟩:=s1.ob q _ _ ho xg;refine⟨_,dx,yp,rfl,e1,KVR.none m e2 hno,ρ1,l,S1,hl.mono l1,s1,(hm.later l1).seq λds S2 hm ρ2 H2 xs l2 s2 r2=>?_⟩;split at hm
    ·rename_i hlen
     rw[Bq];exact⟨ρ2,.ref q :: ds,S2,by simpa using hlen,.cons (.ref (l2.pre _ _ xg)) r2,s2,hm.xk l2 λ_ _ k ρ' H' z l' s' r'=>k ρ' H' z (l1.trans (l2.trans l')) s' r'⟩
    ·exact hm.elim
  ·exact hm.elim
theorem Kh{pl:Sem Bool}(ho:GE X E o mo)(c:Cls X.K C)(hm:VV X.K C m f)(F:Cg X.prog X.w X.K X.mg X.base CX k f fd ps (spM X.K n g))(hx:Mv CX X (WN E))(hr:Hu k X.A)(hb:Binds X.K fd ps [])(ha:GA X E (e :: es) ml)
  (yB:Ad (e :: es) X.env=(false,Cj e X.env) :: Ad es X.env:=by rfl) (wD:(EB pos (Ad es X.env)).any (·.1)=false:=by rfl)
  (ht:Cj (.Call (.Attribute o m apos) (e :: es) [] pos) X.env=(do
   let ov <-Cj o X.env
   Y4 apos.atName
   let (f,fts) <-Oq [ov] (eJ ov m pl)
   jn pos f fts (EB pos (Ad (e :: es) X.env)) (KL pos (Fd [] X.env))):=by rfl) :
  GE X E (.Call (.Attribute o m apos) (e :: es) [] pos) (Kf C m n g mo ml):=
 (lV (E:=WN E) ho c hm F hr hb .nil hx ha yB wD ht).imp λσ H Q h=>fm (t:=gA X.K E ml) h
end
section
def uV:V->List V->Hp->VK->Prop:=λx vs H Q=>∃i,x=.int i/\vs=[]/\Q (.int (Dp i)) H
theorem mH:MtR X "int.bit_length" uV:=by
 intro ζ s σ H x vs v us Q I rx rv h;obtain⟨i,rfl,rfl,q⟩:=h;obtain⟨t,rfl⟩:=rx;cases rv;exact call_int_bit_length ⟨.int _,H,I.tok _,⟨_,rfl⟩,q⟩
def bU(m:ME):ME:=λe S=>(m e S).bind λd S1=>match d with
 | .int i=>.ok (.int (Dp i)) S1
 | _=>.bad
theorem mj(ho:GE X E o mo)(wO:Ht o "bit_length" X.env (Cj o X.env)=Cj o X.env:=by rfl) (wQ:(apos.endLine==wz.line)=true:=by rfl) :
  GE X E (.Call (.Attribute o "bit_length" apos) [] [] wz) (bU mo):=(qc PySem.F.plainAttrs_int PySem.F.slot_int_bit_length PySem.F.type_int_bit_length mH ho wO wQ).imp λσ H Q ⟨ρ,l,S,hl,hs,hm⟩=>by
 refine⟨ρ,l,S,hl,hs,hm.seq λd S1 hm ρ1 H1 v l1 s1 r1=>?_⟩
 cases d <;> first | exact hm.elim | skip
 cases r1;exact⟨rfl,_,rfl,rfl,hm ρ1 H1 _ l1 s1 (.int _)⟩
end
section
def uS(K:AG):V->V->Hp->VK->Prop:=λo i H Q=>∃p xs k z,o=.ref p/\i=.int k/\0<=k/\H p=some (.lst xs)/\xs[k.toNat]?=some z/\Q z H
theorem im:vZ X (uS X.K):=by
 intro ζ s σ H o i ov iv Q I ro ri h;obtain⟨p,xs,k,z,rfl,rfl,h0,hp,hz,q⟩:=h;cases ro;obtain⟨t,rfl⟩:=ri;obtain⟨tx,n,r,ho,hsz⟩:=I.lst hp
 obtain⟨u,hu,ru⟩:∃u,tx[k.toNat]?=some u/\RelV z u:=r.get hz
 have wo:k.toNat < xs.length:=(AD.mp hz).1;have hn:=Qw;exact getItem_listL (l:=tx) ⟨_,ho,rfl,n,rfl⟩ h0 (by omega) hu ⟨z,H,I,ru,q⟩
def YG(g:Int->Int->Int)(mo mi mv:ME):MS:=λe S=>(mo e S).lift e λd S1=>(mi e S1).lift e λk S2=>match atL d S2,k with
 | some (_,xs),.int i=>if 0<=i then(match xs[i.toNat]? with
  | some (.int x)=>(mv e S2).lift e λy S3=>match y,atL d S3 with
   | .int y,some (n,zs)=>if i.toNat < zs.length then .ok (.nx e) (S3.set n (.lst (zs.set i.toNat (.int (g x y)))))else .bad
   | _,_=>.bad
  | _=>.bad)else .bad
 | _,_=>.bad
theorem mU(ho:GE X E o mo)(hi:GE X E i mi)(he:GE X E e mv)(hp:PIp X op (ipI g))
  (ha:∀ov iv new,augStore i ov iv new=(do Oq [new,ov,iv] (sg ov iv new);release [new,ov,iv] [];pure .next):=by intros;rfl):GS X E (.AugAssign (.Subscript o i tpos) op e pos) (YG g mo mi mv):=
 (lL ho hi im he hp gM ha).imp λD σ H ⟨ρ,l,S,hl,hs,hm⟩=>by
 refine⟨ρ,l,S,hl,hs,hm.lift hl .refl λd S1 hm ρ1 H1 x l1 s1 r1=>⟨ρ1,l,S1,hl.mono l1,s1,(hm.later l1).lift (hl.mono l1) l1 λk S2 hm ρ2 H2 y l2 s2 r2=>?_⟩⟩;have r12:=r1.mono l2;split at hm
 ·rename_i n xs i hq
  split at hm
  ·rename_i h0
   obtain⟨rfl,h5,a,vs,rfl,hn,e1,rr⟩:=jT s2 r12 hq;cases r2;split at hm
   ·rename_i x hx
    obtain⟨z,hz,rz⟩:=rr.get hx;cases rz;refine⟨a,vs,i,.int x,rfl,rfl,h0,e1,hz,ρ2,l,S2,hl.mono (l1.trans l2),s2,(hm.later l2).lift (hl.mono (l1.trans l2)) (l1.trans l2) λy S3 hm ρ3 H3 w l3 s3 r3=>?_⟩;split at hm
    ·rename_i y n3 zs zE
     split at hm
     ·rename_i wo
      cases r3;obtain⟨_,h6,a3,vs3,e4,hn3,e3,rr3⟩:=jT s3 (r12.mono l3) zE;cases e4;obtain⟨s4,l4⟩:=lE s3 hn3 e3 (rr3.set (.int (g x y)) i.toNat)
      have hix:ixN vs3.length i=some i.toNat:=by
       unfold ixN;rw[qX h0,qX (by rw[<-rr3.length];omega)]
      exact⟨x,y,rfl,rfl,a,vs3,i,i.toNat,rfl,rfl,e3,hix,hm ρ3 _ _ ((l1.trans l2).trans (l3.trans l4)) s4 (hl.mono ((l1.trans l2).trans (l3.trans l4)))⟩
     ·exact hm.elim
    ·exact hm.elim
   ·exact hm.elim
  ·exact hm.elim
 ·exact hm.elim
end
open PySem PySem.Spec PyProof.Rows PySem.SeqAt
section
theorem Ek(h1:N.Nodup:=by decide +kernel)(h2:∀x∈ps,sc.names.lookup x=some .local∨sc.names.lookup x=some .cell:=by decide +kernel)(h3:∀y∈sc.names,y.2≠.free:=by decide +kernel)(h4:sc.kind=.function:=by rfl)(h5:sc.isCoroutine=false:=by rfl)(h6:sc.isGenerator=false:=by rfl)(h7:N.take ps.length=ps:=by rfl):BU N ps sc:=⟨h4,h5,h6,h1,h7,h2,h3⟩
end
section
variable{X:Cx}{E:EW}{e:Expr}
theorem By(i:Nat)(hN:X.N.Nodup)(hi:X.N[i]?=some x:=by rfl)(hx:Loc X.env.scope x:=by first | exact RI rfl | exact PP rfl)(hf:X.fn x=true∨X.env.scope.names.lookup x=some .local:=by first | exact .inl rfl | exact .inr rfl | assumption):GG X (.Name x pos) (tgN i):=mW (lU hN hi hx hf)
theorem CK(i:Nat)(hN:X.N.Nodup)(he:GE X E e m)(hi:X.N[i]?=some x:=by rfl)(hx:Loc X.env.scope x:=by first | exact RI rfl | exact PP rfl)(hs:HE e (some (.Name x pos')) pos.line X.env=pure false:=by rfl)
  (hf:X.fn x=true∨X.env.scope.names.lookup x=some .local:=by first | exact .inl rfl | exact .inr rfl | assumption):GS X E (.Assign [.Name x pos'] e pos) (CP i m):=rZ hN hi hx he hs hf
theorem Vv(i:Nat)(hN:X.N.Nodup)(hp:PIp X op (ipI g))(he:GE X E e m)(hi:X.N[i]?=some x:=by rfl)(hx:Loc X.env.scope x:=by first | exact RI rfl | exact PP rfl)
  (hf:X.fn x=true∨X.env.scope.names.lookup x=some .local:=by first | exact .inl rfl | exact .inr rfl | assumption):GS X E (.AugAssign (.Name x pos') op e pos) (Ti i g m):=rc hN hi hx hp he hf
end
end L2
namespace PySem
open Sem (wp)
def jX(prog:Bg)(w:CL)(A:CO)(op:CmpOp)(P:Nat->AI->Prop)(bt:Nat->Nat->Bool)(J:Cz->Prop):Prop:=
 ∀i j vi vj (s:AQ) (Q E:AI->AQ->Prop),J s.heap->P i vi->P j vj->Q (.bool (bt i j)) s->Ag (Ap prog w) A (jk op vi vj) Q E s
section
def Yy(wr:List AW)(B:AW)(h h':Cz):Prop:=∀b o,b∉wr->b≠B->h.get? b=some o->h'.get? b=some o
theorem Zx(W:Walks prog w A.in1 z fp wr n P St)(hJ:∀h h',J h->Yy wr B h h'->J h')(cm:jX prog w A.in1 .Lt P bt J)(nf:B∉fp)(m:Nat) :
  ∀(j:Nat) (s:AQ) (x:AI) (c:Nat),j+1+m=n->J s.heap->St (j+1) s.heap->P (Gj bt j) x->s.heap.get? B=some { cls:=.type "list",dict:=none,data:=.seq #[x,x] c,slots:=#[] } ->
   (∀v h' tk,P (Gj bt (n - 1)) v->Yy wr B s.heap h'->R (.ok (.ret v)) { s with heap:=h',toks:=tk })->NE (Ap prog w) A (.builtin "min.loop" ⟨[.ref z,.none,.ref B],[]⟩) R s:=by
 have nw:B∉wr:=λh=>nf (W.sub _ h)
 have nm:(toString "min"++toString ".loop" : String) = "min.loop":=by decide
 induction m with
 | zero=>
  intro j s x c e hj st hx hB k;have e':j+1=n:=e;refine PN Us ?_;rw[OH FB _];refine(show Ag _ A.in1 (WB (.ref B) >>= _) _ _ s from AB (Ll hB rfl ?_));refine(show Ag _ A.in1 (tryCatch (Lp (.ref z)) _ >>= _) _ _ s from AB (QN (W.done s _ _ (e'▸st) λh1 tk wB=>?_)));have za:=wB B _ nw hB;refine(show Ag _ A.in1 (updateSeq B (λ_=>#[]) >>= _) _ _ _ from AB (Xm za rfl (AB (Xe (AL ?_)))))
  exact k x _ tk (by rw[<-e'];exact hx) λb o q1 q2 q3=>(B0 _ _ (Br q2)).trans (wB b o q1 q3)
 | succ m ih=>
  intro j s x c e hj st hx hB k
  have lt:j+1 < n:=by lia
  refine PN Us ?_;rw[OH FB _];refine(show Ag _ A.in1 (WB (.ref B) >>= _) _ _ s from AB (Ll hB rfl ?_));refine(show Ag _ A.in1 (tryCatch (Lp (.ref z)) _ >>= _) _ _ s from AB (QN (W.item (j+1) s _ _ lt st λy h1 tk hy w5 wB=>?_)));have za:=wB B _ nw hB
  have xR:J h1:=hJ _ _ hj λb o q1 _ q3=>wB b o q1 q3
  refine(show Ag _ A.in1 (tryCatch (Oq [y,y] (jk .Lt y x >>= _)) _ >>= _) _ _ _ from AB (QN (E1 (AB (cm (j+1) (Gj bt j) y x _ _ _ xR hy hx ?_)))));refine AB (E1 (DZ ?_));refine AB (Xe (AL ?_))
  cases hb:bt (j+1) (Gj bt j)with
  | true=>
   simp only[if_true];refine AB ?_;refine Xm za rfl (AB (Xe ?_));rw[nm]
   have up:Yy wr B h1 (h1.update B λo=>{ o with data:=.seq #[y,y] (c+1) }):=λb o _ q2 q3=>(B0 _ _ (Br q2)).trans q3
   refine AL ⟨SD FB _,ih (j+1) _ y _ (by lia) (hJ _ _ xR λb o _ q2 q3=>(B0 _ _ (Br q2)).trans q3) (W.frame _ _ _ w5 λb q o q3=>(B0 _ _ λh:B=b=>nf (by rw[h];exact q)).trans q3) (by simp only[Gj,hb,if_true];exact hy) (Fe _ za rfl) λv h2 υ hv wa=>?_⟩
   exact k v h2 υ hv λb o q1 q2 q3=>wa b o q1 q2 ((B0 _ _ (Br q2)).trans (wB b o q1 q3))
  | false=>
   simp only[Bi,if_false];refine AB (Xe ?_);rw[nm];refine AL ⟨SD FB _,ih (j+1) _ x c (by lia) xR w5 (by simp only[Gj,hb,Bi,if_false];exact hx) za λv h2 υ hv wa=>?_⟩
   exact k v h2 υ hv λb o q1 q2 q3=>wa b o q1 q2 (wB b o q1 q3)
theorem UB
  (h:Ag (Ap prog w) A.in1 (ZC x) (λit s2=>∃z fp wr n P St bt J,it=.ref z/\Walks prog w A.in1 z fp wr n P St/\St 0 s2.heap/\(∀b∈fp,b < s2.heap.objs.size)/\0 < n/\jX prog w A.in1 .Lt P bt J/\J s2.heap/\(∀h h',J h->Yy wr s2.heap.objs.size h h'->J h') /\
   ∀v h' tk,P (Gj bt (n - 1)) v->(∀b o,b∉wr->s2.heap.get? b=some o->h'.get? b=some o)->Q v { s2 with heap:=h',toks:=tk }) E s):Ag (Ap prog w) A (call (.builtin "min") [x]) Q E s:=by
 have nm:(toString "min"++toString ".loop" : String) = "min.loop":=by decide
 refine call_function_tree F.kind_min F.plain_min F.entry_min (F.args_min1 _) ?_;refine(show Ag _ A.in1 (OW "min" ["key", "default"] 0 ⟨[],[]⟩ >>= _) _ _ s from AB (Xd (show OW "min" ["key", "default"] 0 ⟨[],[]⟩=pure [none,none]from rfl) ?_));refine AB (AL (AB (Ei h (λit s2 h2=>?_) λ_ _ e=>e)));obtain⟨z,fp,wr,n,P,St,bt,J,rfl,W,st,hf,hn,cm,hj,hJ,k⟩:=h2
 have nf:s2.heap.objs.size∉fp:=λq=>Ci _ (hf _ q)
 have nw:s2.heap.objs.size∉wr:=λq=>nf (W.sub _ q)
 refine AB (Cf ?_);rw[nm];refine AL ⟨SD FB _,?_⟩;refine PN Us ?_;rw[OH FB _];refine(show Ag _ A.in1 (WB (.ref s2.heap.objs.size) >>= _) _ _ _ from AB (Ll (Aa _ rfl) rfl ?_));refine(show Ag _ A.in1 (tryCatch (Lp (.ref z)) _ >>= _) _ _ _ from AB (QN (W.item 0 _ _ _ hn (W.frame _ _ _ st λb _ o e=>AJ _ e) λy h1 tk hy w5 wB=>?_)));have za:=wB _ _ nw (Aa _ rfl)
 have old:∀b o,b∉wr->s2.heap.get? b=some o->b≠s2.heap.objs.size/\h1.get? b=some o:=λb o q1 q2=>⟨BE (Ac q2),wB b o q1 (AJ _ q2)⟩
 refine(show Ag _ A.in1 (updateSeq s2.heap.objs.size (λ_=>#[y,y]) >>= _) _ _ _ from AB (Xm za rfl ?_));rw[nm];refine AL ⟨SD FB _,Zx W hJ cm nf (n - 1) 0 _ y _ (by lia) (hJ _ _ hj λb o q1 q2 q3=>(B0 _ _ (Br q2)).trans (old b o q1 q3).2) (W.frame _ _ _ w5 λb q o q3=>(B0 _ _ λh:s2.heap.objs.size=b=>nf (by rw[h];exact q)).trans q3) hy (Fe _ za rfl) λv h2 υ hv wa=>?_⟩
 exact k v h2 υ hv λb o q1 q3=>wa b o q1 (old b o q1 q3).1 ((B0 _ _ (Br (old b o q1 q3).1)).trans (old b o q1 q3).2)
end
end PySem
namespace L2
open PySem PySem.Spec PyProof.Rows
section
variable{X:Cx}{e:Expr}
def Vh:List D->Option (List (List Int))
 | []=>some []
 | .tup xs :: ds=>match JL xs,Vh ds with
  | some r,some rs=>some (r :: rs)
  | _,_=>none
 | _ :: _=>none
theorem YJ:∀{ds:List D} {rs:List (List Int)},Vh ds=some rs->rs.length=ds.length/\∀(i:Nat) d,ds[i]?=some d->d=.tup ((rs.getD i []).map D.int)
 | [],rs,h=>by cases h;exact⟨rfl,λi d h=>by simp at h⟩
 | d :: ds,rs,h=>by
  cases d with
  | tup xs=>
   unfold Vh at h;split at h
   ·rename_i r rs' h1 h2
    cases h;obtain⟨l,a⟩:=YJ h2;refine⟨by simp[l],λi d hd=>?_⟩
    cases i with
    | zero=>cases hd;rw[Nr h1];rfl
    | succ i=>exact a i d hd
   ·cases h
  | _=>cases h
def Zw(ds:List D)(S:Sto):Res D:=match Vh ds with
 | some rs=>match ds[Gj (λi j=>HT.lexLt (rs.getD i []) (rs.getD j [])) (rs.length - 1)]? with
  | some d=>.ok d S
  | none=>.bad
 | none=>.bad
def oG(K:AG):List V->Hp->VK->Prop:=λxs H Q=>∃(a:AW) (vs:List V) (rs:List (List Int)) (v:V),xs=[.ref a]/\(SqL K H a vs∨SqT K H a vs)/\vs.length=rs.length/\(∀(i:Nat) u,vs[i]?=some u->∃b,u=.ref b/\SqT K H b ((rs.getD i []).map V.int))/\vs[Gj (λi j=>HT.lexLt (rs.getD i []) (rs.getD j [])) (rs.length - 1)]?=some v/\Q v H
theorem dz(hc:X.calm=true)(hu:X.A.units+64 < Ey):Kl X (.builtin "min") (oG X.K):=by
 intro ζ s σ H xs us Q I r h;obtain⟨a,vs,rs,v,rfl,sq,hl,tp,hv,q⟩:=h;obtain⟨u,rfl,ru⟩:=vals1 r;cases ru;have hh:=I.ok.hd hc
 have at_:∀tx:List AI,Bv vs tx->∀(i:Nat) (x:AI),tx[i]?=some x->∃b,x=.ref b/\∃ts:List AI,s.heap.IsTuple b ts.toArray/\D8 ts (rs.getD i []):=λtx rv i x hx=>by
  obtain⟨y,hy,ry⟩:∃y,vs[i]?=some y/\RelV y x:=by
   have hi:i < tx.toArray.size:=by rw[Ak];exact(AD.mp hx).1
   obtain⟨y,h1,h2⟩:=Bv.at_ rv hi
   have:tx.toArray[i]=x:=by simpa using(AD.mp hx).2
   exact⟨y,h1,this▸h2⟩
  obtain⟨b,rfl,sb⟩:=tp i y hy;cases ry;obtain⟨ts,rt,pt,_⟩:=I.tuple sb;exact⟨b,rfl,ts,pt,intsAre_of rt⟩
 have pos:∀tx:List AI,Bv vs tx->0 < tx.toArray.size:=λtx rv=>by
  have h1:=(AD.mp hv).1;have h2:=rv.length;rw[Ak]
  lia
 have cmp:∀tx:List AI,Bv vs tx->jX X.prog X.w X.A.in1 .Lt (λi v=>tx.toArray[i]?=some v) (λi j=>HT.lexLt (rs.getD i []) (rs.getD j [])) (λh'=>∀b o,s.heap.get? b=some o->h'.get? b=some o):=λtx rv i j vi vj s' Q' E' hJ hi hj hq=>by
  obtain⟨b,rfl,ts,t1,n1⟩:=at_ tx rv i vi (by simpa using hi);obtain⟨b',rfl,ts',t2,n2⟩:=at_ tx rv j vj (by simpa using hj);obtain⟨o,ho,r1⟩:=t1;obtain⟨o',xO,r2⟩:=t2;exact HT.Z2 (A:=X.A.in1) ⟨o,hJ _ _ ho,r1⟩ ⟨o',hJ _ _ xO,r2⟩ (by simpa using n1) (by simpa using n2) (by rw[HA];lia) hq
 have stay:∀(o':Obj) (h1 h2:Cz),(∀b o,s.heap.get? b=some o->h1.get? b=some o)->Yy [s.heap.objs.size] (s.heap.push o').objs.size h1 h2->∀b o,s.heap.get? b=some o->h2.get? b=some o:=λo' h1 h2 q1 q2 b o e=>by
  have lb:=Ac e;refine q2 b o (λhm=>?_) (λhm=>?_) (q1 b o e)
  ·exact zX (AU.mp hm▸lb) (Ci _)
  ·rw[hm,C0]at lb
   exact zX (Nat.lt_of_succ_lt lb) (Ci _)
 have fin:∀(tx:List AI) (x:AI) (h':Cz) (tk:Nat),Bv vs tx->tx.toArray[Gj (λi j=>HT.lexLt (rs.getD i []) (rs.getD j [])) (tx.toArray.size - 1)]?=some x->(∀b o,s.heap.get? b=some o->h'.get? b=some o)->EP X ζ σ Q x { s with heap:=h',toks:=tk }:=λtx x h' tk rv hx hk=>by
  rw[List.getElem?_toArray,Ak]at hx
  have hi:Gj (λi j=>HT.lexLt (rs.getD i []) (rs.getD j [])) (tx.length - 1) < tx.toArray.size:=by rw[Ak];exact(AD.mp hx).1
  obtain⟨y,h1,h2⟩:=Bv.at_ rv hi
  have e1:tx.toArray[Gj (λi j=>HT.lexLt (rs.getD i []) (rs.getD j [])) (tx.length - 1)]=x:=by simpa using(AD.mp hx).2
  rw[e1]at h2
  have e2:tx.length=rs.length:=by have:=rv.length;lia
  rw[e2,hv]at h1;cases h1;exact⟨_,H,I.kept hk,h2,q⟩
 rcases sq with sq | sq
 ·obtain⟨tx,rv,pl,hz⟩:=I.list sq
  have la:a < s.heap.objs.size:=by obtain⟨o,q,_⟩:=pl.isList;exact Ac q
  refine UB (Uj pl.isList ?_);exact⟨_,_,_,_,_,_,_,_,rfl,tP (A:=X.A.in1) hh _ a (BE la) tx.toArray,⟨⟨_,Aa _ rfl,rfl,rfl⟩,pl.isList.push _⟩,oY la,pos tx rv,cmp tx rv,λb o e=>AJ _ e,stay _,λx h' tk hx hk=>fin tx x h' tk rv hx (bN hk)⟩
 ·obtain⟨tx,rv,pl,hz⟩:=I.tuple sq
  have yG:s.heap.IsTuple a tx.toArray:=pl
  have la:a < s.heap.objs.size:=by obtain⟨o,q,_⟩:=yG;exact Ac q
  refine UB (DJ yG ?_);exact⟨_,_,_,_,_,_,_,_,rfl,sk (A:=X.A.in1) hh _ a (BE la) tx.toArray,⟨⟨_,Aa _ rfl,rfl,rfl⟩,yG.push _⟩,oY la,pos tx rv,cmp tx rv,λb o e=>AJ _ e,stay _,λx h' tk hx hk=>fin tx x h' tk rv hx (bN hk)⟩
theorem kt:nS X.K (oG X.K) Zw:=λρ H S ds q xs d S' Q hs rr sq hm k=>by
 unfold Zw at hm;split at hm
 ·rename_i rs hr
  obtain⟨hl,ha⟩:=YJ hr;split at hm
  ·rename_i d' hd
   cases hm;obtain⟨v,hv,rv⟩:=rr.get hd;refine⟨q,xs,rs,v,rfl,sq,by rw[<-rr.length,hl],λi u hu=>?_,hv,k ρ H _ .refl hs rv⟩;obtain⟨x,hx,rx⟩:=rr.get' hu;have e:=ha i x hx;subst e
   cases rx with
   | tup a1 a2=>rw[YN a2]at a1;exact⟨_,rfl,.inl (.inl a1)⟩
  ·cases hm
 ·cases hm
theorem mY(hu:X.A.units+64 < Ey)(hc:X.calm=true)(hg:Gl X "min") (hm:X.mg "min" = none) (h:GE X E e m) (he:Ad [e] X.env=(false,Cj e X.env) :: Ad [] X.env:=by rfl):GE X E (.Call (.Name "min" p) [e] [] pos) (mQ Zw (Rz m)):=
 XH (dz hc hu) kt hg hm Sg (ij h) (by decide) (by decide) he
end
open PySem PySem.Spec PyProof.Rows
section
variable{X:Cx}{E:EW}{tg e:Expr}{K:AG}{ζ:List (AW×Obj)}{σ:St}{H:Hp}{s:AQ}
def Itk(a:AW)(ob:Obj)(u:HO)(xs:List V):It:=
 ⟨λi H=>H a=some (.frz ob u)/\i < xs.length,λi H x H'=>H'=H/\xs[i]?=some x,λi H=>H a=some (.frz ob u)/\xs.length<=i⟩
theorem cb(hx:ob.ExactDict)(hd:ob.data=.dict es ep)(hv:Bv xs (es.toList.map (·.key))):VR P w K tg (Itk a ob u xs) [it] it (λi h=>h.IsKeyIter it a i es.size ep) where
 mem:=by simp
 obj:=λi h st b hb=>by
  have e:b=it:=by simpa using hb
  subst e;obtain⟨o,e,c,d⟩:=st;exact⟨o,e,λv z=>by rw[d]at z;cases z⟩
 keep:=λi h h' st k=>st.at λo e=>k it (by simp) o e
 item:=by
  intro X hP hw hK hc i ζ s σ H E I hf st hg;subst hP hw hK;obtain⟨ha,hi⟩:=hg;obtain⟨g,_⟩:=(show Do X.prog X.w H s.heap a (.frz ob u)from I.hok a _ ha)
  have hs:xs.length=es.size:=by have:=hv.length;rw[AF,CD]at this;exact this
  have hi2:i < es.size:=by rw[<-hs];exact hi
  obtain⟨v,h1,h2⟩:=hv.get (Af hi);rw[AZ,ZA,Va hi2]at h1;cases h1;obtain⟨f0,f1,f2,f3,f4,f5⟩:=hf it (by simp)
  refine Srt.YO st ⟨ob,g,hx,hd⟩ hi2 λh' w5 sb=>?_
  have I1:Inv X ζ σ H { s with heap:=h' }:=I.turned (t':=s.toks) (λb o hb e=>(sb.2 b hb).trans e) f0 f1 f3 f4 f5;obtain⟨o,e,c,d⟩:=id w5;exact⟨_,rfl,bf (s:={ s with heap:=h' }) e c d (by decide) ⟨_,H,I1,h2,⟨rfl,Af hi⟩,w5,λb hb=>(hf b hb).1⟩⟩
 done:=by
  intro X hP hw hK hc i ζ s σ H E I hf st hg;subst hP hw hK;obtain⟨ha,hi⟩:=hg;obtain⟨g,_⟩:=(show Do X.prog X.w H s.heap a (.frz ob u)from I.hok a _ ha)
  have hs:xs.length=es.size:=by have:=hv.length;rw[AF,CD]at this;exact this
  obtain⟨f0,f1,f2,f3,f4,f5⟩:=hf it (by simp)
  exact Srt.bF (I.ok.hd hc) st ⟨ob,g,hx,hd⟩ (by rw[<-hs];exact hi) λh' eb=>⟨rfl,I.turned (t':=s.toks) (λb o hb e=>eb b o hb e) f0 f1 f3 f4 f5⟩
 self:=λ_ _ _ _ _ st h=>jf st h
theorem nA:∀{l:List RL} {us:List (Key×AI)} {f':List (Key×V)},Pairs (Et P w) l us->KV f' us->Bv (f'.map λx=>kV x.1) (l.map (·.key)):=by
 intro l us f' hp
 induction hp generalizing f' with
 | nil=>intro h;cases h;exact .nil
 | cons q1 q2 _ ih=>
  intro h
  cases h with
  | cons r t=>
   refine .cons ?_ (ih t);dsimp only;rw[r.1]
   rcases Dk q1 with⟨i,t,e1,e2⟩ | ⟨x,t,e1,e2⟩
   ·rw[e1,e2];exact⟨t,rfl⟩
   ·rw[e1,e2];exact⟨t,rfl⟩
theorem jC:∀{f':List (List Key×V)} {xs:List (List Key×AW×AI)},G3 (λ(p:List Key×V) (q:List Key×AW×AI)=>p.1=q.1/\H q.2.1=some (.tup (p.1.map kV))/\RelV p.2 q.2.2) f' xs->G3 (λ(k:List Key×V) b=>H b=some (.tup (k.1.map kV))) f' (xs.map (·.2.1)):=by
 intro f' xs h
 induction h with
 | nil=>exact .nil
 | cons r _ ih=>exact .cons r.2.1 ih
theorem dE(l:List AW):Bv (l.map V.ref) (l.map BY):=by
 induction l with
 | nil=>exact .nil
 | cons a l ih=>exact .cons rfl ih
def iDct(tl:TE):TI:=λσ H R=>tl σ H λx H1=>∃a ob,x=.ref a/\((∃f',H1 a=some (.frz ob (.dK f'))/\R (Itk a ob (.dK f') (f'.map λx=>kV x.1)) H1) ∨
 ∃f',H1 a=some (.frz ob (.dT f'))/\∀bs,G3 (λ(k:List Key×V) b=>H1 b=some (.tup (k.1.map kV))) f' bs->R (Itk a ob (.dT f') (bs.map V.ref)) H1)
theorem lS(hl:PE X l tl):PI X tg l (iDct tl):=by
 intro ζ s σ H R I h
 refine thn (hl ζ s σ H _ I h) λv s1 ⟨x,H1,I1,r1,q1⟩=>?_
 obtain⟨a,ob,e,q⟩:=q1;subst e;cases r1
 have fin:∀{u:HO} {xs:List V} {es:Array RL} {ep:Nat},(a==EA)=false->s1.heap.get? a=some ob->ob.ExactDict->ob.data=.dict es ep->Bv xs (es.toList.map (·.key))->R (Itk a ob u xs) H1 ->
   Ag (Ap X.prog X.w) X.A (ZC (.ref a)) (PIE X ζ σ tg R) X.xe s1:=λsm g g2 g3 hv q=>by
  refine Srt.YQ sm ⟨ob,g,g2,g3⟩ ?_;refine⟨s1.heap.objs.size,[s1.heap.objs.size],_,_,H1,rfl,I1.kept (t':=s1.toks) λb o e=>AJ _ e,cb g2 g3 hv,⟨_,Aa _ rfl,rfl,rfl⟩,λb hb=>?_,q⟩
  have e:b=s1.heap.objs.size:=by simpa using hb
  subst e;exact I1.fpOk (AO _) (I1.hok.fresh (AO _))
 rcases q with⟨f',ha,q⟩ | ⟨f',ha,q⟩
 ·obtain⟨g,hz,sm,us,kv,o,es,ep,g1,g2,g3,g5,g6,_⟩:=(show Do X.prog X.w H1 s1.heap a (.frz ob (.dK f'))from I1.hok a _ ha)
  rw[g]at g1;cases g1;exact fin sm g g2 g3 (nA g6 kv) q
 ·obtain⟨g,hz,sm,xs,rr,o,es,ep,g1,g2,g3,g4,_⟩:=(show Do X.prog X.w H1 s1.heap a (.frz ob (.dT f'))from I1.hok a _ ha)
  rw[g]at g1;cases g1
  have hk:es.toList.map (·.key)=(xs.map (·.2.1)).map BY:=by
   rw[g4,BF,BF];rfl
  exact fin sm g g2 g3 (by rw[hk];exact dE _) (q _ (jC rr))
def Yg(d:D)(S:Sto):Option (List D):=match d with
 | .ref n=>match S[n]? with
  | some (.fK f')=>some (f'.map λx=>Z6 x.1)
  | some (.fT f')=>some (f'.map λx=>.tup (x.1.map Z6))
  | _=>none
 | _=>none
def be(m:ME):MI:=λe S=>(m e S).bind λd S1=>match Yg d S1 with
 | some ds=>.ok (Gu ds) S1
 | none=>.bad
theorem Sx(ha:H a=some (.frz ob u))(h2:Az K ρ H ds xs):OC K ρ H (Itk a ob u xs) (Gu ds):=by
 intro ρ2 H2 S xf i l s hv;cases hv;have rr:=h2.mono l;have ha2:=l.frz _ _ _ ha;refine⟨λhn=>⟨ha2,by rw[<-rr.length];exact Cp.mp hn⟩,λd hd=>?_⟩;obtain⟨x,hx,rx⟩:=rr.get hd;refine⟨⟨ha2,(AD.mp hx).1⟩,λy H' ⟨e,hy⟩=>?_⟩;subst e;rw[hx]at hy;cases hy;exact⟨ρ2,.refl,s,rx⟩
theorem mV(h:GE X E e m):GI X E tg e (be m):=(lS h).imp λσ H R ⟨ρ,l,S,hl,hs,hm⟩=>by
 refine⟨ρ,l,S,hl,hs,hm.seq λd S1 hm ρ1 H1 x l1 s1 r1=>?_⟩
 cases hq:Yg d S1 with
 | none=>rw[hq]at hm;exact hm.elim
 | some ds=>
  rw[hq]at hm
  cases r1 with
  | @ref n a hn=>
   obtain⟨o,ho,ro⟩:=s1.there hn;unfold Yg at hq;simp only[ho]at hq
   cases o with
   | fK f'=>
    cases hq;obtain⟨ob,vs,e,rr⟩:=ro;exact⟨a,ob,rfl,.inl ⟨vs,e,hm ρ1 H1 _ l1 s1 (Sx e (P2 rr))⟩⟩
   | fT f'=>
    cases hq;obtain⟨ob,vs,e,rr⟩:=ro;exact⟨a,ob,rfl,.inr ⟨vs,e,λbs hb=>hm ρ1 H1 _ l1 s1 (Sx e (UH rr hb))⟩⟩
   | _=>cases hq
  | _=>cases hq
theorem Inv.fz(I:Inv X ζ σ H s)(hg:s.heap.get? a=some ob)(ha:H a=some u)(mu:Mut (some u)):Inv X ζ σ (upd H a (.frz ob u)) s:=by
 have nn:∀b,H b=none->b≠a:=λb h z=>by subst z;rw[ha]at h;cases h
 have nm:∀b o,H b=some o->¬Mut (some o)->b≠a:=λb o h n z=>by subst z;rw[ha]at h;cases h;exact n mu
 have st:∀b o,Do X.prog X.w H s.heap b o->Do X.prog X.w (upd H a (.frz ob u)) s.heap b o:=λb o x=>
  x.stay (λ_ _ _ q=>q) (λc r=>by rw[Bj (nm c _ r λz=>z)];exact r) λc xs r=>by rw[Bj (nm c _ r λz=>z)];exact r
 refine⟨I.ok,I.os,I.bare,⟨I.base.keep,I.base.slot,λb o q n hx=>?_,I.base.there,λb xs q=>?_,λb o xs q=>?_,λb ps q=>?_⟩,I.loc,I.cell,?_,λx c q=>?_,λp hp=>?_,λb o q=>?_,I.len⟩
 ·have:=I.base.free b o q n hx
  rw[Bj (nn b this)];exact this
 ·have:=I.base.tups b xs q
  rw[Bj (nm b _ this λz=>z)];exact this
 ·have:=I.base.frzs b o xs q
  rw[Bj (nm b _ this λz=>z)];exact this
 ·obtain⟨more,this⟩:=I.base.tbls b ps q
  exact⟨more,by rw[Bj (nm b _ this λz=>z)];exact this⟩
 ·rw[Bj (nn _ I.free)];exact I.free
 ·rw[Bj (nn _ (I.freeC x c q))];exact I.freeC x c q
 ·obtain⟨h1,h2,h3⟩:=I.pin p hp
  exact⟨h1,by rw[Bj (nn _ h2)];exact h2,h3⟩
 ·by_cases hb:b=a
  ·subst hb
   rw[B2]at q;cases q;exact⟨hg,st b u (I.hok b u ha)⟩
  ·rw[Bj hb]at q
   exact st b o (I.hok b o q)
def fzO:Ob->Option Ob
 | .dK f'=>some (.fK f')
 | .dT f'=>some (.fT f')
 | .fK f'=>some (.fK f')
 | .fT f'=>some (.fT f')
 | _=>none
def sFz(i:Nat):MS:=λe S=>match e[i]? with
 | some (some (.ref n))=>match S[n]? with
  | some o=>match fzO o with
   | some o'=>.ok (.nx e) (S.set n o')
   | none=>.bad
  | none=>.bad
 | _=>.bad
theorem YC{S:Sto}{n:Nat}{o:Ob}(h:S[n]?=some o):S.set n o=S:=by
 apply Hz
 intro j;rw[Dx];split
 ·rename_i c
  subst c;split
  ·exact h.symm
  ·rename_i c;rw[CB (Kp.mp c)]at h;cases h
 ·rfl
theorem vF{i:Nat}{st:C2}{ms:MS}(h:GS X E st ms):GS X E st (BK (sFz i) ms):=λζ s σ H D I ⟨ρ,l,S,hl,hs,hm⟩=>by
 cases hx:l[i]? with
 | none=>unfold BK sFz at hm;rw[hx]at hm;exact hm.elim
 | some x=>
  cases x with
  | none=>unfold BK sFz at hm;rw[hx]at hm;exact hm.elim
  | some d=>
   cases d with
   | ref n=>
    cases ho:S[n]? with
    | none=>unfold BK sFz at hm;rw[hx]at hm;dsimp only at hm;rw[ho]at hm;exact hm.elim
    | some o=>
     cases hf:fzO o with
     | none=>unfold BK sFz at hm;rw[hx]at hm;dsimp only at hm;rw[ho]at hm;dsimp only at hm;rw[hf]at hm;exact hm.elim
     | some o'=>
      have w8:Cb X.K noH ρ H (ms l (S.set n o')) λfl S'=>R6 X.K E ρ H S' D fl:=by
       unfold BK sFz at hm;rw[hx]at hm;dsimp only at hm;rw[ho]at hm;dsimp only at hm;rw[hf]at hm;exact hm
      obtain⟨a,hn,ro⟩:=hs.at ho
      have fr:∀u,H a=some u->Mut (some u)->(∃ob,s.heap.get? a=some ob)->(∀ob,EQ X.K ρ (upd H a (.frz ob u)) a o')->Ag (Ap X.prog X.w) X.A (exec st X.env) _ _ s:=λu ha mu ⟨ob,hg⟩ ra=>by
       have le:Le X.K ρ H ρ (upd H a (.frz ob u)):=Le.write hn (by rw[ha];exact mu);obtain⟨s5,_⟩:=hs.write hn (ra ob) le;exact h ζ s σ _ D (I.fz hg ha mu) ⟨ρ,l,_,hl.mono le,s5,w8.go le λ_ _ k=>k.later le⟩
      cases o with
      | dK f'=>
       cases hf;obtain⟨vs,e,rr⟩:=ro
       refine fr _ e trivial ?_ λob=>⟨ob,vs,B2,KVR.mono (Le.write hn (by rw[e];trivial)) rr⟩
       obtain⟨_,_,_,_,o,_,_,e,_⟩:=(show Do X.prog X.w H s.heap a (.dK vs)from I.hok a _ e);exact⟨o,e⟩
      | dT f'=>
       cases hf;obtain⟨vs,e,rr⟩:=ro
       refine fr _ e trivial ?_ λob=>⟨ob,vs,B2,KVR.mono (Le.write hn (by rw[e];trivial)) rr⟩
       obtain⟨_,_,_,_,o,_,_,e,_⟩:=(show Do X.prog X.w H s.heap a (.dT vs)from I.hok a _ e);exact⟨o,e⟩
      | fK f'=>cases hf;rw[YC ho]at w8;exact h ζ s σ H D I ⟨ρ,l,S,hl,hs,w8⟩
      | fT f'=>cases hf;rw[YC ho]at w8;exact h ζ s σ H D I ⟨ρ,l,S,hl,hs,w8⟩
      | _=>cases hf
   | _=>unfold BK sFz at hm;rw[hx]at hm;exact hm.elim
end
open PySem PySem.Spec PyProof.Rows
section
variable{K:AG}{ρ ρ':List AW}{H H':Hp}{S:Sto}{L:Key->Int}{m n:Nat}{a:AW}
mutual
theorem CH.cut(p:∀(n:Nat) a,ρ[n]?=some a->ρ'[n]?=some a):∀{d:D} {v v':V},CH K ρ H d v->CH K ρ' H' d v'->CH K ρ H' d v'
 | _,_,_,.non,.non=>.non
 | _,_,_,.bl _,.bl b=>.bl b
 | _,_,_,.int _,.int i=>.int i
 | _,_,_,.str _,.str x=>.str x
 | _,_,_,.tup _ r,.tup h r'=>.tup h (Az.cut p r r')
 | _,_,_,.fro _ r,.fro h r'=>.fro h (Az.cut p r r')
 | _,_,_,.ref h,.ref h'=>by
  have e:=(p _ _ h).symm.trans h';cases e;exact .ref h
 | _,_,_,.exc _ _,.exc h e=>.exc h e
theorem Az.cut(p:∀(n:Nat) a,ρ[n]?=some a->ρ'[n]?=some a):∀{d:List D} {v v':List V},Az K ρ H d v->Az K ρ' H' d v'->Az K ρ H' d v'
 | _,_,_,.nil,.nil=>.nil
 | _,_,_,.cons r t,.cons r' t'=>.cons (CH.cut p r r') (Az.cut p t t')
end
theorem KVR.cut(p:∀(n:Nat) a,ρ[n]?=some a->ρ'[n]?=some a):∀{x:List (κ×D)} {y z:List (κ×V)},KVR K ρ H x y->KVR K ρ' H' x z->KVR K ρ H' x z
 | _,_,_,.nil,.nil=>.nil
 | _,_,_,.cons r t,.cons r' t'=>.cons ⟨r'.1,r.2.cut p r'.2⟩ (KVR.cut p t t')
theorem EQ.cut(p:∀(n:Nat) a,ρ[n]?=some a->ρ'[n]?=some a)(h:EQ K ρ H a o)(h':EQ K ρ' H' a o):EQ K ρ H' a o:=by
 cases o with
 | lst ds=>obtain⟨_,_,r⟩:=h;obtain⟨vs,e,r'⟩:=h';exact⟨vs,e,r.cut p r'⟩
 | dK ds=>obtain⟨_,_,r⟩:=h;obtain⟨vs,e,r'⟩:=h';exact⟨vs,e,KVR.cut p r r'⟩
 | dT ds=>obtain⟨_,_,r⟩:=h;obtain⟨vs,e,r'⟩:=h';exact⟨vs,e,KVR.cut p r r'⟩
 | ins C ds=>obtain⟨_,_,_,r⟩:=h;obtain⟨dx,vs,e,r'⟩:=h';exact⟨dx,vs,e,KVR.cut p r r'⟩
 | fK ds=>obtain⟨_,_,_,r⟩:=h;obtain⟨dx,vs,e,r'⟩:=h';exact⟨dx,vs,e,KVR.cut p r r'⟩
 | fT ds=>obtain⟨_,_,_,r⟩:=h;obtain⟨dx,vs,e,r'⟩:=h';exact⟨dx,vs,e,KVR.cut p r r'⟩
 | mem L=>exact h'
def nU(L:Key->Int)(f':List (Key×D)):Prop:=(f'.map (·.1)).Nodup/\∀x∈f',x.1∈W6/\x.2=D.int (L x.1)
theorem bS:∀{f':List (Key×V)},(∀x∈f',x.2=V.int (L x.1))->KVR K ρ H (f'.map λx=>(x.1,D.int (L x.1))) f'
 | [],_=>.nil
 | (k,v) :: l,h=>.cons ⟨rfl,by rw[show v=V.int (L k)from h _ (AV ..)];exact .int _⟩ (bS λx hx=>h x (AS _ hx))
theorem Yf:∀{f':List (Key×D)} {us:List (Key×V)},KVR K ρ H f' us->(∀x∈f',x.1∈W6/\x.2=D.int (L x.1))->∀x∈us,x.1∈W6/\x.2=V.int (L x.1)
 | _,_,.nil,_,x,hx=>by cases hx
 | (k,d) :: l,(k',v) :: us,.cons r t,h,x,hx=>by
  rcases Ae.mp hx with rfl | hx
  ·obtain⟨e,r⟩:=r
   dsimp only at e r ⊢;subst e;obtain⟨h1,h2⟩:=h _ (AV ..);dsimp only at h1 h2;rw[h2]at r;cases r;exact⟨h1,rfl⟩
  ·exact Yf t (λy hy=>h y (AS _ hy)) x hx
theorem bZ(r:KVR K ρ H f' us)(h:nU L f'):(us.map (·.1)).Nodup/\∀x∈us,x.1∈W6/\x.2=V.int (L x.1):=⟨by rw[<-KVR.keys r];exact h.1,Yf r h.2⟩
theorem CY.swap(s:CY K ρ S H)(hm:S[m]?=some o)(h:∀a,ρ[m]?=some a->EQ K ρ H a o->EQ K ρ H a o'):CY K ρ (S.set m o') H:=
 ⟨by rw[D3];exact s.len,s.nd,λj q b hj hb=>by
  rw[Dx]at hj;split at hj
  ·rename_i c
   subst c;split at hj
   ·cases hj;exact h b hb (s.ob m o b hm hb)
   ·cases hj
  ·exact s.ob j q b hj hb⟩
end
def lmI:Res D->Int
 | .ok (.int z) _=>z
 | _=>0
def sC(x:Str)(q:Nat)(S:Sto):Option Str:=match S[q]? with
 | some (.ins _ fs)=>match fs.lookup x with
  | some (.str y)=>some y
  | _=>none
 | _=>none
def Vq(x:Str)(ds:List D)(S:Sto):Option Nat:=match ds with
 | .ref q :: _=>match S[q]? with
  | some (.ins _ fs)=>match fs.lookup x with
   | some (.ref m)=>some m
   | _=>none
  | _=>none
 | _=>none
def og(f:List D->Sto->Res D)(ds:List D)(S:Sto)(m:Nat)(L:Key->Int)(z:Int):Prop:=
 ∀f',nU L f'->∃S' w6,f ds (S.set m (.dK f'))=.ok (.int z) S'/\S'[m]?=some (.dK w6)/\nU L w6/\∀n,n < S.length->n≠m->S'[n]?=S[n]?
open Classical in
def nR(x:Str)(f:List D->Sto->Res D)(ds:List D)(S:Sto):Res D:=match Vq x ds S with
 | some m=>match S[m]? with
  | some (.mem L)=>match f ds (S.set m (.dK []))with
   | .ok (.int z) _=>if og f ds S m L z then .ok (.int z) S else .bad
   | _=>.bad
  | _=>.bad
 | none=>.bad
def mK(x:Str)(Lf:List D->Sto->Key->Int)(f:List D->Sto->Res D)(ds:List D)(S:Sto):Res D:=match f ds S with
 | .ok .non S'=>match Vq x ds S' with
  | some m=>match S'[m]? with
   | some (.dK [])=>.ok .non (S'.set m (.mem (Lf ds S')))
   | _=>.bad
  | none=>.bad
 | _=>.bad
section
variable{P:Bg}{w:CL}{K:AG}{mg:Str->Option AI}{base:Cz}{CX:CXT}{k n:Nat}{fa:AW}{fd:Lv}{ps:List Str}{x:Str}{f:List D->Sto->Res D}{Lf:List D->Sto->Key->Int}
theorem sB(F:Cg P w K mg base CX k fa fd ps (spM K n f)):Cg P w K mg base CX k fa fd ps (spM K n (nR x f)):=F.imp λvs H Q E ⟨ρ,ds,S,h1,h2,h3,h4⟩=>by
 unfold nR at h4;split at h4
 ·rename_i m hm
  split at h4
  ·rename_i L hL
   split at h4
   ·rename_i z S0 hz
    split at h4
    ·rename_i hA
     obtain⟨a,ha,f',e,hn,hc⟩:=h3.at hL
     obtain⟨S',w6,hf,ς,wM,hk⟩:=hA (f'.map λx=>(x.1,D.int (L x.1))) ⟨by rw[BF];exact hn,λy hy=>by
      obtain⟨u,hu,rfl⟩:=BD.mp hy
      exact⟨(hc u hu).1,rfl⟩⟩
     refine⟨ρ,ds,S.set m (.dK (f'.map λx=>(x.1,D.int (L x.1)))),h1,h2,h3.swap hL (λb hb _=>⟨f',?_,bS λx hx=>(hc x hx).2⟩),?_⟩
     ·rw[ha]at hb;cases hb;exact e
     ·rw[hf]
      intro ρ' H' y l s r;cases r;refine h4 ρ H' _ ⟨λ_ _ h=>h,l.tup,l.frz,λa o e n=>⟨(l.oth a o e n).1,n⟩⟩ ⟨h3.len,h3.nd,λj o b hj hb=>?_⟩ (.int z);have wc:=l.pre j b hb
      by_cases c:j=m
      ·subst c
       rw[hL]at hj;cases hj;obtain⟨us,e3,r3⟩:=s.ob j _ b ς wc;exact⟨us,e3,bZ r3 wM⟩
      ·exact(h3.ob j o b hj hb).cut l.pre (s.ob j o b ((hk j (AD.mp hj).1 c).trans hj) wc)
    ·exact h4.elim
   ·exact h4.elim
  ·exact h4.elim
 ·exact h4.elim
theorem mw(F:Cg P w K mg base CX k fa fd ps (spM K n f)):Cg P w K mg base CX k fa fd ps (spM K n (mK x Lf f)):=F.imp λvs H Q E ⟨ρ,ds,S,h1,h2,h3,h4⟩=>by
 unfold mK at h4;refine⟨ρ,ds,S,h1,h2,h3,?_⟩;split at h4
 ·rename_i S' hf
  split at h4
  ·rename_i m hm
   split at h4
   ·rename_i hL
    rw[hf];intro ρ' H' y l s r;exact h4 ρ' H' y l (s.swap hL λa ha ⟨us,e,r⟩=>⟨us,e,bZ r ⟨EM,λ_ hx=>nomatch hx⟩⟩) r
   ·exact h4.elim
  ·exact h4.elim
 ·exact h4.elim
end
end L2
namespace L2
open PySem PySem.Spec PyProof.Rows PySem.W
section
variable{X:Cx}{k k' n:Nat}{x qual:Str}{st:C2}{ps:List Str}{p pos:Pos}{e:Expr}{es:List Expr}{ml:ML}{g:List D->Sto->Res D}
theorem gcl(D:Dfn X.K X.mg x qual st ps)(F:Cg X.prog X.w X.K X.mg X.base (CXG X.prog X.w) k D.f D.fd ps (spM X.K n g))(hr:Hu k' X.A)(ha:GA X noE (e :: es) ml)(hk:k<=k':=by decide)(hx:X.xe=λ_ _=>False:=by rfl)(hg:Gl X x:=by rfl)
  (xl:(x==("__debug__" : Str))=false:=by decide) (he:Ad (e :: es) X.env=(false,Cj e X.env) :: Ad es X.env:=by rfl) (wD:(EB pos (Ad es X.env)).any (·.1)=false:=by rfl) :
  GE X noE (.Call (.Name x p) (e :: es) [] pos) (Bp n g ml):=XI F (good_none hx).pass (hr.mono hk) hg D.m D.kp D.b ha xl he wD
end
abbrev FnAt(K:Frag)(x qual:Str)(st:C2)(f:AW):Prop:=∃(oc:AI) (od:Option AW) (kV doc pm:AI) (an:Option AW) (wj ct:AI) (xY:Array (Option AI)),
 K.lookup f=some ⟨oc,od,.func (fnOf x qual (Mo st) (JZ st) (Ay st) .none kV doc pm an wj ct),xY⟩/\codeIn K wj qual=true/\keepIn K (.ref f)=true
abbrev Dd(K:Frag)(x:Str)(st:C2)(f:AW):Prop:=Sb K BZ x=some (some (.ref f))/\FnAt K x x st f
abbrev OD(K:Frag)(C:AW)(x qual:Str)(st:C2)(f:AW):Prop:=findIn K (.ref C) x=some (some (.ref f))/\isFn K (.ref f)=true/\FnAt K x qual st f
abbrev ClsAt(K:Frag)(x:Str)(C:AW):Prop:=Sb K BZ x=some (some (.ref C))/\plainGet K C Str.empty=true/\hasDictIn K C=true/\plainOver K C=true/\findIn K (.ref C) "__setattr__" = some (some (.builtin "object.__setattr__"))/\makesIn K C=true/\keepIn K (.ref C)=true
def aY(st:C2)(ps:List Str):Prop:=∀(x qual:Str) (kV doc pm:AI) (an:Option AW) (wj ct:AI) (us:List AI),us.length=ps.length->jo (fnOf x qual (Mo st) (JZ st) (Ay st) .none kV doc pm an wj ct) ⟨us,[]⟩=pure (ps.zip us)
section
variable{K:Frag}{h:Cz}{mg:Str->Option AI}{x qual:Str}{st:C2}{f C:AW}{ps:List Str}{a b c d e:Str}
theorem FnAt.fd(z:FnAt K x qual st f):∃fd,Fun K x qual st f fd:=by
 obtain⟨oc,od,kV,doc,pm,an,wj,ct,xY,l,c,k⟩:=z;exact⟨_,iu l c k⟩
def mkD(X:K.In h)(G:h.Ns BZ mg)(z:Dd K x st f)(b:aY st ps):Dfn K mg x x st ps:=⟨f,(FnAt.fd z.2).choose,(FnAt.fd z.2).choose_spec,(FnAt.fd z.2).choose_spec.binds (b x x),jl X G z.1⟩
def mkM(z:OD K C x qual st f)(b:aY st ps):Mtd K x qual st ps:=⟨f,(FnAt.fd z.2.2).choose,(FnAt.fd z.2.2).choose_spec,(FnAt.fd z.2.2).choose_spec.binds (b x qual)⟩
theorem FnAt.kp(z:FnAt K x qual st f):keepIn K (.ref f)=true:=by
 obtain⟨oc,od,kV,doc,pm,an,wj,ct,xY,l,c,k⟩:=z;exact k
theorem mkE(z:OD K C x qual st f):VV K C x f:=⟨z.1,z.2.1,FnAt.kp z.2.2⟩
theorem mkO(X:K.In h)(G:h.Ns BZ mg)(z:ClsAt K y C)(i:OD K C "__init__" qual st f):Own K mg y C f:=⟨⟨z.2.1,z.2.2.1,z.2.2.2.1,z.2.2.2.2.1⟩,⟨z.2.2.2.2.2.1,i.1,i.2.1,z.2.2.2.2.2.2⟩,jl X G z.1⟩
abbrev bnd(st:C2)(ps:List Str)(us:List AI):Prop:=∀(x qual:Str) (kV doc pm:AI) (an:Option AW) (wj ct:AI),jo (fnOf x qual (Mo st) (JZ st) (Ay st) .none kV doc pm an wj ct) ⟨us,[]⟩=pure (ps.zip us)
theorem bd1(z:∀u,bnd st [a] [u]):aY st [a]:=λx q k d p n c t us hl=>by obtain⟨u,rfl⟩:=qz hl;exact z u x q k d p n c t
theorem bd2(z:∀u v,bnd st [a,b] [u,v]):aY st [a,b]:=λx q k d p n c t us hl=>by obtain⟨u,v,rfl⟩:=u0 hl;exact z u v x q k d p n c t
theorem bd3(z:∀u v w,bnd st [a,b,c] [u,v,w]):aY st [a,b,c]:=λx q k d p n c t us hl=>by obtain⟨u,v,w,rfl⟩:=uz hl;exact z u v w x q k d p n c t
theorem bd4(z:∀u v w y,bnd st [a,b,c,d] [u,v,w,y]):aY st [a,b,c,d]:=λx q k d p n c t us hl=>by obtain⟨u,v,w,y,rfl⟩:=uy hl;exact z u v w y x q k d p n c t
theorem bd5(z:∀u v w y l,bnd st [a,b,c,d,e] [u,v,w,y,l]):aY st [a,b,c,d,e]:=λx q k d p n c t us hl=>by obtain⟨u,v,w,y,l,rfl⟩:=len5 hl;exact z u v w y l x q k d p n c t
end
open PySem PySem.Spec PyProof.Rows
section
variable{X:Cx}{E:EW}{e:Expr}{p pos:Pos}{m:ME}
def rAbs:List V->Hp->VK->Prop:=λvs H Q=>∃i,vs=[.int i]/\Q (.int (if i < 0 then -i else i)) H
theorem eE:Kl X (.builtin "abs") rAbs:=by
 intro ζ s σ H vs us Q I rv h;obtain⟨i,rfl,q⟩:=h;obtain⟨v,rfl,rx⟩:=vals1 rv;obtain⟨t,rfl⟩:=rx
 exact call_abs_int λu tk=>⟨.int _,H,I.tok _,⟨_,rfl⟩,q⟩
def mO(m:ME):ME:=λe S=>(m e S).bind λd S1=>match d with
 | .int i=>.ok (.int (if i < 0 then -i else i)) S1
 | _=>.bad
theorem rn(hg:Gl X "abs") (hm:X.mg "abs" = none) (h:GE X E e m) (he:Ad [e] X.env=(false,Cj e X.env) :: Ad [] X.env:=by rfl):GE X E (.Call (.Name "abs" p) [e] [] pos) (mO m):=
 (Nd eE hg hm vw (Ie h Kx he) (by decide) (by decide) he rfl).imp λσ H Q ⟨ρ,l,S,hl,hs,hm⟩=>by
 refine⟨ρ,l,S,hl,hs,hm.seq λd S1 hm ρ1 H1 x l1 s1 r1=>?_⟩
 cases d <;> first | exact hm.elim | skip
 cases r1;exact⟨_,rfl,hm ρ1 H1 _ l1 s1 (.int _)⟩
end
abbrev Cx.q(X:Cx):Cx:={ X with xe:=λ_ _=>False }
def Dq(n:Nat)(mb:MS)(ds:List D)(S:Sto):Res D:=(okR (mb (JC n ds) S)).bind λf S1=>match f with
 | .rt d=>.ok d S1
 | .nx _=>.ok .non S1
 | _=>.bad
section
variable{P:Bg}{w:CL}{K:AG}{mg:Str->Option AI}{base:Cz}
theorem mr{x qual}{st}{f}{fd}{N ps}{k n}(F:Fun K x qual st f fd)(Sc:BU N ps (Ay st))(hn:ps.length=n){mb}
  (xm:∀(wj:AI) (A:CO) (outer:List Env) (s:AQ) (H:Hp) (E:XK),Hu k (A.deeper (Os qual (Ay st) s.heap.objs.size f wj))->GSs (aH (CXG P w) P w K mg base N qual (Ay st) f wj A outer s H E).q noE (JZ st) mb) :
  Cg P w K mg base (CXG P w) (k+1) f fd ps (spM K n (Dq N.length mb)):=by
 obtain⟨oc,od,kV,doc,pm,an,wj,ct,xY,rfl,lk,xP⟩:=F.ex
 refine vJ lk xP Sc (λvs H Q E h=>by rw[hn];exact h.len) λA outer s H vs Q E hr h=>?_
 obtain⟨ρ,ds,S,h1,h2,h3,h4⟩:=h;have hb:=xm wj A outer s H E hr;refine⟨gS K noE mb,λζ s' σ H' D I q=>Ei (hb ζ s' σ H' D (I.with _) q) (λfl s1 z=>?_) λe s1 z=>z.elim,ρ,_,S,Ze h2,h3,?_⟩
 ·cases fl with
  | next=>obtain⟨σ',H2,J,z⟩:=z;exact⟨σ',H2,J.without,z⟩
  | brk=>obtain⟨σ',H2,J,z⟩:=z;exact⟨σ',H2,J.without,z⟩
  | cont=>obtain⟨σ',H2,J,z⟩:=z;exact⟨σ',H2,J.without,z⟩
  | ret u=>obtain⟨v,σ',H2,J,r,z⟩:=z;exact⟨v,σ',H2,J.without,r,z⟩
 ·unfold Dq at h4
  cases hr:mb (JC N.length ds) S with
  | bad=>rw[hr]at h4;exact h4.elim
  | err c S'=>rw[hr]at h4;exact h4.elim
  | ok fl S'=>
   rw[hr]at h4
   cases fl with
   | nx e'=>exact λρ' H' σ' l s' r=>h4 ρ' H' .non l s' .non
   | rt d=>exact h4
   | bk e'=>exact h4.elim
   | ct e'=>exact h4.elim
   | ex c e'=>exact h4.elim
end
end L2
namespace M
open PySem L2
abbrev oN(e:L2.Lo)(S:L2.Sto):L2.Res L2.Fl:=.ok (.nx e) S
abbrev sR(n:Nat):Option L2.D:=some (.ref n)
abbrev sI(i:Int):Option L2.D:=some (.int i)
abbrev sF(l:List Int):Option L2.D:=some (.fro (l.map L2.D.int))
theorem Nb(h:mb (JC n ds) S=.ok (.rt d) S1):Dq n mb ds S=.ok d S1:=by unfold Dq;rw[h];rfl
theorem Zo(h:mb (JC n ds) S=.ok (.nx e) S1):Dq n mb ds S=.ok .non S1:=by unfold Dq;rw[h];rfl
end M
namespace L4
open PySem L2
inductive Cel where
 | no | fz (o:Ob) | ow (i:Nat)
abbrev Fz:=Nat->Cel
inductive Sl where
 | u | v (d:D) | z (o:Ob) | y (o:Ob) | w (i:Nat) (o:Ob) | q (P:(Nat->Option Ob)->D->Prop)
def Sl.ok(S0:Sto)(F:Fz)(S:Sto):Sl->Option D->Prop
 | .u,_=>True
 | .v d,x=>x=some d
 | .z o,x=>∃n,x=some (.ref n)/\F n=.fz o
 | .y o,x=>∃n,x=some (.ref n)/\F n=.fz o/\S0.length<=n
 | .w i o,x=>∃n,x=some (.ref n)/\F n=.ow i/\S[n]?=some o
 | .q P,x=>∃d,x=some d/\∀L:Nat->Option Ob,(∀n o,F n=.fz o->L n=some o)->P L d
structure Vs(S0:Sto)(A:List Sl)(e:Lo)(F:Fz)(S:Sto):Prop where
 kp:Keeps S0 S
 fz:∀n o,F n=.fz o->S[n]?=some o
 ow:∀n i,F n=.ow i->S0.length<=n/\n < S.length
 hi:∀n,S.length<=n->F n=.no
 sl:∀(i:Nat) (a:Sl),A[i]?=some a->∃x,e[i]?=some x/\a.ok S0 F S x
def Fle(F F':Fz):Prop:=∀n o,F n=.fz o->F' n=.fz o
theorem Fle.refl(F:Fz):Fle F F:=λ_ _ h=>h
theorem Fle.trans(a:Fle F G)(b:Fle G H):Fle F H:=λn o h=>b n o (a n o h)
def Q7(F:Fz)(S S':Sto):Fz:=λn=>if n < S.length then F n else match S'[n]? with
 | some o=>.fz o
 | none=>.no
section
variable{S0 S S':Sto}{A B:List Sl}{e:Lo}{F:Fz}{α β γ ρ σ τ:Type}
theorem GC(h:n < S.length):Q7 F S S' n=F n:=qX h
theorem N2(h:S.length<=n)(ho:S'[n]?=some o):Q7 F S S' n=.fz o:=by
 unfold Q7;rw[qY (Kp.mpr h),ho]
theorem BW(h:S[n]?=some o):n < S.length:=(AD.mp h).1
theorem Sl.mono{S0:Sto}{F F':Fz}{S S':Sto}{a:Sl}{x:Option D}(h:a.ok S0 F S x)(h1:∀n o,F n=.fz o->F' n=.fz o)(h2:∀n i o,F n=.ow i->S[n]?=some o->F' n=.ow i/\S'[n]?=some o):a.ok S0 F' S' x:=by
 cases a with
 | u=>trivial
 | v d=>exact h
 | z o=>obtain⟨n,h3,h4⟩:=h;exact⟨n,h3,h1 _ _ h4⟩
 | y o=>obtain⟨n,h3,h4,h5⟩:=h;exact⟨n,h3,h1 _ _ h4,h5⟩
 | w i o=>obtain⟨n,h3,h4,h5⟩:=h;exact⟨n,h3,h2 _ _ _ h4 h5⟩
 | q P=>obtain⟨d,h3,h4⟩:=h;exact⟨d,h3,λL hL=>h4 L λn o q=>hL n o (h1 n o q)⟩
theorem Vs.fle(h:Vs S0 A e F S)(S':Sto):Fle F (Q7 F S S'):=λn o q=>by rw[GC (BW (h.fz n o q))];exact q
theorem Vs.grow(h:Vs S0 A e F S)(k:Keeps S S'):Vs S0 A e (Q7 F S S') S':=by
 refine⟨h.kp.trans k,λn o q=>?_,λn i q=>?_,λn hn=>?_,λi a ha=>?_⟩
 ·unfold Q7 at q
  split at q
  ·rename_i hn
   rw[k.2 n hn];exact h.fz n o q
  ·cases hs:S'[n]? with
   | none=>rw[hs]at q;cases q
   | some o'=>rw[hs]at q;cases q;rfl
 ·unfold Q7 at q
  split at q
  ·exact⟨(h.ow n i q).1,AT (h.ow n i q).2 k.1⟩
  ·cases hs:S'[n]? with
   | none=>rw[hs]at q;cases q
   | some o'=>rw[hs]at q;cases q
 ·unfold Q7
  rw[qY (Kp.mpr (At k.1 hn)),CB hn]
 ·obtain⟨x,h1,h2⟩:=h.sl i a ha
  exact⟨x,h1,Sl.mono h2 (h.fle S') λn i o q1 q2=>⟨by rw[GC (BW q2)];exact q1,by rw[k.2 n (BW q2)];exact q2⟩⟩
theorem Vs.cons(h:Vs S0 A e F S)(hx:a.ok S0 F S x):Vs S0 (a :: A) (x :: e) F S:=
 ⟨h.kp,h.fz,h.ow,h.hi,λi b hb=>by
  cases i with
  | zero=>cases hb;exact⟨x,rfl,hx⟩
  | succ i=>exact h.sl i b hb⟩
theorem Vs.set(h:Vs S0 A e F S)(i:Nat)(hx:a.ok S0 F S x):Vs S0 (A.set i a) (e.set i x) F S:=
 ⟨h.kp,h.fz,h.ow,h.hi,λj b hb=>by
  by_cases c:i=j
  ·subst c
   rw[Dx]at hb;rw[qX rfl]at hb;split at hb
   ·rename_i hl
    cases hb;obtain⟨y,hy,_⟩:=h.sl i (A[i]) (Af hl);exact⟨x,by rw[Dx];rw[qX rfl,qX (AD.mp hy).1],hx⟩
   ·cases hb
  ·rw[Ab c]at hb ⊢
   exact h.sl j b hb⟩
inductive Wk:List Sl->List Sl->Prop where
 | nil:Wk [] []
 | same {a:Sl} {A B:List Sl}:Wk A B->Wk (a :: A) (a :: B)
 | drop {a:Sl} {A B:List Sl}:Wk A B->Wk (a :: A) (.u :: B)
 | less {o:Ob} {A B:List Sl}:Wk A B->Wk (.y o :: A) (.z o :: B)
theorem Wk.at:∀{A B:List Sl},Wk A B->∀(i:Nat) (b:Sl),B[i]?=some b->∃a,A[i]?=some a/\(b=.u∨b=a∨∃o,a=.y o/\b=.z o)
 | _,_,.nil,i,b,h=>by simp at h
 | _,_,.same w,0,b,h=>by cases h;exact⟨_,rfl,.inr (.inl rfl)⟩
 | _,_,.less w,0,b,h=>by cases h;exact⟨_,rfl,.inr (.inr ⟨_,rfl,rfl⟩)⟩
 | _,_,.less w,i+1,b,h=>Wk.at w i b h
 | _,_,.drop w,0,b,h=>by cases h;exact⟨_,rfl,.inl rfl⟩
 | _,_,.same w,i+1,b,h=>Wk.at w i b h
 | _,_,.drop w,i+1,b,h=>Wk.at w i b h
theorem Wk.refl:∀A:List Sl,Wk A A
 | []=>.nil
 | _ :: A=>.same (Wk.refl A)
theorem Vs.weak(h:Vs S0 A e F S)(w:Wk A B):Vs S0 B e F S:=⟨h.kp,h.fz,h.ow,h.hi,λi b hb=>by
 obtain⟨a,h1,h2⟩:=w.at i b hb;obtain⟨x,h3,h4⟩:=h.sl i a h1
 rcases h2 with rfl | rfl | ⟨o,rfl,rfl⟩
 ·exact⟨x,h3,trivial⟩
 ·exact⟨x,h3,h4⟩
 ·obtain⟨n,h5,h6,_⟩:=h4
  exact⟨x,h3,n,h5,h6⟩⟩
def Sl.oth(i:Nat):Sl->Bool
 | .w k _=>!(Nat.beq k i)
 | _=>true
theorem gv(h:((A.set i .u).all (Sl.oth i))=true)(hj:j≠i)(ha:A[j]?=some (.w k o)):k≠i:=by
 have h1:(A.set i .u)[j]?=some (.w k o):=by rw[Ab (Br hj)];exact ha
 have:=Iu.mp h _ (BB h1);intro e;subst e;have h2:(!(Nat.beq k k))=true:=this;rw[Nat.beq_refl]at h2;cases h2
theorem Vs.put(h:Vs S0 A e F S)(ht:((A.set i .u).all (Sl.oth i))=true)(ha:A[i]?=some (.w i o))(hx:e[i]?=some (some (.ref n)))(hn:F n=.ow i):Vs S0 (A.set i (.w i o')) e F (S.set n o'):=by
 have hl:=h.ow n i hn;refine⟨h.kp.set hl.1 o',λk q hq=>?_,λk j q=>by rw[D3];exact h.ow k j q,λk hk=>h.hi k (by rw[D3]at hk;exact hk),λj b hb=>?_⟩
 ·have:n≠k:=λc=>by subst c;rw[hn]at hq;cases hq
  rw[Ab this];exact h.fz k q hq
 ·by_cases c:i=j
  ·subst c
   rw[Dx]at hb;rw[qX rfl]at hb;split at hb
   ·cases hb
    exact⟨_,hx,n,rfl,hn,by rw[Dx];rw[qX rfl,qX hl.2]⟩
   ·cases hb
  ·rw[Ab c]at hb
   obtain⟨x,h1,h2⟩:=h.sl j b hb;refine⟨x,h1,?_⟩
   cases b with
   | u=>trivial
   | v d=>exact h2
   | z q=>exact h2
   | y q=>exact h2
   | q P=>exact h2
   | w k q=>
    obtain⟨m,h3,h4,h5⟩:=h2;refine⟨m,h3,h4,?_⟩
    have:n≠m:=λz=>by
     subst z;rw[hn]at h4;cases h4;exact gv ht (λz=>c z.symm) hb rfl
    rw[Ab this];exact h5
theorem Vs.freeze(h:Vs S0 A e F S)(ht:((A.set i .u).all (Sl.oth i))=true)(ha:A[i]?=some (.w i o)):∃F',Vs S0 (A.set i (.y o)) e F' S/\Fle F F':=by
 obtain⟨x,hx,n,rfl,hn,ho⟩:=h.sl i _ ha
 have g:∀k,k≠n->(if k=n then Cel.fz o else F k)=F k:=λk hk=>qY hk
 have fl:Fle F (λk=>if k=n then Cel.fz o else F k):=λk q hq=>by
  have:k≠n:=λc=>by subst c;rw[hn]at hq;cases hq
  show(if k=n then Cel.fz o else F k)=_;rw[qY this];exact hq
 refine⟨λk=>if k=n then .fz o else F k,⟨h.kp,λk q hq=>?_,λk j q=>?_,λk hk=>?_,λj b hb=>?_⟩,fl⟩
 ·split at hq
  ·rename_i c;cases hq;subst c;exact ho
  ·exact h.fz k q hq
 ·split at q
  ·cases q
  ·exact h.ow k j q
 ·have:k≠n:=λc=>by subst c;exact zX (BW ho) (Kp.mpr hk)
  show(if k=n then Cel.fz o else F k)=_;rw[qY this];exact h.hi k hk
 ·by_cases c:i=j
  ·subst c
   rw[Dx]at hb;rw[qX rfl]at hb;split at hb
   ·cases hb
    exact⟨_,hx,n,rfl,qX rfl,(h.ow n i hn).1⟩
   ·cases hb
  ·rw[Ab c]at hb
   obtain⟨x,h1,h2⟩:=h.sl j b hb;refine⟨x,h1,?_⟩
   cases b with
   | u=>trivial
   | v d=>exact h2
   | z q=>obtain⟨m,h3,h4⟩:=h2;exact⟨m,h3,fl _ _ h4⟩
   | y q=>obtain⟨m,h3,h4,h5⟩:=h2;exact⟨m,h3,fl _ _ h4,h5⟩
   | q P=>obtain⟨d,h3,h4⟩:=h2;exact⟨d,h3,λL hL=>h4 L λn o q=>hL n o (fl n o q)⟩
   | w k q=>
    obtain⟨m,h3,h4,h5⟩:=h2;refine⟨m,h3,?_,h5⟩
    have:m≠n:=λz=>by
     subst z;rw[hn]at h4;cases h4;exact gv ht (λz=>c z.symm) hb rfl
    show(if m=n then Cel.fz o else F m)=_;rw[qY this];exact h4
theorem Vs.own(h:Vs S0 A e F S)(k:Keeps S S'){i n:Nat}{o:Ob}(hn:S.length<=n)(ho:S'[n]?=some o):∃F',Vs S0 (A.set i (.w i o)) (e.set i (some (.ref n))) F' S'/\Fle F F':=by
 have g:=h.grow k;have hnl:=BW ho
 have fl:Fle F (λj=>if j=n then Cel.ow i else Q7 F S S' j):=λj q hq=>by
  have:j≠n:=λc=>by subst c;exact zX (BW (h.fz _ _ hq)) (Kp.mpr hn)
  show(if j=n then Cel.ow i else _)=_;rw[qY this];exact h.fle S' _ _ hq
 refine⟨λj=>if j=n then .ow i else Q7 F S S' j,(Vs.set (a:=.w i o) (x:=some (.ref n)) ⟨g.kp,λj q hq=>?_,λj q hq=>?_,λj hj=>?_,λj b hb=>?_⟩ i ⟨n,rfl,qX rfl,ho⟩),fl⟩
 ·split at hq
  ·cases hq
  ·exact g.fz j q hq
 ·split at hq
  ·rename_i c;subst c;exact⟨At h.kp.1 hn,hnl⟩
  ·exact g.ow j q hq
 ·have:j≠n:=λc=>by subst c;exact zX hnl (Kp.mpr hj)
  show(if j=n then Cel.ow i else _)=_;rw[qY this];exact g.hi j hj
 ·obtain⟨x,h1,h2⟩:=h.sl j b hb
  refine⟨x,h1,Sl.mono h2 fl λm j q q1 q2=>?_⟩;have hm:=BW q2
  have:m≠n:=λc=>by subst c;exact zX hm (Kp.mpr hn)
  refine⟨?_,by rw[k.2 m hm];exact q2⟩;show(if m=n then Cel.ow i else _)=_;rw[qY this,GC hm];exact q1
abbrev Rk(α:Type):=α->Sto->D->Sto->Prop
def rV(enc:α->D):Rk α:=λv _ d _=>d=enc v
def rO(ob:α->Ob):Rk α:=λv _ d S=>∃n,d=.ref n/\S[n]?=some (ob v)
def rN(ob:α->Ob):Rk α:=λv S0 d S=>∃n,d=.ref n/\S0.length<=n/\S[n]?=some (ob v)
def VE(A:List Sl)(m:ME)(R:Rk α)(p:Option α):Prop:=∀v,p=some v->∀S0 e F S,Vs S0 A e F S->∃d S',m e S=.ok d S'/\Keeps S S'/\R v S d S'
def VB(A:List Sl)(t:MT)(p:Option Bool):Prop:=∀v,p=some v->∀S0 e F S,Vs S0 A e F S->∃S',t e S=.ok v S'/\Keeps S S'
def VL(A:List Sl)(ml:ML)(enc:α->D)(p:Option (List α)):Prop:=∀v,p=some v->∀S0 e F S,Vs S0 A e F S->∃S',ml e S=.ok (v.map enc) S'/\Keeps S S'
def VK(A:List Sl)(mi:MI)(enc:α->D)(p:Option (List α)):Prop:=∀v,p=some v->∀S0 e F S,Vs S0 A e F S->∃w S',mi e S=.ok w S'/\Keeps S S'/\∀xJ,Keeps S' xJ->w xJ=some (v.map enc)
def VI(A:List Sl)(mi:MI)(enc:α->D)(p:Option (List α)):Prop:=∀v,p=some v->∀S0 e F S,Vs S0 A e F S->∃w S',mi e S=.ok w S'/\Keeps S S'/\∀χ xJ,Fle (Q7 F S S') χ->(∀n o,χ n=.fz o->xJ[n]?=some o)->w xJ=some (v.map enc)
theorem VI.k(h:VI A mi enc p):VK A mi enc p:=λv hv S0 e F S hs=>by
 obtain⟨w,S',h1,h2,h3⟩:=h v hv S0 e F S hs;have g:=hs.grow h2;exact⟨w,S',h1,h2,λxJ k=>h3 _ xJ (g.fle xJ) (g.grow k).fz⟩
def eT(enc:α->D)(l:List α):D:=.tup (l.map enc)
def eP(a:α->D)(b:β->D)(x:α×β):D:=.tup [a x.1,b x.2]
def eP3(a:α->D)(b:β->D)(c:γ->D)(x:α×β×γ):D:=.tup [a x.1,b x.2.1,c x.2.2]
def eO(a:α->D):Option α->D
 | none=>.non
 | some x=>a x
def eU(_:Unit):D:=.non
def eF(l:List Int):D:=.fro (l.map D.int)
def oL(enc:α->D)(l:List α):Ob:=.lst (l.map enc)
theorem pR(h:VE A m R p)(i:∀v S d S',R v S d S'->R' v S d S'):VE A m R' p:=λv hv S0 e F S hs=>by
 obtain⟨d,S',h1,h2,h3⟩:=h v hv S0 e F S hs;exact⟨d,S',h1,h2,i _ _ _ _ h3⟩
theorem KR(h:VE A m (rN ob) p):VE A m (rO ob) p:=pR h λv S d S' ⟨n,h1,_,h2⟩=>⟨n,h1,h2⟩
theorem AM(h:A[i]?=some (.v (enc v))):VE A (AE i) (rV enc) (some v):=λ_ hv S0 e F S hs=>by
 cases hv;obtain⟨x,h1,h2⟩:=hs.sl i _ h;cases h2;exact⟨_,S,by unfold AE;rw[h1],Keeps.refl S,rfl⟩
theorem Bs(h:A[i]?=some (.z (ob v))):VE A (AE i) (rO ob) (some v):=λ_ hv S0 e F S hs=>by
 cases hv;obtain⟨x,h1,n,rfl,h2⟩:=hs.sl i _ h;exact⟨_,S,by unfold AE;rw[h1],Keeps.refl S,n,rfl,hs.fz _ _ h2⟩
theorem EY(h:A[i]?=some (.y (ob v))):VE A (AE i) (rO ob) (some v):=λ_ hv S0 e F S hs=>by
 cases hv;obtain⟨x,h1,n,rfl,h2,_⟩:=hs.sl i _ h;exact⟨_,S,by unfold AE;rw[h1],Keeps.refl S,n,rfl,hs.fz _ _ h2⟩
theorem Ph(h:A[i]?=some (.w k (ob v))):VE A (AE i) (rO ob) (some v):=λ_ hv S0 e F S hs=>by
 cases hv;obtain⟨x,h1,n,rfl,h2,h3⟩:=hs.sl i _ h;exact⟨_,S,by unfold AE;rw[h1],Keeps.refl S,n,rfl,h3⟩
theorem Ck(h:d=enc v):VE A (mC d) (rV enc) (some v):=λ_ hv S0 e F S hs=>by
 cases hv;exact⟨d,S,rfl,Keeps.refl S,h⟩
theorem Aw(h:p.bind q=some v):∃x,p=some x/\q x=some v:=Option.bind_eq_some_iff.mp h
theorem HJ{f:D->D->Sto->Res D}{a b:ME}{ea:α->D}{eb:β->D}{ec:γ->D}{pa:Option α}{pb:Option β}{g:α->β->Option γ}(ha:VE A a (rV ea) pa)(hb:VE A b (rV eb) pb)
  (hf:∀x y z S,g x y=some z->f (ea x) (eb y) S=.ok (ec z) S):VE A (m2 f a b) (rV ec) (pa.bind λx=>pb.bind λy=>g x y):=λv hv S0 e F S hs=>by
 obtain⟨x,h1,hv⟩:=Aw hv;obtain⟨y,h2,h3⟩:=Aw hv;obtain⟨d1,S1,q1,k1,rfl⟩:=ha x h1 S0 e F S hs;obtain⟨d2,S2,q2,k2,rfl⟩:=hb y h2 S0 e _ S1 (hs.grow k1);exact⟨_,S2,Dc q1 q2 (hf x y v S2 h3),k1.trans k2,rfl⟩
theorem ZR{f:D->D->Sto->Res D}{a b:ME}{ea:α->D}{ob:β->Ob}{ec:γ->D}{pa:Option α}{pb:Option β}{g:α->β->Option γ}(ha:VE A a (rV ea) pa)(hb:VE A b (rO ob) pb)
  (hf:∀x y z S (n:Nat),S[n]?=some (ob y)->g x y=some z->f (ea x) (.ref n) S=.ok (ec z) S):VE A (m2 f a b) (rV ec) (pa.bind λx=>pb.bind λy=>g x y):=λv hv S0 e F S hs=>by
 obtain⟨x,h1,hv⟩:=Aw hv;obtain⟨y,h2,h3⟩:=Aw hv;obtain⟨d1,S1,q1,k1,rfl⟩:=ha x h1 S0 e F S hs;obtain⟨d2,S2,q2,k2,n,rfl,hn⟩:=hb y h2 S0 e _ S1 (hs.grow k1);exact⟨_,S2,Dc q1 q2 (hf x y v S2 n hn h3),k1.trans k2,rfl⟩
theorem Wb{f:D->D->Sto->Res D}{a b:ME}{ob:α->Ob}{eb:β->D}{ec:γ->D}{pa:Option α}{pb:Option β}{g:α->β->Option γ}(ha:VE A a (rO ob) pa)(hb:VE A b (rV eb) pb)
  (hf:∀x y z S (n:Nat),S[n]?=some (ob x)->g x y=some z->f (.ref n) (eb y) S=.ok (ec z) S):VE A (m2 f a b) (rV ec) (pa.bind λx=>pb.bind λy=>g x y):=λv hv S0 e F S hs=>by
 obtain⟨x,h1,hv⟩:=Aw hv;obtain⟨y,h2,h3⟩:=Aw hv;obtain⟨d1,S1,q1,k1,n,rfl,hn⟩:=ha x h1 S0 e F S hs;obtain⟨d2,S2,q2,k2,rfl⟩:=hb y h2 S0 e _ S1 (hs.grow k1);exact⟨_,S2,Dc q1 q2 (hf x y v S2 n (k2.at hn) h3),k1.trans k2,rfl⟩
theorem JP(h:VE A m (rV D.bl) p):VB A (mB m) p:=λv hv S0 e F S hs=>by
 obtain⟨d,S',h1,h2,rfl⟩:=h v hv S0 e F S hs;exact⟨S',Uh h1,h2⟩
theorem QX(h:VE A m (rV D.bl) p):VB A (E5 m) p:=λv hv S0 e F S hs=>by
 obtain⟨d,S',h1,h2,rfl⟩:=h v hv S0 e F S hs;refine⟨S',?_,h2⟩;unfold E5;rw[h1];rfl
theorem G1:VB A HD (some true):=λv hv S0 e F S hs=>by cases hv;exact⟨S,rfl,Keeps.refl S⟩
theorem Ov(h:VB A t p):VB A (Nn t) (p.bind λb=>some (!b)):=λv hv S0 e F S hs=>by
 obtain⟨x,h1,h2⟩:=Aw hv;cases h2;obtain⟨S',h3,h4⟩:=h x h1 S0 e F S hs;exact⟨S',O7 h3,h4⟩
theorem fV(h:VB A t p)(hu:VB A u q):VB A (R3 t u) (p.bind λb=>if b=true then q else some false):=λv hv S0 e F S hs=>by
 obtain⟨x,h1,h2⟩:=Aw hv;obtain⟨S1,h3,h4⟩:=h x h1 S0 e F S hs
 cases x with
 | true=>
  obtain⟨S2,h5,h6⟩:=hu v h2 S0 e _ S1 (hs.grow h4);exact⟨S2,(XZ h3).trans h5,h4.trans h6⟩
 | false=>cases h2;exact⟨S1,cC h3,h4⟩
theorem t4(h:VB A t p)(hu:VB A u q):VB A (mOr t u) (p.bind λb=>if b=true then some true else q):=λv hv S0 e F S hs=>by
 obtain⟨x,h1,h2⟩:=Aw hv;obtain⟨S1,h3,h4⟩:=h x h1 S0 e F S hs
 cases x with
 | false=>
  obtain⟨S2,h5,h6⟩:=hu v h2 S0 e _ S1 (hs.grow h4);exact⟨S2,(gy h3).trans h5,h4.trans h6⟩
 | true=>cases h2;exact⟨S1,qd h3,h4⟩
theorem WY(ht:VB A t pt)(ha:VE A a R pa)(hb:VE A b R pb)(hR:∀v S S1 d S',S.length<=S1.length->R v S1 d S'->R v S d S'):VE A (UC t a b) R (pt.bind λc=>if c=true then pa else pb):=λv hv S0 e F S hs=>by
 obtain⟨x,h1,h2⟩:=Aw hv;obtain⟨S1,h3,h4⟩:=ht x h1 S0 e F S hs
 cases x with
 | true=>
  obtain⟨d,S2,h5,h6,h7⟩:=ha v h2 S0 e _ S1 (hs.grow h4);exact⟨d,S2,(XA h3).trans h5,h4.trans h6,hR _ _ _ _ _ h4.1 h7⟩
 | false=>
  obtain⟨d,S2,h5,h6,h7⟩:=hb v h2 S0 e _ S1 (hs.grow h4);exact⟨d,S2,(XA h3).trans h5,h4.trans h6,hR _ _ _ _ _ h4.1 h7⟩
theorem Db:∀(v:α) (S S1:Sto) (d:D) (S':Sto),S.length<=S1.length->rV enc v S1 d S'->rV enc v S d S':=λ_ _ _ _ _ _ h=>h
theorem IC:∀(v:α) (S S1:Sto) (d:D) (S':Sto),S.length<=S1.length->rN ob v S1 d S'->rN ob v S d S':=λ_ _ _ _ _ l ⟨n,h1,h2,h3⟩=>⟨n,h1,At l h2,h3⟩
inductive Fw(ρ σ:Type) where
 | rt (r:ρ) | nx (s:σ) | bk (s:σ) | ct (s:σ)
def VG(S0:Sto)(F:Fz)(S':Sto)(R:Rk ρ)(B:σ->List Sl)(g:Fl):Fw ρ σ->Prop
 | .nx s=>∃e' F',g=.nx e'/\Vs S0 (B s) e' F' S'/\Fle F F'
 | .ct s=>∃e' F',g=.ct e'/\Vs S0 (B s) e' F' S'/\Fle F F'
 | .bk s=>∃e' F',g=.bk e'/\Vs S0 (B s) e' F' S'/\Fle F F'
 | .rt r=>∃d,g=.rt d/\R r S0 d S'/\Keeps S0 S'
def VS(A:List Sl)(b:MS)(R:Rk ρ)(p:Option (Fw ρ σ))(B:σ->List Sl):Prop:=∀f,p=some f->∀S0 e F S,Vs S0 A e F S->∃g S',b e S=.ok g S'/\VG S0 F S' R B g f
def BH(p:Option (Fw ρ σ))(q:σ->Option (Fw ρ τ)):Option (Fw ρ τ):=match p with
 | some (.nx s)=>q s
 | some (.rt r)=>some (.rt r)
 | _=>none
theorem VG.up{S0:Sto}{F F1:Fz}{S':Sto}{R:Rk ρ}{B:σ->List Sl}{g:Fl}{f:Fw ρ σ}(l:Fle F F1)(h:VG S0 F1 S' R B g f):VG S0 F S' R B g f:=by
 cases f with
 | rt r=>exact h
 | nx s=>obtain⟨e',F',h1,h2,h3⟩:=h;exact⟨e',F',h1,h2,l.trans h3⟩
 | bk s=>obtain⟨e',F',h1,h2,h3⟩:=h;exact⟨e',F',h1,h2,l.trans h3⟩
 | ct s=>obtain⟨e',F',h1,h2,h3⟩:=h;exact⟨e',F',h1,h2,l.trans h3⟩
theorem BA{a b:MS}{R:Rk ρ}{p:Option (Fw ρ σ)}{q:σ->Option (Fw ρ τ)}{B:σ->List Sl}{C:τ->List Sl}(ha:VS A a R p B)(hb:∀s,VS (B s) b R (q s) C):VS A (BK a b) R (BH p q) C:=λf hf S0 e F S hs=>by
 cases p with
 | none=>cases hf
 | some w=>
  obtain⟨g,S1,h1,h2⟩:=ha _ rfl S0 e F S hs
  cases w with
  | nx s=>
   obtain⟨e1,F1,rfl,h2,h3⟩:=h2;obtain⟨g2,S2,h4,h5⟩:=hb s f hf S0 e1 F1 S1 h2;exact⟨g2,S2,(B1 h1).trans h4,h5.up h3⟩
  | rt r=>
   cases hf;obtain⟨d,rfl,h2,h3⟩:=h2;exact⟨_,S1,TX h1,d,rfl,h2,h3⟩
  | bk s=>cases hf
  | ct s=>cases hf
theorem Ga{R:Rk ρ}{B:σ->List Sl}{s:σ}(w:Wk A (B s)):VS A sNx R (some (.nx s)) B:=λf hf S0 e F S hs=>by
 cases hf;exact⟨_,S,rfl,e,F,rfl,hs.weak w,Fle.refl F⟩
def Ew(g:σ->τ)(p:Option (Fw ρ σ)):Option (Fw ρ τ):=match p with
 | some (.nx s)=>some (.nx (g s))
 | some (.rt r)=>some (.rt r)
 | some (.bk s)=>some (.bk (g s))
 | some (.ct s)=>some (.ct (g s))
 | none=>none
theorem Ct{b:MS}{R:Rk ρ}{p:Option (Fw ρ σ)}{g:σ->τ}{B:σ->List Sl}{C:τ->List Sl}(h:VS A b R p B)(w:∀s,Wk (B s) (C (g s))):VS A b R (Ew g p) C:=λf hf S0 e F S hs=>by
 cases p with
 | none=>cases hf
 | some x=>
  obtain⟨g,S1,h1,h2⟩:=h _ rfl S0 e F S hs
  cases x with
  | nx s=>cases hf;obtain⟨e1,F1,rfl,h2,h3⟩:=h2;exact⟨_,S1,h1,e1,F1,rfl,h2.weak (w s),h3⟩
  | rt r=>cases hf;exact⟨_,S1,h1,h2⟩
  | bk s=>cases hf;obtain⟨e1,F1,rfl,h2,h3⟩:=h2;exact⟨_,S1,h1,e1,F1,rfl,h2.weak (w s),h3⟩
  | ct s=>cases hf;obtain⟨e1,F1,rfl,h2,h3⟩:=h2;exact⟨_,S1,h1,e1,F1,rfl,h2.weak (w s),h3⟩
theorem Dh(h:VE A m (rV enc) p):VS A (CP i m) R (p.bind λv=>some (.nx v)) (λv=>A.set i (.v (enc v))):=λf hf S0 e F S hs=>by
 obtain⟨v,h1,h2⟩:=Aw hf;cases h2;obtain⟨d,S',h3,h4,rfl⟩:=h v h1 S0 e F S hs;exact⟨_,S',Jj h3,_,_,rfl,(hs.grow h4).set i rfl,hs.fle S'⟩
theorem JO(h:VE A m (rN ob) p):VS A (CP i m) R (p.bind λv=>some (.nx v)) (λv=>A.set i (.y (ob v))):=λf hf S0 e F S hs=>by
 obtain⟨v,h1,h2⟩:=Aw hf;cases h2;obtain⟨d,S',h3,h4,n,rfl,h5,h6⟩:=h v h1 S0 e F S hs;exact⟨_,S',Jj h3,_,_,rfl,(hs.grow h4).set (a:=.y (ob v)) i ⟨n,rfl,N2 h5 h6,At hs.kp.1 h5⟩,hs.fle S'⟩
theorem IX(h:VE A m (rN ob) p):VS A (CP i m) R (p.bind λv=>some (.nx v)) (λv=>A.set i (.w i (ob v))):=λf hf S0 e F S hs=>by
 obtain⟨v,h1,h2⟩:=Aw hf;cases h2;obtain⟨d,S',h3,h4,n,rfl,h5,h6⟩:=h v h1 S0 e F S hs;obtain⟨F',h7,h8⟩:=hs.own h4 (i:=i) h5 h6;exact⟨_,S',Jj h3,_,F',rfl,h7,h8⟩
theorem fE(h:A[j]?=some (.z o)):VS A (CP i (AE j)) R (some (.nx ())) (λ_:Unit=>A.set i (.z o)):=λf hf S0 e F S hs=>by
 cases hf;obtain⟨x,h1,n,rfl,h2⟩:=hs.sl j _ h;exact⟨_,S,Jj (d:=.ref n) (by unfold AE;rw[h1]),_,F,rfl,hs.set (a:=.z o) i ⟨n,rfl,h2⟩,Fle.refl F⟩
theorem Vb(h:A[j]?=some (.y o)):VS A (CP i (AE j)) R (some (.nx ())) (λ_:Unit=>A.set i (.y o)):=λf hf S0 e F S hs=>by
 cases hf;obtain⟨x,h1,n,rfl,h2,h3⟩:=hs.sl j _ h;exact⟨_,S,Jj (d:=.ref n) (by unfold AE;rw[h1]),_,F,rfl,hs.set (a:=.y o) i ⟨n,rfl,h2,h3⟩,Fle.refl F⟩
theorem pF{b:MS}{R:Rk ρ}{p:Option (Fw ρ σ)}{B:σ->List Sl}{o:Ob}(i:Nat)(ha:A[i]?=some (.w i o))(ht:((A.set i .u).all (Sl.oth i))=true)(h:VS (A.set i (.y o)) b R p B):VS A b R p B:=λf hf S0 e F S hs=>by
 obtain⟨F',h1,h2⟩:=hs.freeze ht ha;obtain⟨g,S',h3,h4⟩:=h f hf S0 e F' S h1;exact⟨g,S',h3,h4.up h2⟩
theorem Cr{m:ME}{enc:ρ->D}{p:Option ρ}{B:σ->List Sl}(h:VE A m (rV enc) p):VS A (CZ m) (rV enc) (p.bind λv=>some (.rt v)) B:=λf hf S0 e F S hs=>by
 obtain⟨v,h1,h2⟩:=Aw hf;cases h2;obtain⟨d,S',h3,h4,rfl⟩:=h v h1 S0 e F S hs;exact⟨_,S',IK h3,_,rfl,rfl,hs.kp.trans h4⟩
theorem Pd{m:ME}{ob:ρ->Ob}{p:Option ρ}{B:σ->List Sl}(h:VE A m (rN ob) p):VS A (CZ m) (rN ob) (p.bind λv=>some (.rt v)) B:=λf hf S0 e F S hs=>by
 obtain⟨v,h1,h2⟩:=Aw hf;cases h2;obtain⟨d,S',h3,h4,n,rfl,h5,h6⟩:=h v h1 S0 e F S hs;exact⟨_,S',IK h3,_,rfl,⟨n,rfl,At hs.kp.1 h5,h6⟩,hs.kp.trans h4⟩
theorem WQ{i:Nat}{ob:ρ->Ob}{v:ρ}{B:σ->List Sl}{k:Nat}(h:A[i]?=some (.w k (ob v))):VS A (CZ (AE i)) (rN ob) (some (.rt v)) B:=λf hf S0 e F S hs=>by
 cases hf;obtain⟨x,h1,n,rfl,h2,h3⟩:=hs.sl i _ h;exact⟨_,S,IK (d:=.ref n) (by unfold AE;rw[h1]),_,rfl,⟨n,rfl,(hs.ow _ _ h2).1,h3⟩,hs.kp⟩
theorem j7{i:Nat}{ob:ρ->Ob}{v:ρ}{B:σ->List Sl}(h:A[i]?=some (.y (ob v))):VS A (CZ (AE i)) (rN ob) (some (.rt v)) B:=λf hf S0 e F S hs=>by
 cases hf;obtain⟨x,h1,n,rfl,h2,h3⟩:=hs.sl i _ h;exact⟨_,S,IK (d:=.ref n) (by unfold AE;rw[h1]),_,rfl,⟨n,rfl,h3,hs.fz _ _ h2⟩,hs.kp⟩
theorem Gb{t:MT}{a b:MS}{R:Rk ρ}{pt:Option Bool}{p q:Option (Fw ρ σ)}{B:σ->List Sl}(ht:VB A t pt)(ha:VS A a R p B)(hb:VS A b R q B):VS A (sIf t a b) R (pt.bind λc=>if c=true then p else q) B:=λf hf S0 e F S hs=>by
 obtain⟨c,h1,h2⟩:=Aw hf;obtain⟨S1,h3,h4⟩:=ht c h1 S0 e F S hs
 cases c with
 | true=>
  obtain⟨g,S2,h5,h6⟩:=ha f h2 S0 e _ S1 (hs.grow h4);exact⟨g,S2,(HB h3).trans h5,h6.up (hs.fle S1)⟩
 | false=>
  obtain⟨g,S2,h5,h6⟩:=hb f h2 S0 e _ S1 (hs.grow h4);exact⟨g,S2,(HB h3).trans h5,h6.up (hs.fle S1)⟩
def Ue(l:List α)(x:α):Option (List α):=if l.length < 1000000 then some (l++[x])else none
def dk(l k:List α):Option (List α):=if l.length+k.length<=1000000 then some (l++k)else none
theorem Z3(h:n < 1000000):n < sizeLine:=AT h (by decide)
theorem q9(h:n<=1000000):n<=sizeLine:=At h (by decide)
theorem WS(hi:A[i]?=some (.w i (oL enc l)))(h:VE A m (rV enc) p)(ht:((A.set i .u).all (Sl.oth i))=true) :
  VS A (Il (P0 (AE i) m)) R (p.bind λv=>(Ue l v).bind λl'=>some (.nx l')) (λl'=>A.set i (.w i (oL enc l'))):=λf hf S0 e F S hs=>by
 obtain⟨v,h1,h2⟩:=Aw hf;obtain⟨l',h2,h0⟩:=Aw h2;cases h0;unfold Ue at h2;split at h2
 ·rename_i hl
  cases h2;obtain⟨x,g1,n,rfl,g2,g3⟩:=hs.sl i _ hi;obtain⟨d,S',h3,h4,rfl⟩:=h v h1 S0 e F S hs;have hg:=hs.grow h4;have hx:=XY (mo:=AE i) (e:=e) (S:=S) (S1:=S) (n:=n) (by unfold AE;rw[g1]) g3 h3 (h4.at g3) (by rw[AF];exact Z3 hl);rw[show l.map enc++[enc v]=(l++[v]).map enc by simp]at hx;exact⟨_,_,QB hx,e,_,rfl,hg.put ht hi g1 (by rw[GC (BW g3)];exact g2),hs.fle S'⟩
 ·cases h2
theorem ap(h:VE A m Rm p):VS A (Il m) R (p.bind λ_=>some (.nx ())) (λ_:Unit=>A):=λf hf S0 e F S hs=>by
 obtain⟨v,h1,h2⟩:=Aw hf;cases h2;obtain⟨d,S',h3,h4,_⟩:=h v h1 S0 e F S hs;exact⟨_,S',QB h3,e,_,rfl,hs.grow h4,hs.fle S'⟩
theorem QV(hi:A[i]?=some (.v (D.int x)))(h:VE A m (rV D.int) p):VS A (Ti i g m) R (p.bind λy=>some (.nx (g x y))) (λz=>A.set i (.v (D.int z))):=λf hf S0 e F S hs=>by
 obtain⟨v,h1,h2⟩:=Aw hf;cases h2;obtain⟨d,S',h3,h4,rfl⟩:=h v h1 S0 e F S hs;obtain⟨y,g1,g2⟩:=hs.sl i _ hi;cases g2;refine⟨_,S',?_,_,_,rfl,(hs.grow h4).set (a:=.v (D.int (g x v))) i rfl,hs.fle S'⟩;unfold Ti;rw[g1];dsimp only;rw[h3];rfl
def VT(g:MG)(enc:α->D)(t:α->List Sl->List Sl):Prop:=∀x S0 A e F S,Vs S0 A e F S->∃e',g (enc x) e S=.ok e' S/\Vs S0 (t x A) e' F S
theorem DV:VT (tgN i) enc (λx A=>A.set i (.v (enc x))):=λx S0 A e F S hs=>⟨_,rfl,hs.set (a:=.v (enc x)) i rfl⟩
theorem WO:VT (JK 2 (DL (tgN i) (DL (tgN j) Jh))) (eP a b) (λx A=>(A.set i (.v (a x.1))).set j (.v (b x.2))):=λx S0 A e F S hs=>⟨_,rfl,(hs.set (a:=.v (a x.1)) i rfl).set (a:=.v (b x.2)) j rfl⟩
def Eg:List α->σ->(σ->α->Option (Fw ρ σ))->Option (Fw ρ σ)
 | [],s,_=>some (.nx s)
 | x :: l,s,q=>match q s x with
  | some (.nx s')=>Eg l s' q
  | some (.ct s')=>Eg l s' q
  | some (.bk s')=>some (.nx s')
  | some (.rt r)=>some (.rt r)
  | none=>none
theorem kB{enc:α->D}{g:MG}{t:α->List Sl->List Sl}{b:MS}{R:Rk ρ}{q:σ->α->Option (Fw ρ σ)}{B:σ->List Sl}(hg:VT g enc t)(hb:∀s x,VS (t x (B s)) b R (q s x) B){w:SA}{S0:Sto}{F1:Fz}{full:List α}
  (hw:∀χ xJ,Fle F1 χ->(∀n o,χ n=.fz o->xJ[n]?=some o)->w xJ=some (full.map enc)):∀(l:List α) (k:Nat),full.drop k=l->∀(s:σ) (f:Fw ρ σ),Eg l s q=some f->∀e F S,Vs S0 (B s) e F S->Fle F1 F->∃h S',NB w g b (l.length) k e S=.ok h S'/\VG S0 F1 S' R B h f:=by
 intro l
 induction l with
 | nil=>
  intro k hk s f hf e F S hs hF;cases hf
  have:full.length<=k:=by
   have:=congrArg Of hk;rw[Gn,D4]at this
   lia
  refine⟨_,S,?_,e,F,rfl,hs,hF⟩;unfold NB;rw[hw F S hF hs.fz];dsimp only;rw[CB (by rw[AF];exact this)]
 | cons x l ih=>
  intro k hk s f hf e F S hs hF
  have hx:full[k]?=some x:=by
   have:=congrArg (λz=>z[0]?) hk;rw[QJ]at this;simpa using this
  have wI:full.drop (k+1)=l:=by
   have e1:full.drop (k+1)=(full.drop k).drop 1:=by rw[np]
   exact e1.trans (congrArg (List.drop 1) hk)
  obtain⟨e1,g1,g2⟩:=hg x S0 _ e F S hs
  have run:∀h S',b e1 S=.ok h S'->NB w g b ((x :: l).length) k e S=(match h with
    | .nx e2=>NB w g b l.length (k+1) e2 S'
    | .ct e2=>NB w g b l.length (k+1) e2 S'
    | .bk e2=>.ok (.nx e2) S'
    | .rt d=>.ok (.rt d) S'
    | .ex c e2=>.ok (.ex c e2) S'):=λh S' wc=>by
   show NB w g b (l.length+1) k e S=_
   conv=>lhs;unfold NB
   rw[hw F S hF hs.fz];dsimp only;rw[AZ,hx];dsimp only[sx];rw[g1];dsimp only[Res.bind];rw[wc]
   all_goals (cases h <;> rfl)
  unfold Eg at hf;split at hf
  ·rename_i s' hq
   obtain⟨h,S1,h1,e2,F2,rfl,h2,h3⟩:=hb s x _ hq S0 e1 F S g2;rw[run _ _ h1];exact ih (k+1) wI s' f hf e2 F2 S1 h2 (hF.trans h3)
  ·rename_i s' hq
   obtain⟨h,S1,h1,e2,F2,rfl,h2,h3⟩:=hb s x _ hq S0 e1 F S g2;rw[run _ _ h1];exact ih (k+1) wI s' f hf e2 F2 S1 h2 (hF.trans h3)
  ·rename_i s' hq
   cases hf;obtain⟨h,S1,h1,e2,F2,rfl,h2,h3⟩:=hb s x _ hq S0 e1 F S g2;rw[run _ _ h1];exact⟨_,S1,rfl,e2,F2,rfl,h2,hF.trans h3⟩
  ·rename_i r hq
   cases hf;obtain⟨h,S1,h1,d,rfl,h2,h3⟩:=hb s x _ hq S0 e1 F S g2;rw[run _ _ h1];exact⟨_,S1,rfl,d,rfl,h2,h3⟩
  ·cases hf
theorem Dt{enc:α->D}{mi:MI}{g:MG}{t:α->List Sl->List Sl}{b:MS}{R:Rk ρ}{p:Option (List α)}{q:σ->α->Option (Fw ρ σ)}{B:σ->List Sl}{s0:σ}(hi:VI A mi enc p)(hg:VT g enc t)(w0:Wk A (B s0))(hb:∀s x,VS (t x (B s)) b R (q s x) B) :
  VS A (Ez mi g b) R (p.bind λl=>Eg l s0 q) B:=λf hf S0 e F S hs=>by
 obtain⟨l,h1,h2⟩:=Aw hf;obtain⟨w,S1,h3,h4,h5⟩:=hi l h1 S0 e F S hs;have hg1:=hs.grow h4
 have hl:EF w S1=l.length:=by unfold EF;rw[h5 _ S1 (Fle.refl _) hg1.fz];exact AF _
 obtain⟨h,S2,h6,h7⟩:=kB hg hb h5 l 0 rfl s0 f h2 e _ S1 (hg1.weak w0) (Fle.refl _);refine⟨h,S2,?_,h7.up (hs.fle S1)⟩;rw[LA h3,hl];exact h6
def UZ(c:α->Option Bool)(m:α->Option β):List α->Option (List β)
 | []=>some []
 | x :: l=>(c x).bind λb=>if b=true then(m x).bind λy=>(UZ c m l).bind λys=>some (y :: ys)else UZ c m l
def Ep(l:List α)(c:α->Option Bool)(m:α->Option β):Option (List β):=if l.length<=1000000 then UZ c m l else none
theorem fF{enc:α->D}{eb:β->D}{g:MG}{P:List (Option D)->Prop}{T:α->List Sl}{c:MT}{m:ME}{pc:α->Option Bool}{pm:α->Option β}
  (hg:∀x S0 e F S pre,P pre->Vs S0 A e F S->∃wV,g (enc x) (pre++e) S=.ok (wV++e) S/\P wV/\Vs S0 (T x) (wV++e) F S)
  (hc:∀x,VB (T x) c (pc x)) (hm:∀x,VE (T x) m (rV eb) (pm x)) {w:SA} {S0:Sto} {e:Lo} {full:List α} {S1:Sto} (hf:full.length<=1000000) (hw:∀xJ,Keeps S1 xJ->w xJ=some (full.map enc)) :
  ∀(l:List α) (k:Nat),full.drop k=l->∀(r:List β),UZ pc pm l=some r->∀pre F S acc,P pre->Vs S0 A e F S->Keeps S1 S->acc.length<=k->∃S',HC w g c m l.length k (pre++e) S acc=.ok (acc++r.map eb) S'/\Keeps S S':=by
 intro l
 induction l with
 | nil=>
  intro k hk r hr pre F S acc hp hs ψ ha;cases hr
  have:full.length<=k:=by
   have:=congrArg Of hk;rw[Gn,D4]at this
   lia
  refine⟨S,?_,Keeps.refl S⟩;unfold HC;rw[hw S ψ];dsimp only;rw[CB (by rw[AF];exact this),NG,Bq]
 | cons x l ih=>
  intro k hk r hr pre F S acc hp hs ψ ha
  have hx:full[k]?=some x:=by
   have:=congrArg (λz=>z[0]?) hk;rw[QJ]at this;simpa using this
  have wI:full.drop (k+1)=l:=by
   have e1:full.drop (k+1)=(full.drop k).drop 1:=by rw[np]
   exact e1.trans (congrArg (List.drop 1) hk)
  have ω:k < full.length:=(AD.mp hx).1;obtain⟨wV,g1,g2,g3⟩:=hg x S0 e F S pre hp hs;unfold UZ at hr;obtain⟨b,h1,h2⟩:=Aw hr;obtain⟨S2,h3,h4⟩:=hc x b h1 S0 _ F S g3;have wK:=hs.grow h4
  show ∃S',HC w g c m (l.length+1) k (pre++e) S acc=_/\_
  conv=>arg 1;ext S';arg 1;lhs;unfold HC
  rw[hw S ψ];dsimp only;rw[AZ,hx];dsimp only[sx];rw[qX (Au ha (Z3 (AT ω hf))),g1];dsimp only[okR,Res.bind];rw[h3];dsimp only[okR,Res.bind]
  cases b with
  | true=>
   rw[qX rfl]at h2 ⊢;obtain⟨y,h5,h6⟩:=Aw h2;obtain⟨ys,h6',h7⟩:=Aw h6;cases h7;obtain⟨d,S3,h8,h9,rfl⟩:=hm x y h5 S0 _ _ S2 (g3.grow h4);rw[h8];obtain⟨S4,q1,q2⟩:=ih (k+1) wI ys h6' wV _ S3 (acc++[eb y]) g2 (wK.grow h9) (ψ.trans (h4.trans h9)) (by rw[AY,Ai];lia);refine⟨S4,?_,(h4.trans h9).trans q2⟩;show HC w g c m l.length (k+1) (wV++e) S3 (acc++[eb y])=_;rw[q1,Dz];rfl
  | false=>
   rw[qY AK]at h2 ⊢;obtain⟨S4,q1,q2⟩:=ih (k+1) wI r h2 wV _ S2 acc g2 wK (ψ.trans h4) (by lia);exact⟨S4,q1,h4.trans q2⟩
theorem kE{enc:α->D}{eb:β->D}{n:Nat}{mi:MI}{g:MG}{P:List (Option D)->Prop}{T:α->List Sl}{c:MT}{m:ME}{p:Option (List α)}{pc:α->Option Bool}{pm:α->Option β}(hi:VK A mi enc p)(h0:P (Bt n none))
  (hg:∀x S0 e F S pre,P pre->Vs S0 A e F S->∃wV,g (enc x) (pre++e) S=.ok (wV++e) S/\P wV/\Vs S0 (T x) (wV++e) F S)
  (hc:∀x,VB (T x) c (pc x)) (hm:∀x,VE (T x) m (rV eb) (pm x)):VL A (Eo n mi g c m) eb (p.bind λl=>Ep l pc pm):=λr hr S0 e F S hs=>by
 obtain⟨l,h1,h2⟩:=Aw hr;obtain⟨w,S1,h3,h4,h5⟩:=hi l h1 S0 e F S hs;unfold Ep at h2;split at h2
 ·rename_i hl
  have yu:=hs.grow h4;obtain⟨S2,h6,h7⟩:=fF hg hc hm hl h5 l 0 rfl r h2 _ _ S1 [] h0 yu (Keeps.refl _) (AO _);refine⟨S2,?_,h4.trans h7⟩;rw[XQ h3,show EF w S1=l.length by unfold EF;rw[h5 S1 (Keeps.refl _)];exact AF _];exact h6
 ·cases h2
theorem Di{enc:α->D}{eb:β->D}{mi:MI}{c:MT}{m:ME}{p:Option (List α)}{pc:α->Option Bool}{pm:α->Option β}(hi:VK A mi enc p)(hc:∀x,VB (.v (enc x) :: A) c (pc x))(hm:∀x,VE (.v (enc x) :: A) m (rV eb) (pm x)) :
  VL A (Eo 1 mi (tgN 0) c m) eb (p.bind λl=>Ep l pc pm):=
 kE (P:=λpre=>∃z,pre=[z]) hi ⟨none,rfl⟩ (λx S0 e F S pre hp hs=>by
  obtain⟨z,rfl⟩:=hp
  exact⟨[some (enc x)],rfl,⟨_,rfl⟩,hs.cons (a:=.v (enc x)) rfl⟩) hc hm
theorem Du(h:VL A ml enc p):VE A (FZ ml) (rN (oL enc)) p:=λv hv S0 e F S hs=>by
 obtain⟨S',h1,h2⟩:=h v hv S0 e F S hs;exact⟨_,_,Zv h1,h2.trans (Keeps.app _ _),_,rfl,h2.1,FQ _ _⟩
inductive Ar where
 | v (d:D) | z (o:Ob) | q (P:(Nat->Option Ob)->D->Prop)
def Ar.ok(S:Sto):Ar->D->Prop
 | .v d,x=>x=d
 | .z o,x=>∃n,x=.ref n/\S[n]?=some o
 | .q P,x=>∀L:Nat->Option Ob,(∀n o,S[n]?=some o->L n=some o)->P L x
def Ar.sl:Ar->Sl
 | .v d=>.v d
 | .z o=>.z o
 | .q P=>.q P
def M2(S:Sto):List Ar->List D->Prop
 | [],[]=>True
 | a :: as,d :: ds=>a.ok S d/\M2 S as ds
 | _,_=>False
theorem M2.len:∀{as:List Ar} {ds:List D},M2 S as ds->ds.length=as.length
 | [],[],_=>rfl
 | _ :: as,_ :: ds,h=>by rw[Av,Av,M2.len h.2]
 | [],_ :: _,h=>h.elim
 | _ :: _,[],h=>h.elim
theorem M2.at:∀{as:List Ar} {ds:List D},M2 S as ds->∀(i:Nat) (a:Ar),as[i]?=some a->∃d,ds[i]?=some d/\a.ok S d
 | [],[],_,i,a,h=>by simp at h
 | b :: as,d :: ds,h,0,a,q=>by cases q;exact⟨d,rfl,h.1⟩
 | b :: as,d :: ds,h,i+1,a,q=>M2.at h.2 i a q
 | [],_ :: _,h,_,_,_=>h.elim
 | _ :: _,[],h,_,_,_=>h.elim
def VF(f:List D->Sto->Res D)(as:List Ar)(R:Rk α)(p:Option α):Prop:=∀v,p=some v->∀S ds,M2 S as ds->∃d S',f ds S=.ok d S'/\Keeps S S'/\R v S d S'
def VA(A:List Sl)(ml:ML)(p:Option γ)(ar:γ->List Ar):Prop:=∀v,p=some v->∀S0 e F S,Vs S0 A e F S->∃ds S',ml e S=.ok ds S'/\Keeps S S'/\M2 S' (ar v) ds
theorem Bb:VA A BL (some ()) (λ_=>[]):=λv hv S0 e F S hs=>⟨[],S,rfl,Keeps.refl S,trivial⟩
theorem CM(h:VE A m (rV enc) p)(hl:VA A ml q ar):VA A (AN m ml) (p.bind λx=>q.bind λy=>some (x,y)) (λz=>.v (enc z.1) :: ar z.2):=λv hv S0 e F S hs=>by
 obtain⟨x,h1,h2⟩:=Aw hv;obtain⟨y,zF,h3⟩:=Aw h2;cases h3;obtain⟨d,S1,h4,h5,rfl⟩:=h x h1 S0 e F S hs;obtain⟨ds,S2,h6,h7,h8⟩:=hl y zF S0 e _ S1 (hs.grow h5);exact⟨_,S2,Cq h4 h6,h5.trans h7,rfl,h8⟩
theorem G5(h:VE A m (rO ob) p)(hl:VA A ml q ar):VA A (AN m ml) (p.bind λx=>q.bind λy=>some (x,y)) (λz=>.z (ob z.1) :: ar z.2):=λv hv S0 e F S hs=>by
 obtain⟨x,h1,h2⟩:=Aw hv;obtain⟨y,zF,h3⟩:=Aw h2;cases h3;obtain⟨d,S1,h4,h5,n,rfl,h0⟩:=h x h1 S0 e F S hs;obtain⟨ds,S2,h6,h7,h8⟩:=hl y zF S0 e _ S1 (hs.grow h5);exact⟨_,S2,Cq h4 h6,h5.trans h7,⟨n,rfl,h7.at h0⟩,h8⟩
theorem Ba(ha:VA A ml p ar)(hf:∀z,VF f (ar z) R (q z))(hn:∀z,(ar z).length=n)(hR:∀v S S1 d S',S.length<=S1.length->R v S1 d S'->R v S d S'):VE A (Bp n f ml) R (p.bind q):=λv hv S0 e F S hs=>by
 obtain⟨z,h1,h2⟩:=Aw hv;obtain⟨ds,S1,h3,h4,h5⟩:=ha z h1 S0 e F S hs;obtain⟨d,S2,h6,h7,h8⟩:=hf z v h2 S1 ds h5;exact⟨d,S2,(Mp h3 (h5.len.trans (hn z))).trans h6,h4.trans h7,hR _ _ _ _ _ h4.1 h8⟩
def Lg(S:Sto):Fz:=λn=>match S[n]? with
 | some o=>.fz o
 | none=>.no
theorem Vs.start(h:M2 S as ds):Vs S (as.map Ar.sl++Bt (n - as.length) .u) (JC n ds) (Lg S) S:=by
 refine⟨Keeps.refl S,λn o q=>?_,λn i q=>?_,λn hn=>by unfold Lg;rw[CB hn],λi a ha=>?_⟩
 ·unfold Lg at q
  split at q
  ·rename_i o' ho;cases q;exact ho
  ·cases q
 ·unfold Lg at q
  split at q <;> cases q
 ·unfold JC
  by_cases c:i < as.length
  ·rw[A9 (by rw[AF];exact c),AZ]at ha
   rw[A9 (by rw[AF,h.len];exact c),AZ]
   cases hq:as[i]? with
   | none=>rw[hq]at ha;cases ha
   | some b=>
    rw[hq]at ha;cases ha;obtain⟨d,h1,h2⟩:=h.at i b hq;refine⟨some d,by rw[h1];rfl,?_⟩
    cases b with
    | v x=>exact congrArg some h2
    | z o=>obtain⟨m,h3,h4⟩:=h2;exact⟨m,congrArg some h3,by unfold Lg;rw[h4]⟩
    | q P=>exact⟨d,rfl,λL hL=>h2 L λn o q=>hL n o (by unfold Lg;rw[q])⟩
  ·rw[Be (by rw[AF];lia)]at ha
   rw[AF,Dy]at ha;split at ha
   ·rename_i wo
    cases ha;refine⟨none,?_,trivial⟩;rw[Be (by rw[AF,h.len];lia),AF,h.len,Dy,qX wo]
   ·cases ha
def FC(p:Option (Fw ρ σ)):Option ρ:=match p with
 | some (.rt r)=>some r
 | _=>none
def gu(p:Option (Fw Unit σ)):Option Unit:=match p with
 | some (.rt r)=>some ()
 | some (.nx _)=>some ()
 | _=>none
end
section
variable{S0 S S':Sto}{A:List Sl}{α β γ δ:Type}
section
variable{a b c:ME}{pa pb pc:Option Int}
theorem JB(ha:VE A a (rV D.int) pa)(hb:VE A b (rV D.int) pb):VE A (m2 Ja a b) (rV D.int) (pa.bind λx=>pb.bind λy=>some (x+y)):=HJ ha hb λx y z S h=>by cases h;rfl
theorem Sz(ha:VE A a (rV D.int) pa)(hb:VE A b (rV D.int) pb):VE A (m2 Zd a b) (rV D.int) (pa.bind λx=>pb.bind λy=>some (x - y)):=HJ ha hb λx y z S h=>by cases h;rfl
def dR(x y:Int):Option Int:=if Y2 x y then some (x * y)else none
def Vy(x y:Int):Option Int:=if jZ x y then some (x / y)else none
def mJ(x y:Int):Option Int:=if 0 < y then some (x % y)else none
theorem ZS(ha:VE A a (rV D.int) pa)(hb:VE A b (rV D.int) pb):VE A (m2 W5 a b) (rV D.int) (pa.bind λx=>pb.bind λy=>dR x y):=HJ ha hb λx y z S h=>by
 unfold dR at h;split at h
 ·rename_i hc;cases h;exact qX hc
 ·cases h
theorem WZ(ha:VE A a (rV D.int) pa)(hb:VE A b (rV D.int) pb):VE A (m2 Ny a b) (rV D.int) (pa.bind λx=>pb.bind λy=>Vy x y):=HJ ha hb λx y z S h=>by
 unfold Vy at h;split at h
 ·rename_i hc;cases h;exact qX hc
 ·cases h
theorem pM(ha:VE A a (rV D.int) pa)(hb:VE A b (rV D.int) pb):VE A (m2 Qu a b) (rV D.int) (pa.bind λx=>pb.bind λy=>mJ x y):=HJ ha hb λx y z S h=>by
 unfold mJ at h;split at h
 ·rename_i hc;cases h;exact bQ hc
 ·cases h
theorem Pj(hk:(decide (0 < k)&&decide (k<=1000000))=true)(ha:VE A a (rV D.int) pa):VE A (m2 Ny a (mC (.int k))) (rV D.int) (pa.bind λx=>some (x / k)):=λv hv S0 e F S hs=>by
 obtain⟨x,h1,h2⟩:=Aw hv;cases h2;obtain⟨d,S',h3,h4,rfl⟩:=ha x h1 S0 e F S hs;have wI:=CU _ _▸hk;exact⟨_,S',Dc h3 rfl (i6 (of_decide_eq_true wI.1) (of_decide_eq_true wI.2)),h4,rfl⟩
theorem KS(hk:decide (0 < k)=true)(ha:VE A a (rV D.int) pa):VE A (m2 Qu a (mC (.int k))) (rV D.int) (pa.bind λx=>some (x % k)):=λv hv S0 e F S hs=>by
 obtain⟨x,h1,h2⟩:=Aw hv;cases h2;obtain⟨d,S',h3,h4,rfl⟩:=ha x h1 S0 e F S hs;exact⟨_,S',Dc h3 rfl (bQ (of_decide_eq_true hk)),h4,rfl⟩
theorem aw(hk:(decide (-1000000<=k)&&decide (k<=1000000))=true)(ha:VE A a (rV D.int) pa):VE A (m2 W5 a (mC (.int k))) (rV D.int) (pa.bind λx=>some (x * k)):=λv hv S0 e F S hs=>by
 obtain⟨x,h1,h2⟩:=Aw hv;cases h2;obtain⟨d,S',h3,h4,rfl⟩:=ha x h1 S0 e F S hs;have wI:=CU _ _▸hk;exact⟨_,S',Dc h3 rfl (mG (of_decide_eq_true wI.1) (of_decide_eq_true wI.2)),h4,rfl⟩
theorem fL(ha:VE A a (rV D.int) pa):VE A (iJ a) (rV D.int) (pa.bind λx=>some (-x)):=λv hv S0 e F S hs=>by
 obtain⟨x,h1,h2⟩:=Aw hv;cases h2;obtain⟨d,S',h3,h4,rfl⟩:=ha x h1 S0 e F S hs;exact⟨_,S',by unfold iJ;rw[h3];rfl,h4,rfl⟩
theorem n8(ha:VE A a (rV D.int) pa)(hb:VE A b (rV D.int) pb):VE A (m2 ltD a b) (rV D.bl) (pa.bind λx=>pb.bind λy=>some (decide (x < y))):=HJ ha hb λx y z S h=>by cases h;rfl
theorem tw(ha:VE A a (rV D.int) pa)(hb:VE A b (rV D.int) pb):VE A (m2 leD a b) (rV D.bl) (pa.bind λx=>pb.bind λy=>some (decide (x<=y))):=HJ ha hb λx y z S h=>by cases h;rfl
theorem n9(ha:VE A a (rV D.int) pa)(hb:VE A b (rV D.int) pb):VE A (m2 gtD a b) (rV D.bl) (pa.bind λx=>pb.bind λy=>some (decide (y < x))):=HJ ha hb λx y z S h=>by cases h;rfl
theorem X1{f g:D->D->Sto->Res D}{P Q:Int->Int->Bool}(hf:∀x y S,f (.int x) (.int y) S=.ok (.bl (P x y)) S)(hg:∀x y S,g (.int x) (.int y) S=.ok (.bl (Q x y)) S)(ha:VE A a (rV D.int) pa)(hb:VE A b (rV D.int) pb)(hc:VE A c (rV D.int) pc) :
  VE A (m3 f g a b c) (rV D.bl) (pa.bind λx=>pb.bind λy=>if P x y=true then pc.bind λz=>some (Q y z)else some false):=λv hv S0 e F S hs=>by
 obtain⟨x,h1,hv⟩:=Aw hv;obtain⟨y,h2,h3⟩:=Aw hv;obtain⟨d1,S1,q1,k1,rfl⟩:=ha x h1 S0 e F S hs;obtain⟨d2,S2,q2,k2,rfl⟩:=hb y h2 S0 e _ S1 (hs.grow k1);have e1:=hf x y S2
 cases hp:P x y with
 | false=>
  rw[hp]at h3 e1;cases h3;exact⟨_,S2,uu q1 q2 e1,k1.trans k2,rfl⟩
 | true=>
  rw[hp]at h3 e1;rw[qX rfl]at h3;obtain⟨w,h4,h5⟩:=Aw h3;cases h5;obtain⟨d3,S3,q3,k3,rfl⟩:=hc w h4 S0 e _ S2 ((hs.grow k1).grow k2);exact⟨_,S3,oR q1 q2 e1 q3 (hg y w S3),(k1.trans k2).trans k3,rfl⟩
theorem vS(x y:Int)(S:Sto):ltD (.int x) (.int y) S=.ok (.bl (decide (x < y))) S:=rfl
theorem jL(x y:Int)(S:Sto):leD (.int x) (.int y) S=.ok (.bl (decide (x<=y))) S:=rfl
theorem pP{pb}(hb:VE A b (rV D.bl) pb):VE A (mN b) (rV D.int) (pb.bind λx=>some (if x=true then 1 else 0)):=λv hv S0 e F S hs=>by
 obtain⟨x,h1,h2⟩:=Aw hv;cases h2;obtain⟨d,S',h3,h4,rfl⟩:=hb x h1 S0 e F S hs;refine⟨_,S',?_,h4,rfl⟩;unfold mN;rw[h3];rfl
end
def EqN(n:Nat)(enc:α->D)[DecidableEq α]:Prop:=∀x y,eqP n (enc x) (enc y)=some (decide (x=y))
def NL(enc:α->D):Prop:=∀x S,UE (enc x) S=none
theorem E8:EqN n D.int:=λx y=>by
 have:Mn (.int x) (.int y)=some (decide (x=y)):=rfl
 cases n <;> exact this
theorem i8:EqN n D.bl:=λx y=>by
 have:Mn (.bl x) (.bl y)=some (decide (x=y)):=by cases x <;> cases y <;> rfl
 cases n <;> exact this
theorem bv:EqN n D.str:=λx y=>by
 have:Mn (.str x) (.str y)=some (decide (x=y)):=rfl
 cases n <;> exact this
theorem XN{n:Nat}{enc:α->D}[DecidableEq α](h:EqN n enc):EqN (n+1) (eT enc):=by
 have key:∀l k:List α,eqL (eqP n) (l.map enc) (k.map enc)=some (decide (l=k)):=by
  intro l
  induction l with
  | nil=>intro k;cases k <;> rfl
  | cons x l ih=>
   intro k
   cases k with
   | nil=>rfl
   | cons y k=>
    rw[BC,BC];unfold eqL;rw[h x y,ih k]
    by_cases c:x=y <;> by_cases d:l=k <;> simp[c,d]
 exact λl k=>key l k
theorem Nk:NL D.int:=λ_ _=>rfl
theorem oM:NL D.bl:=λ_ _=>rfl
theorem iA:NL D.str:=λ_ _=>rfl
section
variable{a b:ME}{enc:α->D}[DecidableEq α]
theorem i9(h:EqN 8 enc)(n:NL enc)(neg:Bool)(x y:α)(S:Sto):eqD neg (enc x) (enc y) S=.ok (.bl (if neg then !decide (x=y)else decide (x=y))) S:=by
 unfold eqD eqB;rw[n x S,n y S];dsimp only;rw[h x y]
theorem Oh(h:EqN 8 enc)(n:NL enc)(ha:VE A a (rV enc) pa)(hb:VE A b (rV enc) pb):VE A (m2 (eqD false) a b) (rV D.bl) (pa.bind λx=>pb.bind λy=>some (decide (x=y))):=HJ ha hb λx y z S q=>by cases q;exact i9 h n false x y S
theorem nz(h:EqN 8 enc)(n:NL enc)(ha:VE A a (rV enc) pa)(hb:VE A b (rV enc) pb):VE A (m2 (eqD true) a b) (rV D.bl) (pa.bind λx=>pb.bind λy=>some (!decide (x=y))):=HJ ha hb λx y z S q=>by cases q;exact i9 h n true x y S
theorem Yx(h:EqN 8 enc)(x:α):∀l:List α,Op (enc x) (l.map enc)=some (decide (x∈l))
 | []=>by simp[Op]
 | y :: l=>by
  rw[BC];unfold Op;rw[h y x,Yx h x l]
  by_cases c:y=x
  ·subst c;simp
  ·have:¬x=y:=λz=>c z.symm
   simp[c,this]
theorem XC(h:EqN 8 enc)(neg:Bool)(x:α){l:List α}{d:D}{S:Sto}(hs:HG d S=some (l.map enc)):inA neg (enc x) d S=.ok (.bl (if neg then !decide (x∈l)else decide (x∈l))) S:=by
 show Ky (inD neg (enc x) d S) _=_
 have e:inD neg (enc x) d S=.ok (.bl (if neg then !decide (x∈l)else decide (x∈l))) S:=by
  unfold inD;rw[hs];dsimp only;rw[Yx h]
 rw[e];rfl
theorem pQ{pl:Option (List α)}(h:EqN 8 enc)(ha:VE A a (rV enc) pa)(hb:VE A b (rV (eT enc)) pl):VE A (m2 (inA false) a b) (rV D.bl) (pa.bind λx=>pl.bind λl=>some (decide (x∈l))):=HJ ha hb λx l z S q=>by cases q;exact XC h false x rfl
theorem WX{pl:Option (List α)}(h:EqN 8 enc)(ha:VE A a (rV enc) pa)(hb:VE A b (rV (eT enc)) pl):VE A (m2 (inA true) a b) (rV D.bl) (pa.bind λx=>pl.bind λl=>some (!decide (x∈l))):=HJ ha hb λx l z S q=>by cases q;exact XC h true x rfl
theorem sD(h:EqN n enc):∀l k:List α,eqL (eqP n) (l.map enc) (k.map enc)=some (decide (l=k)):=by
 intro l
 induction l with
 | nil=>intro k;cases k <;> rfl
 | cons x l ih=>
  intro k
  cases k with
  | nil=>rfl
  | cons y k=>
   rw[BC,BC];unfold eqL;rw[h x y,ih k]
   by_cases c:x=y <;> by_cases d:l=k <;> simp[c,d]
theorem dm(h:EqN 8 enc)(neg:Bool)(hn:S[n]?=some (oL enc l))(hm:S[m]?=some (oL enc k)):eqD neg (.ref n) (.ref m) S=.ok (.bl (if neg then !decide (l=k)else decide (l=k))) S:=by
 unfold eqD eqB;rw[P1 hn,P1 hm];dsimp only;rw[AF,AF]
 by_cases c:l.length=k.length
 ·rw[qX c,sD h]
 ·rw[qY c,wY λz=>c (by rw[z])]
theorem tz{f:D->D->Sto->Res D}{oa:β->Ob}{ob:γ->Ob}{ec:δ->D}{pa:Option β}{pb:Option γ}{g:β->γ->Option δ}(ha:VE A a (rO oa) pa)(hb:VE A b (rO ob) pb)
  (hf:∀x y z S (n m:Nat),S[n]?=some (oa x)->S[m]?=some (ob y)->g x y=some z->f (.ref n) (.ref m) S=.ok (ec z) S):VE A (m2 f a b) (rV ec) (pa.bind λx=>pb.bind λy=>g x y):=λv hv S0 e F S hs=>by
 obtain⟨x,h1,hv⟩:=Aw hv;obtain⟨y,h2,h3⟩:=Aw hv;obtain⟨d1,S1,q1,k1,n,rfl,hn⟩:=ha x h1 S0 e F S hs;obtain⟨d2,S2,q2,k2,m,rfl,hm⟩:=hb y h2 S0 e _ S1 (hs.grow k1);exact⟨_,S2,Dc q1 q2 (hf x y v S2 n m (k2.at hn) hm h3),k1.trans k2,rfl⟩
theorem pS{pa pb:Option (List α)}(h:EqN 8 enc)(ha:VE A a (rO (oL enc)) pa)(hb:VE A b (rO (oL enc)) pb):VE A (m2 (eqD false) a b) (rV D.bl) (pa.bind λx=>pb.bind λy=>some (decide (x=y))):=tz ha hb λx y z S n m hn hm q=>by cases q;exact dm h false hn hm
end
section
variable{a b m mo:ME}
theorem nN(l:List α)(i:Int)(f:α->β):atI (l.map f) i=(atI l i).map f:=by
 unfold atI;rw[AF]
 cases ixN l.length i with
 | none=>rfl
 | some j=>show(l.map f)[j]?=(l[j]?).map f;rw[AZ]
theorem Z7(hs:HG d S=some (l.map enc))(h:atI l i=some x):ixA d (.int i) S=.ok (enc x) S:=by
 show Ky (ixD d (.int i) S) _=_
 have:ixD d (.int i) S=.ok (enc x) S:=by
  unfold ixD;rw[hs];dsimp only;rw[nN,h];rfl
 rw[this];rfl
theorem fN(ha:VE A a (rV (eT enc)) pl)(hb:VE A b (rV D.int) pi):VE A (m2 ixA a b) (rV enc) (pl.bind λl=>pi.bind λi=>atI l i):=HJ ha hb λl i z S q=>Z7 rfl q
theorem pN{pl}(ha:VE A a (rV eF) pl)(hb:VE A b (rV D.int) pi):VE A (m2 ixA a b) (rV D.int) (pl.bind λl=>pi.bind λi=>atI l i):=HJ ha hb λl i z S q=>Z7 rfl q
theorem HK(ha:VE A a (rO (oL enc)) pl)(hb:VE A b (rV D.int) pi):VE A (m2 ixA a b) (rV enc) (pl.bind λl=>pi.bind λi=>atI l i):=Wb ha hb λl i z S n hn q=>Z7 (Fm hn) q
theorem kK{pl}(ha:VE A a (rV eF) pl):VE A (Qv a) (rV D.int) (pl.bind λl=>some (l.length:Int)):=λv hv S0 e F S hs=>by
 obtain⟨l,h1,h2⟩:=Aw hv;cases h2;obtain⟨d,S',h3,h4,rfl⟩:=ha l h1 S0 e F S hs;exact⟨_,S',(iN (ds:=l.map D.int) h3 rfl).trans (by rw[AF]),h4,rfl⟩
theorem Pi(ha:VE A a (rO (oL enc)) pl):VE A (Qv a) (rV D.int) (pl.bind λl=>some (l.length:Int)):=λv hv S0 e F S hs=>by
 obtain⟨l,h1,h2⟩:=Aw hv;cases h2;obtain⟨d,S',h3,h4,n,rfl,hn⟩:=ha l h1 S0 e F S hs;exact⟨_,S',(iN (ds:=l.map enc) h3 (Fm hn)).trans (by rw[AF]),h4,rfl⟩
theorem Nq:∀ns:List Int,JL (ns.map D.int)=some ns
 | []=>rfl
 | x :: ns=>by rw[BC];unfold JL;rw[Nq ns];rfl
theorem IH(ha:VE A a (rO (oL enc)) pl):VE A (Gf a) (rV (eT enc)) pl:=λl hv S0 e F S hs=>by
 obtain⟨d,S',h3,h4,n,rfl,hn⟩:=ha l hv S0 e F S hs;exact⟨_,S',Pm h3 (Fm hn),h4,rfl⟩
theorem au(ha:VE A a (rO (oL enc)) pl):VL A (Rz a) enc pl:=λl hv S0 e F S hs=>by
 obtain⟨d,S',h3,h4,n,rfl,hn⟩:=ha l hv S0 e F S hs;exact⟨S',oE h3 (Fm hn),h4⟩
theorem b9:∀l:List Bool,aN (l.map D.bl)=some l
 | []=>rfl
 | x :: l=>by rw[BC];unfold aN;rw[b9 l];rfl
theorem fS{pl}(h:VL A ml D.bl pl):VE A (mQ jW ml) (rV D.bl) (pl.bind λl=>some (l.all id)):=λv hv S0 e F S hs=>by
 obtain⟨l,h1,h2⟩:=Aw hv;cases h2;obtain⟨S',h3,h4⟩:=h l h1 S0 e F S hs;refine⟨_,S',lC h3 ?_,h4,rfl⟩;unfold jW nH;rw[b9]
theorem JA:VL A BL enc (some []):=λv hv S0 e F S hs=>by cases hv;exact⟨S,rfl,Keeps.refl S⟩
theorem SF(h:VE A m (rV enc) p)(hl:VL A ml enc pl):VL A (AN m ml) enc (p.bind λx=>pl.bind λl=>some (x :: l)):=λv hv S0 e F S hs=>by
 obtain⟨x,h1,h2⟩:=Aw hv;obtain⟨l,zF,h3⟩:=Aw h2;cases h3;obtain⟨d,S1,h4,h5,rfl⟩:=h x h1 S0 e F S hs;obtain⟨S2,h6,h7⟩:=hl l zF S0 e _ S1 (hs.grow h5);exact⟨S2,Cq h4 h6,h5.trans h7⟩
def Mc(l:List α):Option (List α):=if l.length<=1000000 then some l else none
theorem Ij(h:VL A ml enc pl):VL A (Ha ml) enc (pl.bind Mc):=λv hv S0 e F S hs=>by
 obtain⟨l,h1,h2⟩:=Aw hv;unfold Mc at h2;split at h2
 ·rename_i hl
  cases h2;obtain⟨S',h3,h4⟩:=h _ h1 S0 e F S hs;refine⟨S',?_,h4⟩;unfold Ha;rw[h3];dsimp only[Res.bind];rw[qX (by rw[AF];exact q9 hl)]
 ·cases h2
theorem WV(h:VL A ml enc pl):VE A (Jx ml) (rV (eT enc)) (pl.bind Mc):=λv hv S0 e F S hs=>by
 obtain⟨l,h1,h2⟩:=Aw hv;unfold Mc at h2;split at h2
 ·rename_i hl
  cases h2;obtain⟨S',h3,h4⟩:=h _ h1 S0 e F S hs;refine⟨_,S',?_,h4,rfl⟩;unfold Jx;rw[h3];dsimp only[Res.bind];rw[qX (by rw[AF];exact q9 hl)];rfl
 ·cases h2
theorem SG(ha:VE A a (rV a') pa)(hb:VE A b (rV b') pb):VE A (Jx (AN a (AN b BL))) (rV (eP a' b')) (pa.bind λx=>pb.bind λy=>some (x,y)):=λv hv S0 e F S hs=>by
 obtain⟨x,h1,hv⟩:=Aw hv;obtain⟨y,h2,h3⟩:=Aw hv;cases h3;obtain⟨d1,S1,q1,k1,rfl⟩:=ha x h1 S0 e F S hs;obtain⟨d2,S2,q2,k2,rfl⟩:=hb y h2 S0 e _ S1 (hs.grow k1);exact⟨_,S2,TN (ds:=[a' x,b' y]) (Cq q1 (Cq q2 rfl)) (by simp),k1.trans k2,rfl⟩
theorem Wa(ha:VE A a (rV (eT enc)) pl)(hb:VE A b (rV (eT enc)) pk):VE A (m2 Ja a b) (rV (eT enc)) (pl.bind λl=>pk.bind λk=>dk l k):=HJ ha hb λl k z S q=>by
 unfold dk at q;split at q
 ·rename_i hl
  cases q;unfold eT;rw[CS];exact kb (by rw[AF,AF];exact q9 hl)
 ·cases q
def VO(A:List Sl)(mo:MO)(p:Option (Option Int)):Prop:=∀v,p=some v->∀S0 e F S,Vs S0 A e F S->∃S',mo e S=.ok v S'/\Keeps S S'
theorem aq:VO A bM (some none):=λv hv S0 e F S hs=>by cases hv;exact⟨S,rfl,Keeps.refl S⟩
theorem SE(h:VE A m (rV D.int) pi):VO A (Tw m) (pi.bind λi=>some (some i)):=λv hv S0 e F S hs=>by
 obtain⟨x,h1,h2⟩:=Aw hv;cases h2;obtain⟨d,S',h3,h4,rfl⟩:=h x h1 S0 e F S hs;exact⟨S',by unfold Tw;rw[h3];rfl,h4⟩
theorem UW(l:List α)(f:α->β)(lo hi:Option Int):Ip (l.map f) lo hi=(Ip l lo hi).map f:=by
 unfold Ip;rw[AF,<-o0,<-oz]
theorem kO(ha:VE A a (rV (eT enc)) pl)(hl:VO A mlo po)(hh:VO A mhi ph):VE A (SN a mlo mhi) (rV (eT enc)) (pl.bind λl=>po.bind λx=>ph.bind λy=>some (Ip l x y)):=λv hv S0 e F S hs=>by
 obtain⟨l,h1,hv⟩:=Aw hv;obtain⟨x,h2,hv⟩:=Aw hv;obtain⟨y,h3,h4⟩:=Aw hv;cases h4;obtain⟨d1,S1,q1,k1,rfl⟩:=ha l h1 S0 e F S hs;obtain⟨S2,q2,k2⟩:=hl x h2 S0 e _ S1 (hs.grow k1);obtain⟨S3,q3,k3⟩:=hh y h3 S0 e _ S2 ((hs.grow k1).grow k2);refine⟨_,S3,?_,(k1.trans k2).trans k3,rfl⟩;unfold SN;rw[q1];dsimp only[Res.bind];rw[q2];dsimp only;rw[q3];show Res.ok (D.tup (Ip (l.map enc) x y)) S3=_;rw[UW];rfl
theorem kP(ha:VE A a (rO (oL enc)) pl)(hl:VO A mlo po)(hh:VO A mhi ph):VE A (O8 a mlo mhi) (rN (oL enc)) (pl.bind λl=>po.bind λx=>ph.bind λy=>some (Ip l x y)):=λv hv S0 e F S hs=>by
 obtain⟨l,h1,hv⟩:=Aw hv;obtain⟨x,h2,hv⟩:=Aw hv;obtain⟨y,h3,h4⟩:=Aw hv;cases h4;obtain⟨d1,S1,q1,k1,n,rfl,hn⟩:=ha l h1 S0 e F S hs;obtain⟨S2,q2,k2⟩:=hl x h2 S0 e _ S1 (hs.grow k1);obtain⟨S3,q3,k3⟩:=hh y h3 S0 e _ S2 ((hs.grow k1).grow k2);refine⟨.ref S3.length,S3++[oL enc (Ip l x y)],?_,((k1.trans k2).trans k3).trans (Keeps.app _ _),_,rfl,((k1.trans k2).trans k3).1,FQ _ _⟩;unfold O8;rw[q1];dsimp only[Res.bind];rw[q2];dsimp only;rw[q3];dsimp only;unfold Wo;dsimp only;rw[P1 ((k2.trans k3).at hn)];show Res.ok _ (S3++[Ob.lst (Ip (l.map enc) x y)])=_;rw[UW];rfl
def QA{α β:Type}(l:List α)(v:β):Option β:=if l.length < 64 then some v else none
theorem P9{α β:Type}{l:List α}{v:β}(h:l.length < 64):QA l v=some v:=qX h
theorem UP{α β:Type}{l:List α}{v u:β}(h:QA l v=some u):l.length < 64/\v=u:=by
 unfold QA at h;split at h
 ·cases h
  exact⟨by assumption,rfl⟩
 ·cases h
theorem Lx(ha:VE A a (rV (eT enc)) pl):VI A (D0 a) enc pl:=λl hv S0 e F S hs=>by
 obtain⟨d,S',h3,h4,rfl⟩:=ha l hv S0 e F S hs;exact⟨_,S',UL (xs:=l.map enc) h3,h4,λ_ _ _ _=>rfl⟩
theorem Ks(ha:VE A a (rN (oL enc)) pl):VI A (D0 a) enc pl:=λl hv S0 e F S hs=>by
 obtain⟨d,S',h3,h4,n,rfl,h5,h6⟩:=ha l hv S0 e F S hs;exact⟨_,S',Lb h3 h6,h4,λF2 S2 hF h=>Da (h n _ (hF _ _ (N2 h5 h6)))⟩
theorem fG(h:A[i]?=some (.z (oL enc l))):VI A (D0 (AE i)) enc (some l):=λ_ hv S0 e F S hs=>by
 cases hv;obtain⟨x,h1,n,rfl,h2⟩:=hs.sl i _ h;have hn:=hs.fz _ _ h2;exact⟨_,S,Lb (n:=n) (by unfold AE;rw[h1]) hn,Keeps.refl S,λF2 S2 hF h=>Da (h n _ (hF _ _ (by rw[GC (BW hn)];exact h2)))⟩
theorem av(h:A[i]?=some (.y (oL enc l))):VI A (D0 (AE i)) enc (some l):=λ_ hv S0 e F S hs=>by
 cases hv;obtain⟨x,h1,n,rfl,h2,_⟩:=hs.sl i _ h;have hn:=hs.fz _ _ h2;exact⟨_,S,Lb (n:=n) (by unfold AE;rw[h1]) hn,Keeps.refl S,λF2 S2 hF h=>Da (h n _ (hF _ _ (by rw[GC (BW hn)];exact h2)))⟩
def DF(lo:Int)(n:Nat):List Int:=(DD n).map λi:Nat=>lo+i
def Ql(j:Int):Option (List Int):=if -1000000<=j/\j<=1000000 then some (DF 0 j.toNat)else none
def YL(i j:Int):Option (List Int):=if -1000000<=i/\i<=1000000/\-1000000<=j/\j<=1000000 then some (DF i (j - i).toNat)else none
theorem gW(lo:Int)(n:Nat):Ju lo n=(DF lo n).map D.int:=by
 unfold Ju DF;rw[BF];rfl
theorem GP(ha:VE A a (rV D.int) pi):VI A (iR1 (AN a BL)) D.int (pi.bind Ql):=λl hv S0 e F S hs=>by
 obtain⟨j,h1,h2⟩:=Aw hv;obtain⟨d,S',h3,h4,rfl⟩:=ha j h1 S0 e F S hs;unfold Ql at h2;split at h2
 ·rename_i hj
  cases h2;exact⟨_,S',iY (j:=j) (Cq h3 rfl) hj.1 hj.2,h4,λ_ _ _ _=>congrArg some (gW _ _)⟩
 ·cases h2
theorem LR(ha:VE A a (rV D.int) pi)(hb:VE A b (rV D.int) pj):VI A (iR2 (AN a (AN b BL))) D.int (pi.bind λi=>pj.bind λj=>YL i j):=λl hv S0 e F S hs=>by
 obtain⟨i,h1,hv⟩:=Aw hv;obtain⟨j,h0,h2⟩:=Aw hv;obtain⟨d,S1,h3,h4,rfl⟩:=ha i h1 S0 e F S hs;obtain⟨d,S2,h5,h6,rfl⟩:=hb j h0 S0 e _ S1 (hs.grow h4);unfold YL at h2;split at h2
 ·rename_i hj
  cases h2;exact⟨_,S2,rR (i:=i) (j:=j) (Cq h3 (Cq h5 rfl)) hj.1 hj.2.1 hj.2.2.1 hj.2.2.2,h4.trans h6,λ_ _ _ _=>congrArg some (gW _ _)⟩
 ·cases h2
def DG(l:List α):List (Int×α):=l.zipIdx.map λx=>((x.2:Int),x.1)
theorem RA(l:List α):UU (l.map enc)=(DG l).map (eP D.int enc):=by
 unfold UU DG;rw[ju,BF,BF];rfl
def NN(enc:α->D):Prop:=∀x S neg,Q0 neg (enc x) .non S=.ok (.bl neg) S
theorem qt:NN D.int:=λ_ _ _=>rfl
theorem pO(hn:NN enc)(ha:VE A a (rV (eO enc)) p):VE A (m2 (Q0 false) a (mC .non)) (rV D.bl) (p.bind λo=>some o.isNone):=λv hv S0 e F S hs=>by
 obtain⟨x,h1,h2⟩:=Aw hv;cases h2;obtain⟨d,S',h3,h4,rfl⟩:=ha x h1 S0 e F S hs;refine⟨_,S',Dc h3 rfl ?_,h4,rfl⟩
 cases x with
 | none=>rfl
 | some y=>exact hn y S' false
theorem WW(ha:VE A a (rV enc) p):VE A a (rV (eO enc)) (p.bind λo=>some (some o)):=λv hv S0 e F S hs=>by
 obtain⟨x,h1,h2⟩:=Aw hv;cases h2;exact ha _ h1 S0 e F S hs
theorem kI:VE A (mC .non) (rV (eO enc)) (some none):=Ck rfl
end
end
section
variable{α β ρ σ κ κ':Type}
def oDK(enc:α->D)(l:List (Int×α)):Ob:=.dK (l.map λx=>(D2 x.1,enc x.2))
theorem TC[DecidableEq κ][DecidableEq κ']{kk:κ->κ'}(hk:∀x y,kk x=kk y->x=y)(f:α->β)(l:List (κ×α))(k:κ):Aj (l.map λx=>(kk x.1,f x.2)) (kk k)=(Aj l k).map f:=by
 unfold Aj
 induction l with
 | nil=>rfl
 | cons x l ih=>
  rw[BC,CT,CT]
  by_cases c:x.1=k
  ·rw[wX c,wX (show kk x.1=kk k by rw[c])]
   rfl
  ·rw[wY c,wY λz=>c (hk _ _ z)]
   exact ih
theorem Tn[DecidableEq κ][DecidableEq κ']{kk:κ->κ'}(hk:∀x y,kk x=kk y->x=y)(f:α->β)(l:List (κ×α))(k:κ)(v:α):CJ (l.map λx=>(kk x.1,f x.2)) (kk k) (f v)=(CJ l k v).map λx=>(kk x.1,f x.2):=by
 have any:((l.map λx=>(kk x.1,f x.2)).any λkv=>decide (kv.1=kk k))=l.any λkv=>decide (kv.1=k):=by
  rw[List.any_map]
  congr 1
  funext x
  exact decide_eq_decide.mpr ⟨hk _ _,λz=>congrArg kk z⟩
 unfold CJ;rw[any];split
 ·rw[BF,BF]
  refine DS λx _=>?_
  show(if kk x.1=kk k then(kk x.1,f v)else(kk x.1,f x.2))=_
  by_cases c:x.1=k
  ·show _=(λx:κ×α=>(kk x.1,f x.2)) (if x.1=k then(x.1,v)else x)
   rw[qX c,qX (show kk x.1=kk k by rw[c])]
  ·show _=(λx:κ×α=>(kk x.1,f x.2)) (if x.1=k then(x.1,v)else x)
   rw[qY c,qY λz=>c (hk _ _ z)]
 ·rw[CS]
  rfl
theorem SR(x y:Int)(h:(D2 x:Key)=D2 y):x=y:=by cases h;rfl
theorem b4{enc:α->D}{l:List (Int×α)}{n:Nat}{S:Sto}(h:S[n]?=some (oDK enc l))(k:Int):Oa (.ref n) (.int k) S=some ((Aj l k).map enc):=by
 unfold Oa;dsimp only;rw[h];show some (Aj _ (D2 k))=_;rw[TC SR]
theorem aG(hq:HG (.ref n) S=none)(h:Oa (.ref n) y S=some o)(neg:Bool):inA neg y (.ref n) S=.ok (.bl (if neg then !o.isSome else o.isSome)) S:=by
 show Ky (inD neg y (.ref n) S) (OZ neg y (.ref n) S)=_;rw[show inD neg y (.ref n) S=.bad by unfold inD;rw[hq]];show OZ neg y (.ref n) S=_;unfold OZ;rw[h]
theorem RB(hq:HG (.ref n) S=none)(h:Oa (.ref n) y S=some (some d)):ixA (.ref n) y S=.ok d S:=by
 show Ky (ixD (.ref n) y S) (UV (.ref n) y S)=_;rw[show ixD (.ref n) y S=.bad by unfold ixD;rw[hq]];show UV (.ref n) y S=_;unfold UV;rw[h]
theorem kx(h:S[n]?=some (oDK enc l)):HG (.ref n) S=none:=by unfold HG;dsimp only;rw[h];rfl
section
theorem S7:VE A JF (rN (oDK enc)) (some []):=λv hv S0 e F S hs=>by cases hv;exact⟨_,_,rfl,Keeps.app _ _,_,rfl,AO _,FQ _ _⟩
theorem S6{pk}{pl}(ha:VE A a (rV D.int) pk)(hb:VE A b (rO (oDK enc)) pl):VE A (m2 (inA true) a b) (rV D.bl) (pk.bind λx=>pl.bind λl=>some (!(Aj l x).isSome)):=ZR ha hb λx l z S n hn q=>by cases q;rw[aG (kx hn) (b4 hn x)];simp
theorem fP(ha:VE A a (rO (oDK enc)) pl)(hb:VE A b (rV D.int) pk):VE A (m2 ixA a b) (rV enc) (pl.bind λl=>pk.bind λx=>Aj l x):=Wb ha hb λl x z S n hn q=>RB (kx hn) (by rw[b4 hn x,q];rfl)
def KN[DecidableEq κ](l:List (κ×α))(k:κ)(v:α):Option (List (κ×α)):=if l.length < 1000000 then some (CJ l k v)else none
theorem kC{ek:κ->D}[DecidableEq κ]{ob:List (κ×α)->Ob}{R:Rk ρ}{p:Option α}{pk:Option κ}{i:Nat}{l:List (κ×α)}
  (xT:∀(l:List (κ×α)) (k:κ) (v:α) (S:Sto) (n:Nat),S[n]?=some (ob l)->l.length < 1000000->R7 (.ref n) (ek k) (enc v) S=some (S.set n (ob (CJ l k v))))
  (hi:A[i]?=some (.w i (ob l))) (hk:VE A b (rV ek) pk) (h:VE A m (rV enc) p) (ht:((A.set i .u).all (Sl.oth i))=true) :
  VS A (DE (AE i) b m) R (p.bind λv=>pk.bind λk=>(KN l k v).bind λl'=>some (.nx l')) (λl'=>A.set i (.w i (ob l'))):=λf hf S0 e F S hs=>by
 obtain⟨v,h1,h2⟩:=Aw hf;obtain⟨k,zF,h3⟩:=Aw h2;obtain⟨l',h4,h0⟩:=Aw h3;cases h0;unfold KN at h4;split at h4
 ·rename_i hl
  cases h4;obtain⟨x,g1,n,rfl,g2,g3⟩:=hs.sl i _ hi;obtain⟨d,S1,h5,h6,rfl⟩:=h v h1 S0 e F S hs;obtain⟨d,S2,h7,h8,rfl⟩:=hk k zF S0 e _ S1 (hs.grow h6);have hg:=(hs.grow h6).grow h8;have hn:=(h6.trans h8).at g3
  have hx:DE (AE i) b m e S=.ok (.nx e) (S2.set n (ob (CJ l k v))):=by
   unfold DE;rw[h5];dsimp only[Res.lift];rw[show AE i e S1=.ok (.ref n) S1 by unfold AE;rw[g1]];dsimp only;rw[h7];dsimp only;rw[xT l k v S2 n hn hl]
  have hF:Q7 (Q7 F S S1) S1 S2 n=.ow i:=by rw[GC (BW (h6.at g3)),GC (BW g3)];exact g2
  exact⟨_,_,hx,e,_,rfl,hg.put ht hi g1 hF,(hs.fle S1).trans ((hs.grow h6).fle S2)⟩
 ·cases h4
theorem Pe{R:Rk ρ}{p:Option α}{pk:Option Int}{i:Nat}{l:List (Int×α)}(hi:A[i]?=some (.w i (oDK enc l)))(hk:VE A b (rV D.int) pk)(h:VE A m (rV enc) p)(ht:((A.set i .u).all (Sl.oth i))=true) :
  VS A (DE (AE i) b m) R (p.bind λv=>pk.bind λk=>(KN l k v).bind λl'=>some (.nx l')) (λl'=>A.set i (.w i (oDK enc l'))):=
 kC (λl k v S n hn hl=>by
  unfold R7;dsimp only;rw[hn];show(if (l.map _).length < sizeLine then some (S.set n (.dK (CJ (l.map λx=>(D2 x.1,enc x.2)) (D2 k) (enc v))))else none)=_;rw[qX (by rw[AF];exact Z3 hl),Tn SR]
  rfl) hi hk h ht
theorem kX(h:VE A m (rV (eT enc)) pl):VB A (E5 m) (pl.bind λl=>some (!l.isEmpty)):=λv hv S0 e F S hs=>by
 obtain⟨l,h1,h2⟩:=Aw hv;cases h2;obtain⟨d,S',h3,h4,rfl⟩:=h l h1 S0 e F S hs;refine⟨S',?_,h4⟩;unfold E5;rw[h3]
 cases l <;> rfl
theorem ay(h:VE A m (rO (oL enc)) pl):VB A (E5 m) (pl.bind λl=>some (!l.isEmpty)):=λv hv S0 e F S hs=>by
 obtain⟨l,h1,h2⟩:=Aw hv;cases h2;obtain⟨d,S',h3,h4,n,rfl,hn⟩:=h l h1 S0 e F S hs;refine⟨S',?_,h4⟩;unfold E5;rw[h3];dsimp only[Res.bind]
 have:RU (.ref n) S'=some (!l.isEmpty):=by
  unfold RU;dsimp only;rw[hn]
  cases l <;> rfl
 rw[this]
theorem WR{b:MS}{R:Rk ρ}{B:σ->List Sl}:VS A b R none B:=λf hf=>by cases hf
theorem WU(h:A[i]?=some (.y (oL enc l))):VI A (Jy (AE i)) (eP D.int enc) (some (DG l)):=λ_ hv S0 e F S hs=>by
 cases hv;obtain⟨x,h1,n,rfl,h2,_⟩:=hs.sl i _ h;have hn:=hs.fz _ _ h2;refine⟨Og (FT (.ref n)),S,?_,Keeps.refl S,λF2 S2 hF h=>?_⟩
 ·unfold Jy
  rw[show AE i e S=.ok (.ref n) S by unfold AE;rw[h1]];dsimp only[Res.bind];rw[Da hn]
 ·unfold Og
  rw[Da (h n _ (hF _ _ (by rw[GC (BW hn)];exact h2)))];exact congrArg some (RA l)
theorem pJ(ha:VE A a (rO (oL D.int)) pl):VE A (mM a) (rV D.int) (pl.bind λl=>some (Wl l)):=λv hv S0 e F S hs=>by
 obtain⟨l,h1,h2⟩:=Aw hv;cases h2;obtain⟨d,S',h3,h4,n,rfl,hn⟩:=ha l h1 S0 e F S hs;refine⟨_,S',?_,h4,rfl⟩;unfold mM;rw[h3];dsimp only[Res.bind];rw[P1 hn];dsimp only;rw[Nq]
end
end
section
variable{α ρ σ:Type}
theorem BQ:BH (some (.nx s)) q=q s:=rfl
theorem jQ:BH (some (.rt r)) q=some (.rt r):=rfl
theorem mL:Ew (ρ:=ρ) g (some (.nx s))=some (.nx (g s)):=rfl
theorem bI:FC (some (.rt r:Fw ρ σ))=some r:=rfl
theorem bH:gu (some (.nx s))=some ():=rfl
theorem mq{l:List α}{q:σ->α->Option (Fw ρ σ)}{s0:σ}(I:List α->σ->Prop)(h0:I [] s0)(h:∀pre x s,x∈l->pre++[x] <+: l->I pre s->∃s',q s x=some (.nx s')/\I (pre++[x]) s'):∃s,Eg l s0 q=some (.nx s)/\I l s:=by
 have key:∀(r pre:List α) (s:σ),l=pre++r->I pre s->∃s',Eg r s q=some (.nx s')/\I l s':=by
  intro r
  induction r with
  | nil=>intro pre s e hI;rw[Bq]at e;subst e;exact⟨s,rfl,hI⟩
  | cons x r ih=>
   intro pre s e hI;obtain⟨s',h1,h2⟩:=h pre x s (by rw[e];simp) ⟨r,by rw[e];simp⟩ hI;obtain⟨s2,h3,h4⟩:=ih (pre++[x]) s' (by rw[e];simp) h2;refine⟨s2,?_,h4⟩;unfold Eg;rw[h1];exact h3
 exact key l [] s0 rfl h0
theorem iy(I:List α->σ->Prop)(R:ρ->Prop)(h0:I [] s0)(h:∀pre x s,x∈l->pre++[x] <+: l->I pre s->(∃s',q s x=some (.nx s')/\I (pre++[x]) s')∨∃r,q s x=some (.rt r)/\R r):(∃s,Eg l s0 q=some (.nx s)/\I l s)∨∃r,Eg l s0 q=some (.rt r)/\R r:=by
 have key:∀(r pre:List α) (s:σ),l=pre++r->I pre s->(∃s',Eg r s q=some (.nx s')/\I l s')∨∃y,Eg r s q=some (.rt y)/\R y:=by
  intro r
  induction r with
  | nil=>intro pre s e hI;rw[Bq]at e;subst e;exact .inl ⟨s,rfl,hI⟩
  | cons x r ih=>
   intro pre s e hI
   rcases h pre x s (by rw[e];simp) ⟨r,by rw[e];simp⟩ hI with⟨s',h1,h2⟩ | ⟨y,h1,h2⟩
   ·have e':Eg (x :: r) s q=Eg r s' q:=by
     conv=>lhs;unfold Eg
     rw[h1]
    rw[e'];exact ih (pre++[x]) s' (by rw[e];simp) h2
   ·refine .inr ⟨y,?_,h2⟩
    unfold Eg;rw[h1]
 exact key l [] s0 rfl h0
theorem jJ(hc:∀x∈l,c x=some (P x))(hm:∀x∈l,P x=true->m x=some (f x)):UZ c m l=some ((l.filter P).map f):=by
 induction l with
 | nil=>rfl
 | cons x l ih=>
  have ih:=ih (λy hy=>hc y (AS _ hy)) λy hy=>hm y (AS _ hy)
  unfold UZ;rw[hc x AV];show(if P x=true then _ else _)=_
  cases hp:P x with
  | true=>
   rw[qX rfl,hm x AV hp,ih,Xu hp];rfl
  | false=>
   rw[qY AK,ih,Xv (by rw[hp];exact AK)]
theorem QC(hl:l.length<=1000000)(hc:∀x∈l,c x=some (P x))(hm:∀x∈l,P x=true->m x=some (f x)):Ep l c m=some ((l.filter P).map f):=by
 unfold Ep;rw[qX hl,jJ hc hm]
theorem EX(hl:l.length<=1000000)(hm:∀x∈l,m x=some (f x)):Ep l (λ_=>some true) m=some (l.map f):=by
 rw[QC (P:=λ_=>true) hl (λ_ _=>rfl) λx hx _=>hm x hx,List.filter_eq_self.mpr λ_ _=>rfl]
theorem PD(hl:l.length<=1000000)(hc:∀x∈l,c x=some (P x)):Ep l c (λx=>some x)=some (l.filter P):=by
 rw[QC (f:=λx=>x) hl hc λx hx _=>rfl,tE]
theorem SY(h:l.length < 1000000):Ue l x=some (l++[x]):=qX h
theorem bp(h:l.length+k.length<=1000000):dk l k=some (l++k):=qX h
theorem i4:Mc ([]:List α)=some []:=rfl
theorem vL(a:α):Mc [a]=some [a]:=qX (by simp)
theorem MF(h0:-1000000<=j)(h1:j<=1000000):Ql j=some (DF 0 j.toNat):=qX ⟨h0,h1⟩
theorem SK(h0:-1000000<=i)(h1:i<=1000000)(h2:-1000000<=j)(h3:j<=1000000):YL i j=some (DF i (j - i).toNat):=qX ⟨h0,h1,h2,h3⟩
theorem B9{lo:Int}{n:Nat}{x:Int}:x∈DF lo n↔lo<=x/\x < lo+n:=by
 unfold DF;rw[BD]
 constructor
 ·rintro⟨k,hk,rfl⟩
  have:=Oe.mp hk
  lia
 ·rintro⟨h1,h2⟩
  exact⟨(x - lo).toNat,Oe.mpr (by lia),by lia⟩
theorem Bo(lo:Int)(n:Nat):(DF lo n).length=n:=by unfold DF;rw[AF,ee]
theorem MD(lo:Int)(n:Nat):(DF lo n).Pairwise (· < ·):=by
 unfold DF;rw[Ca]
 exact List.pairwise_lt_range.imp λh=>by lia
theorem sS(h0:0<=i)(h1:i < l.length):∃x,atI l i=some x/\l[i.toNat]?=some x:=by
 have wo:i.toNat < l.length:=by lia
 exact⟨l[i.toNat],KB h0 (Af wo),Af wo⟩
theorem nM(h:atI l i=some x):x∈l:=by
 unfold atI at h;obtain⟨j,_,h2⟩:=Aw h;exact BB h2
theorem mI(h:0 < y):mJ x y=some (x % y):=qX h
theorem Ym(P:α->Bool)(l:List α)(x:α):(l++[x]).filter P=if P x=true then l.filter P++[x]else l.filter P:=by
 rw[List.filter_append]
 cases c:P x with
 | true=>rw[qX rfl,Xu c];rfl
 | false=>rw[qY AK,Xv (by rw[c];exact AK)];simp
theorem YK{lo:Int}{n:Nat}{pre:List Int}{x:Int}(h:pre++[x] <+: DF lo n):x=lo+pre.length/\pre.length < n:=by
 have hl:=h.length_le;rw[AY,Ai,Bo]at hl;obtain⟨r,hr⟩:=h;have:=congrArg (λz=>z[pre.length]?) hr;simp only[Dz,Be (AO _),tT]at this;rw[show([x]++r)[0]?=some x from rfl]at this;unfold DF at this;rw[AZ,DT (by lia)]at this;simp only[Option.map_some,Option.some.injEq]at this;exact⟨this,by lia⟩
theorem HZ[DecidableEq α]:∀{l k:List α},l.Nodup->(∀x∈l,x∈k)->l.length<=k.length
 | [],_,_,_=>ED _
 | x :: l,k,nd,h=>by
  have hx:=h x AV;obtain⟨n1,n2⟩:=Bh.mp nd
  have:=HZ (l:=l) (k:=k.erase x) n2 λy hy=>(List.mem_erase_of_ne (λz:y=x=>n1 (by rw[<-z];exact hy))).mpr (h y (AS _ hy))
  rw[Lh hx]at this;have:=List.length_pos_of_mem hx;rw[Av]
  lia
def Ok(p:Option α)(P:α->Prop):Prop:=∃v,p=some v/\P v
theorem Ok.pure(h:P v):Ok (some v) P:=⟨v,rfl,h⟩
theorem Ok.is(h:Ok p λr=>r=v):p=some v:=by
 obtain⟨_,h1,rfl⟩:=h;exact h1
theorem Ok.bind(h:Ok p P)(hq:∀v,P v->Ok (q v) Q):Ok (p.bind q) Q:=by
 obtain⟨v,rfl,h⟩:=h;exact hq v h
theorem Ok.imp(h:Ok p P)(i:∀v,P v->Q v):Ok p Q:=by
 obtain⟨v,rfl,h⟩:=h;exact⟨v,rfl,i v h⟩
def OkF(p:Option (Fw ρ σ))(N:σ->Prop)(R:ρ->Prop):Prop:=(∃s,p=some (.nx s)/\N s)∨∃r,p=some (.rt r)/\R r
theorem OkF.nx(h:N s):OkF (some (.nx s)) N R:=.inl ⟨s,rfl,h⟩
theorem OkF.rt(h:R r):OkF (some (.rt r)) N R:=.inr ⟨r,rfl,h⟩
theorem OkF.seq(h:OkF p N R)(hq:∀s,N s->OkF (q s) N' R):OkF (BH p q) N' R:=by
 rcases h with⟨s,rfl,h⟩ | ⟨r,rfl,h⟩
 ·exact hq s h
 ·exact .inr ⟨r,rfl,h⟩
theorem OkF.map(h:OkF p N R)(hg:∀s,N s->N' (g s)):OkF (Ew g p) N' R:=by
 rcases h with⟨s,rfl,h⟩ | ⟨r,rfl,h⟩
 ·exact .inl ⟨_,rfl,hg s h⟩
 ·exact .inr ⟨r,rfl,h⟩
theorem OkF.for(I:List α->σ->Prop)(h0:I [] s0)(h:∀pre x s,x∈l->pre++[x] <+: l->I pre s->OkF (q s x) (I (pre++[x])) R):OkF (Eg l s0 q) (I l) R:=iy I R h0 h
theorem OkF.out(h:OkF p (λ_=>False) R):Ok (FC p) R:=by
 rcases h with⟨s,rfl,h⟩ | ⟨r,rfl,h⟩
 ·exact h.elim
 ·exact⟨r,rfl,h⟩
theorem OkF.imp(h:OkF p N R)(hn:∀s,N s->N' s)(hr:∀r,R r->R' r):OkF p N' R':=by
 rcases h with⟨s,rfl,h⟩ | ⟨r,rfl,h⟩
 ·exact .inl ⟨s,rfl,hn s h⟩
 ·exact .inr ⟨r,rfl,hr r h⟩
theorem VF.law(h:VF f [.v (eF ns)] (rV D.bl) (some true)):∃S',f [.fro (ns.map D.int)] []=.ok (.bl true) S':=by
 obtain⟨d,S',h1,_,rfl⟩:=h true rfl [] [.fro (ns.map D.int)] ⟨rfl,trivial⟩;exact⟨S',h1⟩
end
section
def Ox(x y:Int):Option Int:=if jY x y then some (x * 2 ^ y.toNat)else none
def kr(x y:Int):Option Int:=if 0<=y then some (x / 2 ^ y.toNat)else none
theorem Ou(ha:VE A a (rV D.int) pa)(hb:VE A b (rV D.int) pb):VE A (m2 Qe a b) (rV D.int) (pa.bind λx=>pb.bind λy=>Ox x y):=HJ ha hb λx y z S h=>by
 unfold Ox at h;split at h
 ·rename_i hc;cases h;exact qX hc
 ·cases h
theorem pK(ha:VE A a (rV D.int) pa)(hb:VE A b (rV D.int) pb):VE A (m2 YA a b) (rV D.int) (pa.bind λx=>pb.bind λy=>kr x y):=HJ ha hb λx y z S h=>by
 unfold kr at h;split at h
 ·rename_i hc;cases h;exact qX hc
 ·cases h
theorem OJ(ha:VE A a (rV D.int) pa)(hb:VE A b (rV D.int) pb):VE A (m2 RH a b) (rV D.int) (pa.bind λx=>pb.bind λy=>some (BG x y)):=HJ ha hb λx y z S h=>by cases h;rfl
theorem kU(ha:VE A a (rV D.int) pa)(hb:VE A b (rV D.int) pb):VE A (m2 pC a b) (rV D.int) (pa.bind λx=>pb.bind λy=>some (CC x y)):=HJ ha hb λx y z S h=>by cases h;rfl
theorem Wc(h:VE A m (rV D.int) pa):VB A (E5 m) (pa.bind λx=>some (x != 0)):=λv hv S0 e F S hs=>by
 obtain⟨l,h1,h2⟩:=Aw hv;cases h2;obtain⟨d,S',h3,h4,rfl⟩:=h l h1 S0 e F S hs;refine⟨S',?_,h4⟩;unfold E5;rw[h3];rfl
end
section
variable{α:Type}
def N4(l:List α):List (Int×α):=l.zipIdx.map λx=>(((x.2+1:Nat):Int),x.1)
theorem aF(l:List α):Kk (l.map enc)=(N4 l).map (eP D.int enc):=by
 unfold Kk N4;rw[ju,BF,BF];rfl
theorem fH(ha:VE A a (rV (eT enc)) pl):VI A (SS a) (eP D.int enc) (pl.bind λl=>some (N4 l)):=λv hv S0 e F S hs=>by
 obtain⟨l,h1,h2⟩:=Aw hv;cases h2;obtain⟨d,S',h3,h4,rfl⟩:=ha l h1 S0 e F S hs;refine⟨Gu (Kk (l.map enc)),S',?_,h4,λF2 S2 hF h=>?_⟩
 ·unfold SS
  rw[h3];rfl
 ·show some (Kk (l.map enc))=_
  rw[aF]
theorem QW(ha:VE A a (rV (eT D.int)) pl):VE A (GX a) (rN (oL D.int)) (pl.bind λl=>QA l (CF l)):=λv hv S0 e F S hs=>by
 obtain⟨l,h1,h2⟩:=Aw hv;obtain⟨Ψ,rfl⟩:=UP h2;obtain⟨d,S',h3,h4,rfl⟩:=ha l h1 S0 e F S hs;refine⟨_,_,OL h3 (ds:=l.map D.int) rfl (es:=(CF l).map D.int) ?_,h4.trans (Keeps.app _ _),_,rfl,h4.1,FQ _ _⟩;unfold LV;rw[qX (by rw[AF];exact Ψ)];rw[Nq]
def Yc(x:List Int)(l:List (List Int)):Bool:=decide (x∈l)
theorem kM(ha:VE A a (rV (eT D.int)) pa)(hb:VE A b (rO (oL (eT D.int))) pl):VE A (m2 (inA false) a b) (rV D.bl) (pa.bind λx=>pl.bind λl=>some (Yc x l)):=ZR ha hb λx l z S n hn q=>by
 cases q;rw[XC (enc:=eT D.int) (XN E8) false x (Fm hn)];refine congrArg (λz=>Res.ok (D.bl z) S) ?_;rw[qY AK];unfold Yc;rw[NP];simp
end
section
variable{ρ σ:Type}
theorem Dr{n:Nat}{b:MS}{as:List Ar}{R:Rk ρ}{p:Option (Fw ρ σ)}{B:σ->List Sl}(h:VS (as.map Ar.sl++Bt (n - as.length) .u) b R p B):VF (Dq n b) as R (FC p):=λv hv S ds ha=>by
 cases p with
 | none=>cases hv
 | some x=>
  obtain⟨g,S',h1,h2⟩:=h _ rfl S _ _ S (Vs.start ha)
  cases x with
  | rt r=>cases hv;obtain⟨d,rfl,h2,h3⟩:=h2;exact⟨d,S',_root_.M.Nb h1,h3,h2⟩
  | nx s=>cases hv
  | bk s=>cases hv
  | ct s=>cases hv
theorem fI{n:Nat}{b:MS}{as:List Ar}{p:Option (Fw Unit σ)}{B:σ->List Sl}(h:VS (as.map Ar.sl++Bt (n - as.length) .u) b (rV eU) p B):VF (Dq n b) as (rV eU) (gu p):=λv hv S ds ha=>by
 cases p with
 | none=>cases hv
 | some x=>
  obtain⟨g,S',h1,h2⟩:=h _ rfl S _ _ S (Vs.start ha)
  cases x with
  | rt r=>obtain⟨d,rfl,h2,h3⟩:=h2;exact⟨d,S',_root_.M.Nb h1,h3,h2⟩
  | nx s=>obtain⟨e',F',rfl,h2,h3⟩:=h2;exact⟨.non,S',_root_.M.Zo h1,h2.kp,rfl⟩
  | bk s=>cases hv
  | ct s=>cases hv
end
section
variable{κ α:Type}[DecidableEq κ]
theorem Cc(l:List (κ×α))(k:κ)(v:α)(k':κ):Aj (CJ l k v) k'=if k'=k then some v else Aj l k':=by
 have key:∀l:List (κ×α),Aj (l.map λkv=>if kv.1=k then(kv.1,v)else kv) k'=if k'=k then(Aj l k').map (λ_=>v)else Aj l k':=by
  intro l
  induction l with
  | nil=>unfold Aj;simp
  | cons x l ih=>
   unfold Aj at ih ⊢;rw[BC,CT,CT]
   by_cases c:x.1=k
   ·rw[qX c]
    by_cases d:x.1=k'
    ·rw[wX d,qX (show k'=k from d▸c)]
     rfl
    ·rw[wY d]
     exact ih
   ·rw[qY c]
    by_cases d:x.1=k'
    ·rw[wX d,qY (λz:k'=k=>c (d.trans z))]
    ·rw[wY d]
     exact ih
 unfold CJ;split
 ·rename_i h
  rw[key]
  by_cases c:k'=k
  ·rw[qX c,qX c]
   subst c
   have:(Aj l k').isSome=true:=by
    unfold Aj;rw[Hr,eh];obtain⟨x,hx,hk⟩:=Go.mp h;exact⟨x,hx,hk⟩
   obtain⟨b,hb⟩:=Cv.mp this;rw[hb];rfl
  ·rw[qY c,qY c]
 ·rename_i h
  unfold Aj;rw[List.find?_append]
  by_cases c:k'=k
  ·subst c
   rw[qX rfl]
   have:l.find? (λkv=>decide (kv.1=k'))=none:=by
    rw[KP];intro x hx hk;exact h (Go.mpr ⟨x,hx,hk⟩)
   rw[this];simp
  ·rw[qY c]
   have:[(k,v)].find? (λkv=>decide (kv.1=k'))=none:=by
    rw[KP];intro x hx;rw[AU.mp hx];simp
    exact λz=>c z.symm
   rw[this];simp
theorem Hd(l:List (κ×α))(k:κ)(v:α):(CJ l k v).map (·.1)=if k∈l.map (·.1)then l.map (·.1)else l.map (·.1)++[k]:=by
 have h1:(l.any λkv=>decide (kv.1=k))=true↔k∈l.map (·.1):=by
  rw[Go,BD];exact⟨λ⟨x,hx,e⟩=>⟨x,hx,of_decide_eq_true e⟩,λ⟨x,hx,e⟩=>⟨x,hx,wX e⟩⟩
 unfold CJ
 by_cases c:k∈l.map (·.1)
 ·rw[qX c,qX (h1.mpr c),BF]
  refine DS λx _=>?_
  show(if x.1=k then(x.1,v)else x).1=x.1
  split <;> rfl
 ·rw[qY c,qY λz=>c (h1.mp z),CS]
  rfl
theorem DB(l:List (κ×α))(k:κ):(Aj l k).isSome=true↔k∈l.map (·.1):=by
 unfold Aj;rw[Hr,eh,BD];exact⟨λ⟨x,hx,e⟩=>⟨x,hx,of_decide_eq_true e⟩,λ⟨x,hx,e⟩=>⟨x,hx,wX e⟩⟩
end
def hb(bits x:Int):Bool:=BG (bits / 2 ^ x.toNat) 1 != 0
abbrev HL:=List (Int×Int)
abbrev QL:=List (Int×Bool)
def Om(st:HL->Int->QL->Option (Bool×HL×QL))(g:Int):List Int->HL->QL->Option (Bool×HL×QL)
 | [],H,Q=>some (false,H,Q)
 | x :: r,H,Q=>if (Aj Q x).isSome=true then Om st g r H Q else(KN Q x true).bind λQ1=>(Aj H x).bind λg2=>(st H g2 Q1).bind λz=>if z.1=true then(KN z.2.1 x g).bind λH'=>some (true,H',z.2.2)else Om st g r z.2.1 z.2.2
def IZ(T:Int->List Int)(bits:Int):Nat->HL->Int->QL->Option (Bool×HL×QL)
 | 0,_,_,_=>none
 | n+1,H,g,Q=>match((T g).filter λx=>hb bits x&&!(Aj Q x).isSome).find? (λx=>!(Aj H x).isSome)with
  | some x=>(KN H x g).bind λH'=>some (true,H',Q)
  | none=>Om (IZ T bits n) g ((T g).filter λx=>hb bits x&&!(Aj Q x).isSome) H Q
section
abbrev w0(T:Int->List Int)(bits g:Int):List Int:=(T g).filter (hb bits)
structure KOk{α:Type}(U:List Int)(l:List (Int×α)):Prop where
 nd:(l.map (·.1)).Nodup
 sub:∀x∈l.map (·.1),x∈U
theorem KOk.len{α:Type}{l:List (Int×α)}(h:KOk U l):l.length<=U.length:=by
 have:=HZ h.nd h.sub;rwa [AF]at this
theorem KOk.put{α:Type}{l:List (Int×α)}(h:KOk U l){x:Int}(hx:x∈U)(v:α):KOk U (CJ l x v):=by
 by_cases c:x∈l.map (·.1)
 ·exact⟨by rw[Hd,qX c];exact h.nd,by rw[Hd,qX c];exact h.sub⟩
 ·refine⟨?_,?_⟩
  ·rw[Hd,qY c]
   unfold Iv;rw[GZ];exact⟨h.nd,by simp,λa ha b wc z=>c (by rw[AU.mp wc]at z;rw[<-z];exact ha)⟩
  ·rw[Hd,qY c]
   intro y hy
   rcases Ax.mp hy with hy | hy
   ·exact h.sub y hy
   ·rw[AU.mp hy];exact hx
theorem KOk.more{α:Type}{l:List (Int×α)}{x:Int}(c:(Aj l x).isSome=false)(v:α):(CJ l x v).length=l.length+1:=by
 have h1:x∉l.map (·.1):=λz=>by rw[(DB l x).mpr z]at c;cases c
 have:=congrArg Of (Hd l x v);rw[qY h1,AF,AY,AF]at this;exact this
def MOn(T:Int->List Int)(bits:Int)(P:Int->Prop)(H:HL):Prop:=(∀x,P x->∀a,Aj H x=some a->x∈w0 T bits a)/\∀x y a,P x->P y->Aj H x=some a->Aj H y=some a->x=y
abbrev sn(Q:QL)(x:Int):Prop:=(Aj Q x).isSome=true
def Good(T:Int->List Int)(bits:Int)(H:HL)(g:Int)(Q:QL)(H':HL):Prop:=
 (∀x,sn Q x->Aj H' x=Aj H x)/\(MOn T bits (λx=>¬sn Q x) H->(∀x,¬sn Q x->Aj H x≠some g)->MOn T bits (λx=>¬sn Q x) H'/\∀a,(∃x,¬sn Q x/\Aj H' x=some a)↔a=g∨∃x,¬sn Q x/\Aj H x=some a)
def Clo(T:Int->List Int)(bits:Int)(H:HL)(Q Q':QL):Prop:=∀x,sn Q' x->sn Q x∨∃a,Aj H x=some a/\∀y∈w0 T bits a,sn Q' y
structure vX(T:Int->List Int)(bits:Int)(U:List Int)(Gd:Int->Prop)(H:HL)(g:Int)(Q:QL)(z:Bool×HL×QL):Prop where
 h1:KOk U z.2.1
 h2:KOk U z.2.2
 h3:∀x a,Aj z.2.1 x=some a->Gd a
 h4:∀x,sn Q x->sn z.2.2 x
 h5:z.1=false->z.2.1=H/\(∀x∈w0 T bits g,sn z.2.2 x)/\Clo T bits H Q z.2.2
 h6:z.1=true->Good T bits H g Q z.2.1
theorem Wy{α:Type}{l:List (Int×α)}(h:KOk U l)(hU:U.length < 1000000)(x:Int)(v:α):KN l x v=some (CJ l x v):=qX (Au h.len hU)
theorem Kt:sn (CJ Q x true) y↔y=x∨sn Q y:=by
 unfold sn;rw[Cc]
 by_cases c:y=x
 ·rw[qX c];simp[c]
 ·rw[qY c];simp[c]
theorem YB(hT:∀g,Gd g->∀x∈T g,x∈U)(hU:U.length < 1000000):∀(n:Nat) (H:HL) (g:Int) (Q:QL),KOk U H->KOk U Q->(∀x a,Aj H x=some a->Gd a)->Gd g->U.length < n+Q.length->Ok (IZ T bits n H g Q) (vX T bits U Gd H g Q):=by
 intro n
 induction n with
 | zero=>intro H g Q hH hQ hG hg hn;exact zX hQ.len (by lia)
 | succ n ih=>
  intro H g Q hH hQ hG hg hn;unfold IZ
  have wm:∀x,x∈(T g).filter (λx=>hb bits x&&!(Aj Q x).isSome)↔x∈w0 T bits g/\¬sn Q x:=by
   intro x;unfold w0 sn;rw[BM,BM]
   cases Aj Q x <;> simp
  generalize (T g).filter (λx=>hb bits x&&!(Aj Q x).isSome)=w at wm
  have wU:∀x∈w,x∈U:=λx hx=>hT g hg x (BM.mp ((wm x).mp hx).1).1
  cases hf:w.find? (λx=>!(Aj H x).isSome)with
  | some x=>
   have hx:=WJ hf
   have xF:Aj H x=none:=by
    have:=jx hf
    cases q:Aj H x with
    | none=>rfl
    | some a=>rw[q]at this;cases this
   obtain⟨x1,x2⟩:=(wm x).mp hx;show Ok ((KN H x g).bind _) _;rw[Wy hH hU];refine .pure ⟨hH.put (wU x hx) g,hQ,λy a hy=>?_,λ_ h=>h,λz=>(by cases z),λ_=>⟨λy hy=>?_,λm ng=>⟨⟨λy hy a e=>?_,λy z a hy hz e1 e2=>?_⟩,λa=>⟨?_,?_⟩⟩⟩⟩
   ·rw[show Aj (true,CJ H x g,Q).2.1 y=if y=x then some g else Aj H y from Cc _ _ _ _]at hy
    split at hy
    ·cases hy;exact hg
    ·exact hG y a hy
   ·show Aj (CJ H x g) y=_
    rw[Cc,qY λc:y=x=>x2 (by rw[<-c];exact hy)]
   ·rw[show Aj (true,CJ H x g,Q).2.1 y=if y=x then some g else Aj H y from Cc _ _ _ _]at e
    split at e
    ·rename_i c;cases e;rw[c];exact x1
    ·exact m.1 y hy a e
   ·rw[show Aj (true,CJ H x g,Q).2.1 y=if y=x then some g else Aj H y from Cc _ _ _ _]at e1
    rw[show Aj (true,CJ H x g,Q).2.1 z=if z=x then some g else Aj H z from Cc _ _ _ _]at e2;split at e1
    ·rename_i c
     cases e1;split at e2
     ·rename_i d;rw[c,d]
     ·exact zX e2 (ng z hz)
    ·split at e2
     ·cases e2;exact zX e1 (ng y hy)
     ·exact m.2 y z a hy hz e1 e2
   ·rintro⟨y,hy,e⟩
    rw[show Aj (true,CJ H x g,Q).2.1 y=if y=x then some g else Aj H y from Cc _ _ _ _]at e;split at e
    ·cases e;exact .inl rfl
    ·exact .inr ⟨y,hy,e⟩
   ·rintro(rfl | ⟨y,hy,e⟩)
    ·exact⟨x,x2,by show Aj (CJ H x a) x=_;rw[Cc,qX rfl]⟩
    ·refine⟨y,hy,?_⟩
     show Aj (CJ H x g) y=_;rw[Cc,qY λc=>by rw[c,xF]at e;cases e];exact e
  | none=>
   have held:∀x∈w,∃a,Aj H x=some a:=by
    intro x hx;have:=KP.mp hf x hx
    cases q:Aj H x with
    | none=>rw[q]at this;exact zX rfl this
    | some a=>exact⟨a,rfl⟩
   have key:∀(r:List Int) (Qc:QL),(∀x∈r,x∈w)->KOk U Qc->(∀x,sn Q x->sn Qc x)->Q.length<=Qc.length->Clo T bits H Q Qc->(∀x∈w,x∈r∨sn Qc x)->Ok (Om (IZ T bits n) g r H Qc) (vX T bits U Gd H g Q):=by
    intro r
    induction r with
    | nil=>
     intro Qc _ zZ hs hl hc hw;refine .pure ⟨hH,zZ,hG,hs,λ_=>⟨rfl,λx hx=>?_,hc⟩,λz=>(by cases z)⟩
     by_cases c:sn Q x
     ·exact hs x c
     ·rcases hw x ((wm x).mpr ⟨hx,c⟩)with h | h
      ·cases h
      ·exact h
    | cons x r ih2=>
     intro Qc hr zZ hs hl hc hw;unfold Om
     by_cases c:(Aj Qc x).isSome=true
     ·rw[qX c]
      refine ih2 Qc (λy hy=>hr y (AS _ hy)) zZ hs hl hc λy hy=>?_
      rcases hw y hy with h | h
      ·rcases Ae.mp h with rfl | h
       ·exact .inr c
       ·exact .inl h
      ·exact .inr h
     ·rw[qY c,Wy zZ hU]
      have hxw:=hr x AV;obtain⟨x1,x2⟩:=(wm x).mp hxw;obtain⟨a,ha⟩:=held x hxw;have hQ1:=zZ.put (wU x hxw) true;have qz:=KOk.more (l:=Qc) (x:=x) (by cases q:(Aj Qc x).isSome;rfl;exact zX q c) true;obtain⟨z,ez,hz⟩:=ih H a (CJ Qc x true) hH hQ1 hG (hG x a ha) (by lia);show Ok ((Aj H x).bind _) _;rw[ha];show Ok ((IZ T bits n H a (CJ Qc x true)).bind _) _;rw[ez];show Ok (if z.1=true then _ else _) _
      cases wc:z.1 with
      | true=>
       rw[qX rfl,Wy hz.h1 hU];obtain⟨g1,g2⟩:=hz.h6 wc;refine .pure ⟨hz.h1.put (wU x hxw) g,hz.h2,λy b hy=>?_,λy hy=>hz.h4 y (Kt.mpr (.inr (hs y hy))),λq=>(by cases q),λ_=>⟨λy hy=>?_,λm ng=>?_⟩⟩
       ·rw[show Aj (true,CJ z.2.1 x g,z.2.2).2.1 y=if y=x then some g else Aj z.2.1 y from Cc _ _ _ _]at hy
        split at hy
        ·cases hy;exact hg
        ·exact hz.h3 y b hy
       ·show Aj (CJ z.2.1 x g) y=_
        rw[Cc,qY λq:y=x=>x2 (by rw[<-q];exact hy)];exact g1 y (Kt.mpr (.inr (hs y hy)))
       ·have R1:∀y,¬sn (CJ Qc x true) y->¬sn Q y/\y≠x/\¬sn Qc y:=λy hy=>⟨λq=>hy (Kt.mpr (.inr (hs y q))),λq=>hy (Kt.mpr (.inl q)),λq=>hy (Kt.mpr (.inr q))⟩
        obtain⟨m1,m2⟩:=g2 ⟨λy hy b e=>m.1 y (R1 y hy).1 b e,λy y' b hy yH e e'=>m.2 y y' b (R1 y hy).1 (R1 y' yH).1 e e'⟩ λy hy e=>(R1 y hy).2.1 (m.2 y x a (R1 y hy).1 x2 e ha)
        have three:∀y,y=x∨(y≠x/\Aj z.2.1 y=Aj H y/\sn Qc y)∨¬sn (CJ Qc x true) y:=λy=>by
         by_cases q:y=x
         ·exact .inl q
         ·by_cases q2:sn Qc y
          ·exact .inr (.inl ⟨q,g1 y (Kt.mpr (.inr q2)),q2⟩)
          ·exact .inr (.inr λq3=>(Kt.mp q3).elim q q2)
        have hv:∀y,y≠x->Aj (CJ z.2.1 x g) y=Aj z.2.1 y:=λy q=>by rw[Cc,qY q]
        have A':Aj (CJ z.2.1 x g) x=some g:=by rw[Cc,qX rfl]
        show MOn T bits _ (CJ z.2.1 x g)/\∀b,(∃y,_/\Aj (CJ z.2.1 x g) y=some b)↔_
        refine⟨⟨λy hy b e=>?_,λy y' b hy yH e e'=>?_⟩,λb=>⟨?_,?_⟩⟩
        ·rcases three y with rfl | ⟨q,q1,q2⟩ | q
         ·rw[A']at e;cases e;exact x1
         ·rw[hv y q,q1]at e;exact m.1 y hy b e
         ·rw[hv y (R1 y q).2.1]at e;exact m1.1 y q b e
        ·rcases three y with rfl | ⟨q,q1,q2⟩ | q
         ·rw[A']at e
          cases e
          rcases three y' with rfl | ⟨p,p1,p2⟩ | p
          ·rfl
          ·rw[hv y' p,p1]at e';exact zX e' (ng y' yH)
          ·rw[hv y' (R1 y' p).2.1]at e'
           rcases(m2 g).mp ⟨y',p,e'⟩with rfl | ⟨y2,p2,e2⟩
           ·exact zX ha (ng y hy)
           ·exact zX e2 (ng y2 (R1 y2 p2).1)
         ·rw[hv y q,q1]at e
          rcases three y' with rfl | ⟨p,p1,p2⟩ | p
          ·rw[A']at e';cases e';exact zX e (ng y hy)
          ·rw[hv y' p,p1]at e';exact m.2 y y' b hy yH e e'
          ·rw[hv y' (R1 y' p).2.1]at e'
           rcases(m2 b).mp ⟨y',p,e'⟩with rfl | ⟨y2,p2,e2⟩
           ·exact zX (m.2 y x b hy x2 e ha) q
           ·have:=m.2 y y2 b hy (R1 y2 p2).1 e e2
            rw[<-this]at p2;exact zX q2 (R1 y p2).2.2
         ·rw[hv y (R1 y q).2.1]at e
          rcases three y' with rfl | ⟨p,p1,p2⟩ | p
          ·rw[A']at e'
           cases e'
           rcases(m2 g).mp ⟨y,q,e⟩with rfl | ⟨y2,p2,e2⟩
           ·exact zX ha (ng y' yH)
           ·exact zX e2 (ng y2 (R1 y2 p2).1)
          ·rw[hv y' p,p1]at e'
           rcases(m2 b).mp ⟨y,q,e⟩with rfl | ⟨y2,p3,e2⟩
           ·exact zX (m.2 y' x b yH x2 e' ha) p
           ·have:=m.2 y' y2 b yH (R1 y2 p3).1 e' e2
            rw[<-this]at p3;exact zX p2 (R1 y' p3).2.2
          ·rw[hv y' (R1 y' p).2.1]at e'
           exact m1.2 y y' b q p e e'
        ·rintro⟨y,hy,e⟩
         rcases three y with rfl | ⟨q,q1,q2⟩ | q
         ·rw[A']at e;cases e;exact .inl rfl
         ·rw[hv y q,q1]at e;exact .inr ⟨y,hy,e⟩
         ·rw[hv y (R1 y q).2.1]at e
          rcases(m2 b).mp ⟨y,q,e⟩with rfl | ⟨y2,p2,e2⟩
          ·exact .inr ⟨x,x2,ha⟩
          ·exact .inr ⟨y2,(R1 y2 p2).1,e2⟩
        ·rintro(rfl | ⟨y,hy,e⟩)
         ·exact⟨x,x2,A'⟩
         ·rcases three y with rfl | ⟨q,q1,q2⟩ | q
          ·rw[ha]at e
           cases e;obtain⟨y',p,e'⟩:=(m2 a).mpr (.inl rfl);exact⟨y',(R1 y' p).1,by rw[hv y' (R1 y' p).2.1];exact e'⟩
          ·exact⟨y,hy,by rw[hv y q,q1];exact e⟩
          ·obtain⟨y',p,e'⟩:=(m2 b).mpr (.inr ⟨y,q,e⟩)
           exact⟨y',(R1 y' p).1,by rw[hv y' (R1 y' p).2.1];exact e'⟩
      | false=>
       rw[qY AK];obtain⟨f1,f2,f3⟩:=hz.h5 wc;rw[f1]
       have up:∀y,sn Qc y->sn z.2.2 y:=λy hy=>hz.h4 y (Kt.mpr (.inr hy))
       refine ih2 z.2.2 (λy hy=>hr y (AS _ hy)) hz.h2 (λy hy=>up y (hs y hy)) ?_ (λy hy=>?_) λy hy=>?_
       ·have h1:∀k∈Qc.map (·.1),k∈z.2.2.map (·.1):=λk hk=>(DB _ _).mp (up k ((DB _ _).mpr hk))
        have:=HZ zZ.nd h1;rw[AF,AF]at this
        lia
       ·rcases f3 y hy with h | h
        ·rcases Kt.mp h with rfl | h
         ·exact .inr ⟨a,ha,f2⟩
         ·rcases hc y h with h | ⟨b,e,k⟩
          ·exact .inl h
          ·exact .inr ⟨b,e,λy' yH=>up y' (k y' yH)⟩
        ·exact .inr h
       ·rcases hw y hy with h | h
        ·rcases Ae.mp h with rfl | h
         ·exact .inr (hz.h4 _ (Kt.mpr (.inl rfl)))
         ·exact .inl h
        ·exact .inr (up y h)
   exact key w Q (λ_ h=>h) hQ (λ_ h=>h) (AO _) (λx hx=>.inl hx) λx hx=>.inl hx
end
def TU(bits:Int):List Int->HL->Option HL
 | [],H=>some H
 | g :: r,H=>if hb bits g=true then(KN H g g).bind λH'=>TU bits r H' else TU bits r H
def Tl(T:Int->List Int)(bits:Int)(n:Nat):List Int->HL->Option Bool
 | [],_=>some true
 | g :: r,H=>if hb bits g=true then Tl T bits n r H else(IZ T bits n H g []).bind λz=>if z.1=true then Tl T bits n r z.2.1 else some false
def Vx(T:Int->List Int)(bits:Int)(n:Nat)(gs:List Int):Option Bool:=(TU bits gs []).bind λH=>Tl T bits n gs H
def Sdr(T:Int->List Int)(bits:Int)(gs:List Int):Prop:=∃f:Int->Int,(∀g∈gs,f g∈w0 T bits g)/\∀a∈gs,∀b∈gs,f a=f b->a=b
section
variable{T:Int->List Int}{bits:Int}{U:List Int}{Gd:Int->Prop}
theorem cj(hU:U.length < 1000000):∀(gs:List Int) (H:HL),(∀g∈gs,g∈U)->KOk U H->Ok (TU bits gs H) λH'=>KOk U H'/\∀x,Aj H' x=if x∈gs/\hb bits x=true then some x else Aj H x:=by
 intro gs
 induction gs with
 | nil=>intro H _ h;exact .pure ⟨h,λx=>by rw[qY (by simp)]⟩
 | cons g gs ih=>
  intro H hg h;unfold TU
  cases c:hb bits g with
  | true=>
   rw[qX rfl,Wy h hU]
   refine(ih (CJ H g g) (λy hy=>hg y (AS _ hy)) (h.put (hg g AV) g)).imp λH' ⟨h1,h2⟩=>⟨h1,λx=>?_⟩
   rw[h2 x,Cc]
   by_cases d:x=g
   ·subst d
    rw[qX rfl,qX (show x∈x :: gs/\hb bits x=true from⟨AV,c⟩)]
    split <;> rfl
   ·rw[qY d]
    have:(x∈g :: gs/\hb bits x=true)↔(x∈gs/\hb bits x=true):=by rw[Ae];simp[d]
    by_cases q:x∈gs/\hb bits x=true
    ·rw[qX q,qX (this.mpr q)]
    ·rw[qY q,qY λz=>q (this.mp z)]
  | false=>
   rw[qY AK]
   refine(ih H (λy hy=>hg y (AS _ hy)) h).imp λH' ⟨h1,h2⟩=>⟨h1,λx=>?_⟩
   rw[h2 x]
   have:(x∈g :: gs/\hb bits x=true)↔(x∈gs/\hb bits x=true):=by
    rw[Ae];refine⟨λ⟨z,y⟩=>⟨z.elim (λe=>?_) id,y⟩,λ⟨z,y⟩=>⟨.inr z,y⟩⟩;rw[e,c]at y;cases y
   by_cases q:x∈gs/\hb bits x=true
   ·rw[qX q,qX (this.mpr q)]
   ·rw[qY q,qY λz=>q (this.mp z)]
theorem iB{α:Type}:KOk U ([]:List (Int×α)):=⟨EM,λ_ h=>(nomatch h)⟩
theorem dD(hT:∀g,Gd g->∀x∈T g,x∈U)(hU:U.length < 1000000)(hn:U.length < n)(hg:∀g∈gs,Gd g)(xw:gs.Nodup):∀(r pre:List Int) (H:HL),gs=pre++r->KOk U H->(∀x a,Aj H x=some a->Gd a)->MOn T bits (λ_=>True) H->(∀a,(∃x,Aj H x=some a)↔a∈gs/\(a∈pre∨hb bits a=true))->Ok (Tl T bits n r H) λb=>b=true↔Sdr T bits gs:=by
 intro r
 induction r with
 | nil=>
  intro pre H e hH hG hM hI;rw[Bq]at e;subst e;refine .pure ⟨λ_=>?_,λ_=>rfl⟩
  have ex:∀a:Int,∃x:Int,a∈gs->Aj H x=some a:=λa=>by
   by_cases c:a∈gs
   ·obtain⟨x,hx⟩:=(hI a).mpr ⟨c,.inl c⟩
    exact⟨x,λ_=>hx⟩
   ·exact⟨0,λz=>zX z c⟩
  refine⟨λa=>DA (ex a),λa ha=>hM.1 _ trivial a (D9 (ex a) ha),λa ha b wc e=>?_⟩;have h1:=D9 (ex a) ha;have h2:=D9 (ex b) wc;have e:DA (ex a)=DA (ex b):=e;rw[e,h2]at h1;cases h1;rfl
 | cons g r ih=>
  intro pre H e hH hG hM hI
  have yh:g∈gs:=by rw[e];simp
  have hgp:g∉pre:=λz=>by
   rw[e]at xw;exact(Em.mp xw).2.2 g z g AV rfl
  unfold Tl
  cases c:hb bits g with
  | true=>
   rw[qX rfl]
   refine ih (pre++[g]) H (by rw[e];simp) hH hG hM λa=>?_
   rw[hI a];refine⟨λ⟨z,y⟩=>⟨z,y.elim (λy=>.inl (BN _ y)) .inr⟩,λ⟨z,y⟩=>⟨z,y.elim (λy=>?_) .inr⟩⟩
   rcases Ax.mp y with y | y
   ·exact .inl y
   ·rw[AU.mp y];exact .inr c
  | false=>
   rw[qY AK];obtain⟨z,ez,hz⟩:=YB (bits:=bits) hT hU n H g [] hH iB hG (hg g yh) (by simpa using hn);rw[ez];show Ok (if z.1=true then _ else _) _
   have no:∀x,¬sn ([]:QL) x:=λx h=>by unfold sn at h;cases h
   have ng:∀x,Aj H x≠some g:=λx q=>by
    have:=((hI g).mp ⟨x,q⟩).2
    rcases this with h | h
    ·exact hgp h
    ·rw[c]at h;cases h
   cases wc:z.1 with
   | true=>
    rw[qX rfl];obtain⟨-,g2⟩:=hz.h6 wc
    obtain⟨m1,m2⟩:=g2 ⟨λx _ a q=>hM.1 x trivial a q,λx y a _ _ q q'=>hM.2 x y a trivial trivial q q'⟩ λx _=>ng x
    refine ih (pre++[g]) z.2.1 (by rw[e];simp) hz.h1 hz.h3 ⟨λx _ a q=>m1.1 x (no x) a q,λx y a _ _ q q'=>m1.2 x y a (no x) (no y) q q'⟩ λa=>?_
    constructor
    ·rintro⟨x,hx⟩
     rcases(m2 a).mp ⟨x,no x,hx⟩with rfl | ⟨y,_,hy⟩
     ·exact⟨yh,.inl (by simp)⟩
     ·obtain⟨q1,q2⟩:=(hI a).mp ⟨y,hy⟩
      exact⟨q1,q2.elim (λq=>.inl (BN _ q)) .inr⟩
    ·rintro⟨q1,q2⟩
     have:a=g∨∃x,¬sn ([]:QL) x/\Aj H x=some a:=by
      rcases q2 with q2 | q2
      ·rcases Ax.mp q2 with q2 | q2
       ·obtain⟨x,hx⟩:=(hI a).mpr ⟨q1,.inl q2⟩
        exact .inr ⟨x,no x,hx⟩
       ·exact .inl (AU.mp q2)
      ·obtain⟨x,hx⟩:=(hI a).mpr ⟨q1,.inr q2⟩
       exact .inr ⟨x,no x,hx⟩
     obtain⟨x,_,hx⟩:=(m2 a).mpr this;exact⟨x,hx⟩
   | false=>
    rw[qY AK];obtain⟨f1,f2,f3⟩:=hz.h5 wc;refine .pure ⟨λq=>(by cases q),?_⟩;rintro⟨f,fw,fi⟩
    exfalso
    have X:=z.2.2.map (·.1)
    have hold:∀x∈z.2.2.map (·.1),∃a,Aj H x=some a/\∀y∈w0 T bits a,sn z.2.2 y:=λx hx=>by
     rcases f3 x ((DB _ _).mpr hx)with h | h
     ·exact zX h (no x)
     ·exact h
    have ex:∀x:Int,∃a:Int,x∈z.2.2.map (·.1)->Aj H x=some a/\∀y∈w0 T bits a,sn z.2.2 y:=λx=>by
     by_cases q:x∈z.2.2.map (·.1)
     ·obtain⟨a,h⟩:=hold x q
      exact⟨a,λ_=>h⟩
     ·exact⟨0,λq'=>zX q' q⟩
    have hc:=λx=>D9 (ex x)
    generalize hh:(λx=>DA (ex x))=h at hc
    have wM:∀x∈z.2.2.map (·.1),Aj H x=some (h x)/\∀y∈w0 T bits (h x),sn z.2.2 y:=λx hx=>by rw[<-hh];exact hc x hx
    have nd:(f g :: (z.2.2.map (·.1)).map λx=>f (h x)).Nodup:=by
     rw[Bh]
     have xS:∀x∈z.2.2.map (·.1),h x∈gs:=λx hx=>((hI (h x)).mp ⟨x,(wM x hx).1⟩).1
     refine⟨λq=>?_,?_⟩
     ·obtain⟨x,hx,e1⟩:=BD.mp q
      have:=fi (h x) (xS x hx) g yh e1;exact ng x (by rw[(wM x hx).1,this])
     ·unfold Iv
      rw[Ca]
      refine hz.h2.nd.imp_of_mem λ{x y} hx hy ne e1=>ne ?_
      have:=fi (h x) (xS x hx) (h y) (xS y hy) e1;exact hM.2 x y (h x) trivial trivial (wM x hx).1 (by rw[this];exact(wM y hy).1)
    have sub:∀y∈(f g :: (z.2.2.map (·.1)).map λx=>f (h x)),y∈z.2.2.map (·.1):=by
     intro y hy
     rcases Ae.mp hy with rfl | hy
     ·exact(DB _ _).mp (f2 _ (fw g yh))
     ·obtain⟨x,hx,rfl⟩:=BD.mp hy
      exact(DB _ _).mp ((wM x hx).2 _ (fw _ ((hI (h x)).mp ⟨x,(wM x hx).1⟩).1))
    have:=HZ nd sub;rw[Av,AF]at this;omega
theorem di(hT:∀g,Gd g->∀x∈T g,x∈U)(hU:U.length < 1000000)(hn:U.length < n)(hg:∀g∈gs,Gd g/\g∈T g)(xw:gs.Nodup):Ok (Vx T bits n gs) λb=>b=true↔Sdr T bits gs:=by
 unfold Vx
 refine(cj hU gs [] (λg h=>hT g (hg g h).1 g (hg g h).2) iB).bind λH ⟨h1,h2⟩=>?_
 have hv:∀x a,Aj H x=some a->a=x/\x∈gs/\hb bits x=true:=λx a e=>by
  rw[h2 x]at e;split at e
  ·rename_i q;cases e;exact⟨rfl,q⟩
  ·cases e
 refine dD hT hU hn (λg h=>(hg g h).1) xw gs [] H rfl h1 (λx a e=>?_) ⟨λx _ a e=>?_,λx y a _ _ e e'=>?_⟩ λa=>⟨?_,?_⟩
 ·obtain⟨rfl,q,_⟩:=hv x a e;exact(hg _ q).1
 ·obtain⟨rfl,q1,q2⟩:=hv x a e
  exact BM.mpr ⟨(hg _ q1).2,q2⟩
 ·rw[<-(hv x a e).1,<-(hv y a e').1]
 ·rintro⟨x,e⟩
  obtain⟨rfl,q1,q2⟩:=hv x a e;exact⟨q1,.inr q2⟩
 ·rintro⟨q1,q2⟩
  refine⟨a,?_⟩;rw[h2 a,qX ⟨q1,q2.elim (λq=>(nomatch q)) id⟩]
end
def Yu(rs:List (List Int)):Option (List Int):=rs[Gj (λi j=>HT.lexLt (rs.getD i []) (rs.getD j [])) (rs.length - 1)]?
theorem Vg:∀rs:List (List Int),Vh (rs.map (eT D.int))=some rs
 | []=>rfl
 | r :: rs=>by
  rw[BC];show(match JL (r.map D.int),Vh (rs.map (eT D.int))with | some r,some rs=>some (r :: rs) | _,_=>none)=_;rw[Nq,Vg rs]
theorem kJ(ha:VE A a (rO (oL (eT D.int))) pl):VE A (mQ Zw (Rz a)) (rV (eT D.int)) (pl.bind Yu):=λv hv S0 e F S hs=>by
 obtain⟨l,h1,h2⟩:=Aw hv;obtain⟨d,S',h3,h4,n,rfl,hn⟩:=ha l h1 S0 e F S hs;refine⟨_,S',lC (f:=Zw) (oE h3 (Fm hn)) ?_,h4,rfl⟩;unfold Zw;rw[Vg];dsimp only;unfold Yu at h2;rw[AZ,h2];rfl
def rOP{α β:Type}(enc:α->D)(ob:β->Ob):Rk (Option (α×β)):=λv S0 d S=>match v with
 | none=>d=.non
 | some ab=>∃n,d=.tup [enc ab.1,.ref n]/\S0.length<=n/\S[n]?=some (ob ab.2)
section
variable{α β:Type}
theorem qE:∀(v:Option (α×β)) (S S1:Sto) (d:D) (S':Sto),S.length<=S1.length->rOP enc ob v S1 d S'->rOP enc ob v S d S':=λv _ _ _ _ l h=>by
 cases v with
 | none=>exact h
 | some ab=>obtain⟨n,h1,h2,h3⟩:=h;exact⟨n,h1,At l h2,h3⟩
theorem j9:VS A (CZ (mC .non)) (rOP enc ob) (some (.rt none)) B:=λf hf S0 e F S hs=>by
 cases hf;exact⟨.rt .non,S,rfl,_,rfl,rfl,hs.kp⟩
theorem j8(ha:VE A ma (rV enc) p)(hb:VE A mb (rN ob) q):VS A (CZ (Jx (AN ma (AN mb BL)))) (rOP enc ob) (p.bind λx=>q.bind λy=>some (.rt (some (x,y)))) B:=λf hf S0 e F S hs=>by
 obtain⟨x,h1,h2⟩:=Aw hf;obtain⟨y,h3,h4⟩:=Aw h2;cases h4;obtain⟨d1,S1,c1,k1,rfl⟩:=ha x h1 S0 e F S hs;obtain⟨d2,S2,c2,k2,n,rfl,h5,h6⟩:=hb y h3 S0 e _ S1 (hs.grow k1);exact⟨_,S2,IK (TN (Cq c1 (Cq c2 rfl)) (by simp)),_,rfl,⟨n,rfl,At (At hs.kp.1 k1.1) h5,h6⟩,(hs.kp.trans k1).trans k2⟩
theorem G4(h:e[i]?=some (some d)):AE i e S=.ok d S:=by unfold AE;rw[h]
theorem j6(hi:A[i]?=some (.w i (oL D.int t)))(hk:A[k]?=some .u)(hij:i≠j)(hik:i≠k)(hjk:j≠k)(hm:VE A m (rOP D.int (oL D.int)) p)(ht:(((A.set k .u).set i .u).all (Sl.oth i))=true) :
  VS A (BK (CP k m) (BK (sIf (mB (m2 (Q0 false) (AE k) (mC .non))) (CZ (mC .non)) sNx) (BK (Il (P0 (AE i) (m2 ixA (AE k) (mC (.int 0))))) (CP j (m2 ixA (AE k) (mC (.int 1))))))) (rV (eO (eT D.int)))
   (p.bind λo=>match o with | none=>some (.rt none) | some ab=>(Ue t ab.1).bind λl=>some (.nx (l,ab.2))) (λz:List Int×List Int=>((A.set k .u).set i (.w i (oL D.int z.1))).set j (.z (oL D.int z.2))):=λf hf S0 e F S hs=>by
 obtain⟨o,h1,h2⟩:=Aw hf;obtain⟨d,S',c1,k1,r1⟩:=hm o h1 S0 e F S hs;have g:=hs.grow k1;have s1:CP k m e S=.ok (.nx (e.set k (some d))) S':=Jj c1;obtain⟨xk,ek,_⟩:=hs.sl k _ hk;have ω:=(AD.mp ek).1
 have vk:(e.set k (some d))[k]?=some (some d):=by rw[Aq ω]
 cases o with
 | none=>
  cases r1;cases h2;have t1:mB (m2 (Q0 false) (AE k) (mC .non)) (e.set k (some .non)) S'=.ok true S':=Uh (Dc (G4 vk) rfl rfl);exact⟨.rt .non,S',(B1 s1).trans (TX ((HB t1).trans ((qX rfl).trans rfl))),_,rfl,rfl,hs.kp.trans k1⟩
 | some ab=>
  obtain⟨n,rfl,hn,hb⟩:=r1;obtain⟨l,h3,h4⟩:=Aw h2;cases h4;unfold Ue at h3;split at h3
  ·rename_i hl
   cases h3;obtain⟨x,g1,n3,rfl,g2,g3⟩:=g.sl i _ hi;have t1:mB (m2 (Q0 false) (AE k) (mC .non)) (e.set k (some (.tup [.int ab.1,.ref n]))) S'=.ok false S':=Uh (Dc (G4 vk) rfl rfl)
   have vi:(e.set k (some (.tup [D.int ab.1,.ref n])))[i]?=some (some (.ref n3)):=by rw[Ab (Br hik)];exact g1
   have hx:=XY (mo:=AE i) (ma:=m2 ixA (AE k) (mC (.int 0))) (e:=e.set k (some (.tup [.int ab.1,.ref n]))) (S:=S') (S1:=S') (S2:=S') (y:=.int ab.1) (n:=n3) (G4 vi) g3 (Dc (G4 vk) rfl rfl) g3 (by rw[AF];exact Z3 hl);rw[show t.map D.int++[D.int ab.1]=(t++[ab.1]).map D.int by simp]at hx;have v1:=(g.set (a:=.u) (x:=some (.tup [.int ab.1,.ref n])) k trivial).put (i:=i) (n:=n3) (o:=oL D.int t) (o':=oL D.int (t++[ab.1])) ht (by rw[Ab (Br hik)];exact hi) vi g2;have v2:=v1.set (a:=.z (oL D.int ab.2)) (x:=some (.ref n)) j ⟨n,rfl,N2 hn hb⟩;have s4:CP j (m2 ixA (AE k) (mC (.int 1))) (e.set k (some (.tup [.int ab.1,.ref n]))) (S'.set n3 (oL D.int (t++[ab.1])))=.ok (.nx ((e.set k (some (.tup [.int ab.1,.ref n]))).set j (some (.ref n)))) (S'.set n3 (oL D.int (t++[ab.1]))):=Jj (Dc (G4 vk) rfl rfl);refine⟨_,_,(B1 s1).trans ((B1 ((HB t1).trans ((qY AK).trans rfl))).trans ((B1 (QB hx)).trans s4)),_,_,rfl,v2,hs.fle S'⟩
  ·cases h3
end
def rP{α β:Type}(enc:α->D)(ob:β->Ob):Rk (α×β):=λv S0 d S=>∃n,d=.tup [enc v.1,.ref n]/\S0.length<=n/\S[n]?=some (ob v.2)
section
variable{α β:Type}
theorem uQ:∀(v:α×β) (S S1:Sto) (d:D) (S':Sto),S.length<=S1.length->rP enc ob v S1 d S'->rP enc ob v S d S':=λv _ _ _ _ l ⟨n,h1,h2,h3⟩=>⟨n,h1,At l h2,h3⟩
theorem kD(h:VE A m (rP enc ob) p):VS A (c8 m (JK 2 (DL (tgN i) (DL (tgN j) Jh)))) R (p.bind λv=>some (.nx v)) (λv=>(A.set i (.v (enc v.1))).set j (.y (ob v.2))):=λf hf S0 e F S hs=>by
 obtain⟨v,h1,h2⟩:=Aw hf;cases h2;obtain⟨d,S',c1,k1,n,rfl,hn,hb⟩:=h v h1 S0 e F S hs;have g:=hs.grow k1;have v1:=g.set (a:=.v (enc v.1)) (x:=some (enc v.1)) i rfl;have v2:=v1.set (a:=.y (ob v.2)) (x:=some (.ref n)) j ⟨n,rfl,N2 hn hb,At hs.kp.1 hn⟩;refine⟨.nx ((e.set i (some (enc v.1))).set j (some (.ref n))),S',?_,_,_,rfl,v2,hs.fle S'⟩;unfold c8;rw[c1];rfl
theorem kQ(ha:VE A a (rV eF) pl)(hl:VO A mlo po)(hh:VO A mhi ph):VE A (O8 a mlo mhi) (rN (oL D.int)) (pl.bind λl=>po.bind λx=>ph.bind λy=>some (Ip l x y)):=λv hv S0 e F S hs=>by
 obtain⟨l,h1,hv⟩:=Aw hv;obtain⟨x,h2,hv⟩:=Aw hv;obtain⟨y,h3,h4⟩:=Aw hv;cases h4;obtain⟨d1,S1,q1,k1,rfl⟩:=ha l h1 S0 e F S hs;obtain⟨S2,q2,k2⟩:=hl x h2 S0 e _ S1 (hs.grow k1);obtain⟨S3,q3,k3⟩:=hh y h3 S0 e _ S2 ((hs.grow k1).grow k2);refine⟨.ref S3.length,S3++[oL D.int (Ip l x y)],?_,((k1.trans k2).trans k3).trans (Keeps.app _ _),_,rfl,((k1.trans k2).trans k3).1,FQ _ _⟩;unfold O8;rw[q1];dsimp only[Res.bind];rw[q2];dsimp only;rw[q3];show Res.ok _ (S3++[Ob.lst (Ip (l.map D.int) x y)])=_;rw[UW];rfl
end
section
variable{F:Fz}
def loF(F:Fz):Nat->Option Ob:=λn=>match F n with
 | .fz o=>some o
 | _=>none
theorem iL(h:F n=.fz o):loF F n=some o:=by unfold loF;rw[h]
theorem Np(h:loF F n=some o):F n=.fz o:=by
 unfold loF at h;split at h
 ·rename_i o' ho;cases h;exact ho
 ·cases h
end
section
variable{S0 S:Sto}{A:List Sl}{ρ σ:Type}
def whF(c:σ->Option Bool)(q:σ->Option (Fw ρ σ)):Nat->σ->Option (Fw ρ σ)
 | 0,_=>none
 | n+1,s=>(c s).bind λt=>if t=true then match q s with
   | some (.nx s')=>whF c q n s'
   | some (.ct s')=>whF c q n s'
   | some (.bk s')=>some (.nx s')
   | some (.rt r)=>some (.rt r)
   | none=>none
  else some (.nx s)
theorem cU(hc:∀s,VB (B s) t (c s))(hb:∀s,VS (B s) b R (q s) B):∀(n:Nat) (s:σ),VS (B s) (JD t b n) R (whF c q n s) B:=by
 intro n
 induction n with
 | zero=>intro s f hf;cases hf
 | succ n ih=>
  intro s f hf S0 e F S hs;unfold whF at hf;obtain⟨v,h1,h2⟩:=Aw hf;obtain⟨S1,h3,h4⟩:=hc s v h1 S0 e F S hs;have yu:=hs.grow h4
  have run:JD t b (n+1) e S=if v=true then(b e S1).bind λf S2=>match f with
   | .nx e2=>JD t b n e2 S2
   | .ct e2=>JD t b n e2 S2
   | .bk e2=>.ok (.nx e2) S2
   | .rt d=>.ok (.rt d) S2
   | .ex c e2=>.ok (.ex c e2) S2
  else .ok (.nx e) S1:=by
   show(t e S).lift e _=_;rw[h3];rfl
  cases v with
  | false=>
   rw[qY AK]at h2;cases h2;exact⟨_,S1,run.trans (qY AK),e,_,rfl,yu,hs.fle S1⟩
  | true=>
   rw[qX rfl]at h2;rw[run,qX rfl];split at h2
   ·rename_i s' hq
    obtain⟨h,S2,g1,e2,F2,rfl,g2,g3⟩:=hb s _ hq S0 e _ S1 yu;rw[g1];obtain⟨h',S3,g4,g5⟩:=ih s' f h2 S0 e2 F2 S2 g2;exact⟨h',S3,g4,g5.up ((hs.fle S1).trans g3)⟩
   ·rename_i s' hq
    obtain⟨h,S2,g1,e2,F2,rfl,g2,g3⟩:=hb s _ hq S0 e _ S1 yu;rw[g1];obtain⟨h',S3,g4,g5⟩:=ih s' f h2 S0 e2 F2 S2 g2;exact⟨h',S3,g4,g5.up ((hs.fle S1).trans g3)⟩
   ·rename_i s' hq
    cases h2;obtain⟨h,S2,g1,e2,F2,rfl,g2,g3⟩:=hb s _ hq S0 e _ S1 yu;rw[g1];exact⟨_,S2,rfl,e2,F2,rfl,g2,(hs.fle S1).trans g3⟩
   ·rename_i r hq
    cases h2;obtain⟨h,S2,g1,d,rfl,g2,g3⟩:=hb s _ hq S0 e _ S1 yu;rw[g1];exact⟨_,S2,rfl,d,rfl,g2,g3⟩
   ·cases h2
theorem Xz(w0:Wk A (B s0))(hc:∀s,VB (B s) t (c s))(hb:∀s,VS (B s) b R (q s) B):VS A (JD t b n) R (whF c q n s0) B:=λf hf S0 e F S hs=>
 cU hc hb n s0 f hf S0 e F S (hs.weak w0)
end
section
variable{β:Type}
def rOL(ob:β->Ob):Rk (Option β):=λv S0 d S=>match v with
 | none=>d=.non
 | some b=>∃n,d=.ref n/\S0.length<=n/\S[n]?=some (ob b)
theorem gZ:∀(v:Option β) (S S1:Sto) (d:D) (S':Sto),S.length<=S1.length->rOL ob v S1 d S'->rOL ob v S d S':=λv S S1 d S' l h=>by
 cases v with
 | none=>exact h
 | some b=>obtain⟨n,h1,h2,h3⟩:=h;exact⟨n,h1,At l h2,h3⟩
theorem fC:VS A (CZ (mC .non)) (rOL ob) (some (.rt none)) B:=λf hf S0 e F S hs=>by
 cases hf;exact⟨.rt .non,S,rfl,_,rfl,rfl,hs.kp⟩
theorem kA(h:VE A m (rN ob) p):VS A (CZ m) (rOL ob) (p.bind λv=>some (.rt (some v))) B:=λf hf S0 e F S hs=>by
 obtain⟨v,h1,h2⟩:=Aw hf;cases h2;obtain⟨d,S',h3,h4,n,rfl,h5,h6⟩:=h v h1 S0 e F S hs;exact⟨_,S',IK h3,_,rfl,⟨n,rfl,At hs.kp.1 h5,h6⟩,hs.kp.trans h4⟩
end
section
variable{S0 S S':Sto}{A B:List Sl}{e:Lo}{F:Fz}{α ρ σ:Type}{a b:ME}{enc:α->D}
def oFK(enc:α->D)(l:List (Int×α)):Ob:=.fK (l.map λx=>(D2 x.1,enc x.2))
theorem sL(h:S[n]?=some (oFK enc l))(k:Int):Oa (.ref n) (.int k) S=some ((Aj l k).map enc):=by
 unfold Oa;dsimp only;rw[h];show some (Aj _ (D2 k))=_;rw[TC SR]
theorem uL(h:S[n]?=some (oFK enc l)):HG (.ref n) S=none:=by unfold HG;dsimp only;rw[h];rfl
theorem cX(ha:VE A a (rO (oFK enc)) pl)(hb:VE A b (rV D.int) pk):VE A (m2 ixA a b) (rV enc) (pl.bind λl=>pk.bind λx=>Aj l x):=Wb ha hb λl x z S n hn q=>RB (uL hn) (by rw[sL hn x,q];rfl)
theorem mS(h:S[n]?=some (oFK enc l)):Yg (.ref n) S=some ((l.map (·.1)).map D.int):=by
 unfold Yg;dsimp only;rw[h];show some _=_;rw[BF,BF];rfl
theorem pG(h:A[i]?=some (.y (oFK enc l))):VI A (be (AE i)) D.int (some (l.map (·.1))):=λ_ hv S0 e F S hs=>by
 cases hv;obtain⟨x,h1,n,rfl,h2,_⟩:=hs.sl i _ h;refine⟨Gu ((l.map (·.1)).map D.int),S,?_,Keeps.refl S,λ_ _ _ _=>rfl⟩;unfold be;rw[G4 h1];dsimp only[Res.bind];rw[mS (hs.fz _ _ h2)]
theorem tu{b:MS}{R:Rk ρ}{p:Option (Fw ρ σ)}{B:σ->List Sl}{l:List (Int×α)}(i:Nat)(ha:A[i]?=some (.w i (oDK enc l)))(ht:((A.set i .u).all (Sl.oth i))=true)(h:VS (A.set i (.y (oFK enc l))) b R p B):VS A (BK (sFz i) b) R p B:=λf hf S0 e F S hs=>by
 obtain⟨x,h1,n,rfl,h2,h3⟩:=hs.sl i _ ha;have hp:=hs.put (o':=oFK enc l) ht ha h1 h2;have ϐ:(A.set i (.w i (oFK enc l)))[i]?=some (.w i (oFK enc l)):=Aq (AD.mp ha).1;obtain⟨F',h4,h5⟩:=hp.freeze (by rw[tD];exact ht) ϐ;rw[tD]at h4;obtain⟨g,S',h6,h7⟩:=h f hf S0 e F' _ h4;refine⟨g,S',?_,h7.up h5⟩
 have:sFz i e S=.ok (.nx e) (S.set n (oFK enc l)):=by
  unfold sFz;rw[h1];dsimp only;rw[h3];rfl
 exact(B1 this).trans h6
theorem fU(ha:VE A a (rO (oDK enc)) pl):VB A (E5 a) (pl.bind λl=>some (!l.isEmpty)):=λv hv S0 e F S hs=>by
 obtain⟨l,h1,h2⟩:=Aw hv;cases h2;obtain⟨d,S',h3,h4,n,rfl,hn⟩:=ha l h1 S0 e F S hs;refine⟨S',?_,h4⟩;unfold E5;rw[h3];dsimp only[Res.bind];rw[show RU (.ref n) S'=some (!l.isEmpty) by unfold RU;dsimp only;rw[hn];show some (!(ah _ l).isEmpty)=_;rw[List.isEmpty_map]]
end
abbrev Pq:=(Nat->Option Ob)->D->Prop
def AtV(P:Pq)(C:AW)(x:Str)(d0:D):Prop:=∀L d,P L d->∃q fs,d=.ref q/\L q=some (.ins C fs)/\fs.lookup x=some d0
def AtO(P:Pq)(C:AW)(x:Str)(o:Ob):Prop:=∀L d,P L d->∃q fs n,d=.ref q/\L q=some (.ins C fs)/\fs.lookup x=some (.ref n)/\L n=some o
def AtN(P:Pq)(C:AW)(x:Str):Prop:=∀L d,P L d->∃q fs,d=.ref q/\L q=some (.ins C fs)/\fs.lookup x=none
def rQ(P:β->Pq):Rk β:=λv S0 d S=>∀L:Nat->Option Ob,(∀n o,S0.length<=n->S[n]?=some o->L n=some o)->P v L d
section
variable{S0 S S':Sto}{A:List Sl}{e:Lo}{F:Fz}{α β:Type}{enc:α->D}{ob:α->Ob}{i n:Nat}{P:Pq}{Pf Pg:β->Pq}{C:AW}{x:Str}{v:α}{f:β}
theorem Vs.qAt(hs:Vs S0 A e F S)(h:A[i]?=some (.q P)):∃d,e[i]?=some (some d)/\P (loF F) d:=by
 obtain⟨x,h1,d,rfl,h2⟩:=hs.sl i _ h;exact⟨d,h1,h2 _ λn o q=>iL q⟩
theorem fR(hc:AtV P C x (enc v))(h:A[i]?=some (.q P)):VE A (DC C x (AE i)) (rV enc) (some v):=λ_ hv S0 e F S hs=>by
 cases hv;obtain⟨d,h1,h2⟩:=Vs.qAt hs h;obtain⟨q,fs,rfl,h3,h4⟩:=hc _ _ h2;exact⟨_,S,LB (G4 h1) (hs.fz _ _ (Np h3)) h4,Keeps.refl S,rfl⟩
theorem EZ(hc:AtO P C x (ob v))(h:A[i]?=some (.q P)):VE A (DC C x (AE i)) (rO ob) (some v):=λ_ hv S0 e F S hs=>by
 cases hv;obtain⟨d,h1,h2⟩:=Vs.qAt hs h;obtain⟨q,fs,n,rfl,h3,h4,h5⟩:=hc _ _ h2;exact⟨_,S,LB (G4 h1) (hs.fz _ _ (Np h3)) h4,Keeps.refl S,n,rfl,hs.fz _ _ (Np h5)⟩
theorem pH(hc:AtO P C x (oL enc l))(h:A[i]?=some (.q P)):VI A (D0 (DC C x (AE i))) enc (some l):=λ_ hv S0 e F S hs=>by
 cases hv;obtain⟨d,h1,h2⟩:=Vs.qAt hs h;obtain⟨q,fs,n,rfl,h3,h4,h5⟩:=hc _ _ h2;have h6:=Np h5;have hn:=hs.fz _ _ h6;exact⟨_,S,Lb (n:=n) (LB (G4 h1) (hs.fz _ _ (Np h3)) h4) hn,Keeps.refl S,λF2 S2 hF h=>Da (h n _ (hF _ _ (by rw[GC (BW hn)];exact h6)))⟩
theorem kG(hc:AtO P C x (oL enc l))(h:A[i]?=some (.q P)):VI A (Jy (DC C x (AE i))) (eP D.int enc) (some (DG l)):=λ_ hv S0 e F S hs=>by
 cases hv;obtain⟨d,h1,h2⟩:=Vs.qAt hs h;obtain⟨q,fs,n,rfl,h3,h4,h5⟩:=hc _ _ h2;have h6:=Np h5;have hn:=hs.fz _ _ h6;refine⟨Og (FT (.ref n)),S,?_,Keeps.refl S,λF2 S2 hF h=>?_⟩
 ·unfold Jy
  rw[LB (C:=C) (f:=x) (G4 (S:=S) h1) (hs.fz _ _ (Np h3)) h4];dsimp only[Res.bind];rw[Da hn]
 ·unfold Og
  rw[Da (h n _ (hF _ _ (by rw[GC (BW hn)];exact h6)))];exact congrArg some (RA l)
theorem We(hp:∀L d,Pf f L d->Pg f L d)(h:A[i]?=some (.q (Pf f)))(hl:VA A ml q ar):VA A (AN (AE i) ml) (q.bind λy=>some (f,y)) (λz=>.q (Pg z.1) :: ar z.2):=λv hv S0 e F S hs=>by
 obtain⟨y,h2,h3⟩:=Aw hv;cases h3;obtain⟨x,h4,d,rfl,h5⟩:=hs.sl i _ h;obtain⟨ds,S2,h6,h7,h8⟩:=hl y h2 S0 e F S hs;exact⟨_,S2,Cq (G4 h4) h6,h7,λL hL=>hp _ _ (h5 L λn o q=>hL n o (h7.at (hs.fz _ _ q))),h8⟩
theorem KU(hc:AtN (Pf f) C m)(hp:∀L d,Pf f L d->Pg f L d)(h:A[i]?=some (.q (Pf f)))(ha:VA A ml p ar)(hf:∀z,VF g (.q (Pg f) :: ar z) R (q z))(hn:∀z,(ar z).length+1=n)
  (hR:∀v S S1 d S',S.length<=S1.length->R v S1 d S'->R v S d S'):VE A (Kf C m n g (AE i) ml) R (p.bind q):=λv hv S0 e F S hs=>by
 obtain⟨z,h1,h2⟩:=Aw hv;obtain⟨x,h4,d,rfl,h5⟩:=hs.sl i _ h;obtain⟨k,fs,rfl,h6,h7⟩:=hc _ _ (h5 (loF F) λn o q=>iL q);obtain⟨ds,S2,q1,q2,q3⟩:=ha z h1 S0 e F S hs;obtain⟨d,S3,r1,r2,r3⟩:=hf z v h2 S2 (.ref k :: ds) ⟨λL hL=>hp _ _ (h5 L λn o q=>hL n o (q2.at (hs.fz _ _ q))),q3⟩;refine⟨d,S3,?_,q2.trans r2,hR _ _ _ _ _ q2.1 r3⟩;unfold Kf;rw[G4 h4];dsimp only[Res.bind];rw[hs.fz _ _ (Np h6)];dsimp only;rw[qX ⟨rfl,h7⟩,q1];dsimp only;rw[qX (by rw[q3.len];exact hn z)];exact r1
theorem WP(h:VE A m (rQ Pf) p):VS A (CP i m) R (p.bind λv=>some (.nx v)) (λv=>A.set i (.q (Pf v))):=λf hf S0 e F S hs=>by
 obtain⟨v,h1,h2⟩:=Aw hf;cases h2;obtain⟨d,S',h3,h4,h5⟩:=h v h1 S0 e F S hs;exact⟨_,S',Jj h3,_,_,rfl,(hs.grow h4).set (a:=.q (Pf v)) (x:=some d) i ⟨d,rfl,λL hL=>h5 L λn o hn ho=>hL n o (N2 hn ho)⟩,hs.fle S'⟩
end
def kR(r:List Int):List Key:=r.map D2
def oDR(enc:α->D)(l:List (List Int×α)):Ob:=.dT (l.map λx=>(kR x.1,enc x.2))
theorem iW(x y:List Int)(h:kR x=kR y):x=y:=by
 have:∀r:List Int,(kR r).map (λk:Key=>match k with | .inl i=>i | .inr _=>0)=r:=λr=>by
  unfold kR;rw[BF]
  conv=>rhs;rw[<-Sm r]
  rfl
 rw[<-this x,h,this y]
theorem oS(r:List Int):On (r.map D.int)=some (kR r):=by
 induction r with
 | nil=>rfl
 | cons x r ih=>
  rw[BC];unfold On;rw[ih];rfl
section
variable{S0 S S':Sto}{A:List Sl}{e:Lo}{F:Fz}{α:Type}{enc:α->D}{a b:ME}
theorem vP(h:S[n]?=some (oDR enc l))(k:List Int):Oa (.ref n) (eT D.int k) S=some ((Aj l k).map enc):=by
 unfold Oa;dsimp only;rw[h];show(match On (k.map D.int)with | some ks=>some (Aj (l.map λx:List Int×α=>(kR x.1,enc x.2)) ks) | none=>none)=_;rw[oS];dsimp only;rw[TC iW]
theorem seqR(h:S[n]?=some (oDR enc l)):HG (.ref n) S=none:=by unfold HG;dsimp only;rw[h];rfl
theorem fO(ha:VE A a (rO (oDR enc)) pl)(hb:VE A b (rV (eT D.int)) pk):VE A (m2 ixA a b) (rV enc) (pl.bind λl=>pk.bind λx=>Aj l x):=Wb ha hb λl x z S n hn q=>RB (seqR hn) (by rw[vP hn x,q];rfl)
theorem sH(l:List (List Int×α))(k:List Int)(v:α)(S:Sto)(n:Nat)(hn:S[n]?=some (oDR enc l))(hl:l.length < 1000000):R7 (.ref n) (eT D.int k) (enc v) S=some (S.set n (oDR enc (CJ l k v))):=by
 unfold R7;dsimp only;rw[hn];show(match On (k.map D.int)with | some ks=>if (l.map _).length < sizeLine then some (S.set n (Ob.dT (CJ (l.map λx:List Int×α=>(kR x.1,enc x.2)) ks (enc v))))else none | none=>none)=_;rw[oS];dsimp only;rw[qX (by rw[AF];exact Z3 hl),Tn iW];rfl
theorem kW(ha:VE A a (rV D.int) p):VE A (bU a) (rV D.int) (p.bind λx=>some (Dp x:Int)):=λv hv S0 e F S hs=>by
 obtain⟨x,h1,h2⟩:=Aw hv;cases h2;obtain⟨d,S',h3,h4,rfl⟩:=ha x h1 S0 e F S hs;refine⟨_,S',?_,h4,rfl⟩;unfold bU;rw[h3];rfl
theorem cW(ha:VE A a (rO (oDK enc)) pl):VE A (GX a) (rN (oL D.int)) (pl.bind λl=>QA l (CF (l.map (·.1)))):=λv hv S0 e F S hs=>by
 obtain⟨l,h1,h2⟩:=Aw hv;obtain⟨Ψ,rfl⟩:=UP h2;obtain⟨d,S',h3,h4,n,rfl,hn⟩:=ha l h1 S0 e F S hs;refine⟨_,_,OL h3 (d:=.ref n) (ds:=(l.map (·.1)).map D.int) ?_ (es:=(CF (l.map (·.1))).map D.int) ?_,h4.trans (Keeps.app _ _),_,rfl,h4.1,FQ _ _⟩
 ·unfold K0
  dsimp only;rw[hn];show some ((l.map _).map _)=_;rw[BF,BF];rfl
 ·unfold LV
  rw[qX (by rw[AF,AF];exact Ψ)];rw[Nq]
theorem fQ(ha:VE A a (rV ea) p)(hb:VE A b (rV (eP eb ec)) q):VE A (m2 Ja (Jx (AN a BL)) b) (rV (eP3 ea eb ec)) (p.bind λx=>q.bind λy=>some (x,y)):=λv hv S0 e F S hs=>by
 obtain⟨x,h1,hv⟩:=Aw hv;obtain⟨y,h2,h3⟩:=Aw hv;cases h3;obtain⟨d1,S1,q1,k1,rfl⟩:=ha x h1 S0 e F S hs;obtain⟨d2,S2,q2,k2,rfl⟩:=hb y h2 S0 e _ S1 (hs.grow k1);exact⟨_,S2,Dc (TN (Cq q1 rfl) (Nat.le_of_ble_eq_true rfl)) q2 rfl,k1.trans k2,rfl⟩
end
section
variable{S0 S S':Sto}{A:List Sl}{e:Lo}{F:Fz}{α β σ:Type}{ob:β->Ob}{a m:ME}
theorem kL{p:Option (Option β)}(h:VE A m (rOL ob) p):VE A (m2 (Q0 false) m (mC .non)) (rV D.bl) (p.bind λo=>some o.isNone):=λv hv S0 e F S hs=>by
 obtain⟨o,h1,h2⟩:=Aw hv;cases h2;obtain⟨d,S',c1,k1,r1⟩:=h o h1 S0 e F S hs
 cases o with
 | none=>cases(show d=.non from r1);exact⟨_,S',Dc c1 rfl rfl,k1,rfl⟩
 | some l=>obtain⟨n,rfl,_⟩:=r1;exact⟨_,S',Dc c1 rfl rfl,k1,rfl⟩
theorem pL{p:Option (Option β)}(h:VE A m (rOL ob) p):VE A (m2 (Q0 true) m (mC .non)) (rV D.bl) (p.bind λo=>some o.isSome):=λv hv S0 e F S hs=>by
 obtain⟨o,h1,h2⟩:=Aw hv;cases h2;obtain⟨d,S',c1,k1,r1⟩:=h o h1 S0 e F S hs
 cases o with
 | none=>cases(show d=.non from r1);exact⟨_,S',Dc c1 rfl rfl,k1,rfl⟩
 | some l=>obtain⟨n,rfl,_⟩:=r1;exact⟨_,S',Dc c1 rfl rfl,k1,rfl⟩
theorem fD{B:σ->List Sl}{t:MT}{pt:Option Bool}{i:Nat}{v:β}(ht:VB A t pt)(hi:A[i]?=some (.y (ob v))):VS A (CZ (UC t (AE i) (mC .non))) (rOL ob) (pt.bind λc=>some (.rt (if c=true then some v else none))) B:=λf hf S0 e F S hs=>by
 obtain⟨c,h1,h2⟩:=Aw hf;cases h2;obtain⟨S1,h3,h4⟩:=ht c h1 S0 e F S hs
 cases c with
 | true=>
  obtain⟨x,g1,n,rfl,g2,g3⟩:=hs.sl i _ hi;exact⟨_,S1,IK (d:=.ref n) ((XA h3).trans (G4 g1)),_,rfl,⟨n,rfl,g3,h4.at (hs.fz _ _ g2)⟩,hs.kp.trans h4⟩
 | false=>exact⟨_,S1,IK (d:=.non) ((XA h3).trans rfl),_,rfl,rfl,hs.kp.trans h4⟩
theorem pT{p:Option Int}(ha:VE A a (rV D.int) p):VE A (mO a) (rV D.int) (p.bind λx=>some (if x < 0 then -x else x)):=λv hv S0 e F S hs=>by
 obtain⟨x,h1,h2⟩:=Aw hv;cases h2;obtain⟨d,S',h3,h4,rfl⟩:=ha x h1 S0 e F S hs;refine⟨_,S',?_,h4,rfl⟩;unfold mO;rw[h3];rfl
theorem fB{enc:α->D}{B:σ->List Sl}{p:Option α}{i k:Nat}{v:β}(ha:VE A m (rV enc) p)(h:A[i]?=some (.w k (ob v))):VS A (CZ (Jx (AN m (AN (AE i) BL)))) (rP enc ob) (p.bind λx=>some (.rt (x,v))) B:=λf hf S0 e F S hs=>by
 obtain⟨x,h1,h2⟩:=Aw hf;cases h2;obtain⟨d1,S1,c1,k1,rfl⟩:=ha x h1 S0 e F S hs;obtain⟨y,g1,n,rfl,g2,g3⟩:=hs.sl i _ h;exact⟨_,S1,IK (TN (Cq c1 (Cq (G4 g1) rfl)) (by simp)),_,rfl,⟨n,rfl,(hs.ow _ _ g2).1,k1.at g3⟩,hs.kp.trans k1⟩
theorem fJ{a b:ME}{pa:Option (List Int)}{pl:Option (List (List Int))}(ha:VE A a (rV (eT D.int)) pa)(hb:VE A b (rO (oL (eT D.int))) pl):VE A (m2 (inA true) a b) (rV D.bl) (pa.bind λx=>pl.bind λl=>some (!Yc x l)):=ZR ha hb λx l z S n hn q=>by
 cases q;rw[XC (enc:=eT D.int) (XN E8) true x (Fm hn)];refine congrArg (λz=>Res.ok (D.bl z) S) ?_;rw[qX rfl];unfold Yc;rw[NP];simp
end
end L4
namespace L2
open PySem PySem.Spec PyProof.Rows
section
variable{P:Bg}{w:CL}{K:AG}{mg:Str->Option AI}{base:Cz}
theorem BO{x qual}{st}{f}{fd}{N ps}{k n}(F:Fun K x qual st f fd)(Sc:BU N ps (Ay st))(hn:ps.length=n){mb}
  (xm:∀(wj:AI) (A:CO) (outer:List Env) (s:AQ) (H:Hp) (E:XK),Hu k (A.deeper (Os qual (Ay st) s.heap.objs.size f wj))->(A.deeper (Os qual (Ay st) s.heap.objs.size f wj)).units+64 < Ey->N.Nodup ->
   GSs (aH (CXG P w) P w K mg base N qual (Ay st) f wj A outer s H E).q noE (JZ st) mb) :
  Cg P w K mg base (CXG P w) (k+1) f fd ps (spM K n (Dq N.length mb)):=mr F Sc hn λwj A outer s H E hr=>xm wj A outer s H E hr hr.units Sc.nd
end
end L2
namespace M
open PySem PySem.Spec PyProof.Rows L2
def top(i:Nat):C2:=oy.main.body.getD i (.Pass ⟨0,0,0,0⟩)
structure Wd where
 Web:AW
 Field:AW
def Wd.excs(W:Wd):List AW:=[]
abbrev Jo:C2:=top 10
abbrev Jk:C2:=top 11
abbrev O2:C2:=Kg (top 9) 0
abbrev HM:C2:=top 12
abbrev Zm:C2:=top 13
abbrev O0:C2:=top 15
abbrev Qk:C2:=top 16
abbrev Qi:C2:=top 17
abbrev Td:C2:=top 18
abbrev Zn:C2:=top 19
abbrev L9:C2:=top 20
abbrev MA:C2:=top 21
abbrev NX:C2:=top 23
abbrev Qh:C2:=top 25
abbrev HN:C2:=top 26
abbrev II:C2:=top 29
abbrev O1:C2:=top 30
abbrev NY:C2:=top 31
abbrev FK:C2:=Kg (top 33) 3
abbrev FL:C2:=Kg (top 33) 4
abbrev MC:C2:=Kg (top 33) 0
abbrev Kw:C2:=Kg (top 33) 1
abbrev Jr:C2:=Kg (top 33) 2
abbrev Js:C2:=Kg (top 33) 5
abbrev Fo:C2:=Kg (top 33) 6
abbrev Kv:C2:=top 35
abbrev Tf:C2:=top 34
abbrev Jm:C2:=top 36
abbrev Qj:C2:=top 37
abbrev Wv:C2:=top 38
abbrev Jn:C2:=top 42
abbrev L8:C2:=top 41
abbrev Ku:C2:=top 40
abbrev Jp:C2:=top 43
abbrev Fn:C2:=top 46
abbrev Jl:C2:=top 47
abbrev Te:C2:=top 48
abbrev Jq:C2:=top 50
abbrev IJ:C2:=top 52
abbrev MB:C2:=top 53
abbrev Na:C2:=top 54
abbrev NZ:C2:=top 55
abbrev bC:C2:=top 56
def Uc(W:Wd):MS:=
  (BK (CP 2 W7)
  (BK (Ez (D0 (AE 1)) (JK 2 (DL (tgN 3) (DL (tgN 4) Jh)))
  (BK (CP 5 (Jx (AN (mQ Vp (AN (AE 3) (AN (AE 4) BL))) (AN (mQ Vr (AN (AE 3) (AN (AE 4) BL))) BL))))
  (BK (sIf (mB (m2 (eqD false) (m2 ixA (AE 5) (mC (.int 0))) (m2 ixA (AE 5) (mC (.int 1))))) Rr sNx)
  (BK (sIf (mOr (mB (m2 ltD (m2 ixA (AE 5) (mC (.int 0))) (mC (.int 0)))) (mB (m2 geD (m2 ixA (AE 5) (mC (.int 1))) (AE 0)))) Rr sNx)
  (BK (sIf (mB (m2 (inA false) (AE 5) (AE 2))) Rr sNx)
  (DE (AE 2) (AE 5) (mC (.bl true))))))))
  (CZ (Gf (GX (AE 2))))))
def Hl(W:Wd):List D->Sto->Res D:=Dq 6 (Uc W)
def N8(W:Wd):MS:=
  (BK (CP 2 (FZ (Eo 1 (iR1 (AN (AE 0) BL)) (tgN 0) HD (FZ (Ha BL)))))
  (BK (Ez (D0 (AE 1)) (JK 2 (DL (tgN 3) (DL (tgN 4) Jh)))
  (BK (Il (P0 (m2 ixA (AE 2) (AE 3)) (AE 4)))
  (Il (P0 (m2 ixA (AE 2) (AE 4)) (AE 3)))))
  (CZ (Gf (FZ (Eo 1 (D0 (AE 2)) (tgN 0) HD (Gf (GX (AE 0)))))))))
def Hi(W:Wd):List D->Sto->Res D:=Dq 5 (N8 W)
def Ud(W:Wd):MS:=
  (BK (sIf (Nn (mB (m3 leD leD (mC (.int 1)) (AE 1) (mC (.int 60))))) Rr sNx)
  (BK (KW W.Web "places" (AE 0) (AE 1))
  (BK (KW W.Web "ties" (AE 0) (Bp 2 (Hl W) (AN (AE 1) (AN (AE 2) BL))))
  (KW W.Web "near_sets" (AE 0) (Bp 2 (Hi W) (AN (AE 1) (AN (DC W.Web "ties" (AE 0)) BL)))))))
def Mj(W:Wd):List D->Sto->Res D:=Dq 3 (Ud W)
def Ho(W:Wd):MS:=
  (sIf (Nn (mB (m3 leD ltD (mC (.int 0)) (AE 1) (DC W.Web "places" (AE 0))))) Rr sNx)
def Hh(W:Wd):List D->Sto->Res D:=Dq 2 (Ho W)
def aO(W:Wd):MS:=
  (BK (Il (Bp 2 (Hh W) (AN (AE 0) (AN (AE 1) BL))))
  (CZ (m2 ixA (DC W.Web "near_sets" (AE 0)) (AE 1))))
def XJ(W:Wd):List D->Sto->Res D:=Dq 2 (aO W)
def PF(W:Wd):MS:=
  (CZ (FZ (Eo 1 (iR1 (AN (DC W.Web "places" (AE 0)) BL)) (tgN 0) HD (Gf (GX (m2 Ja (Jx (AN (AE 0) BL)) (Bp 2 (XJ W) (AN (AE 1) (AN (AE 0) BL)))))))))
def Md(W:Wd):List D->Sto->Res D:=Dq 1 (PF W)
def RG(W:Wd):MS:=
  (BK (CP 1 (mC (.int 0)))
  (BK (Ez (D0 (AE 0)) (tgN 2)
  (Ti 1 (λa b=>Ce a b) (m2 Qe (mC (.int 1)) (AE 2))))
  (CZ (AE 1))))
def Q6(W:Wd):List D->Sto->Res D:=Dq 3 (RG W)
def RE(W:Wd):MS:=
  (BK (CP 1 (FZ (Ha BL)))
  (BK (CP 2 (AE 0))
  (BK (JD (E5 (AE 2)) (BK (Il (P0 (AE 1) (m2 Zd (bU (m2 RH (AE 2) (iJ (AE 2)))) (mC (.int 1)))))
  (Ti 2 (λa b=>BG a b) (m2 Zd (AE 2) (mC (.int 1))))) wN)
  (CZ (AE 1)))))
def IR(W:Wd):List D->Sto->Res D:=Dq 3 (RE W)
def Yv(W:Wd)(fr:List D->Sto->Res D):MS:=
  (BK (CP 5 (FZ (Eo 1 (D0 (m2 ixA (AE 0) (AE 3))) (tgN 0) (R3 (E5 (m2 RH (m2 YA (AE 2) (AE 0)) (mC (.int 1)))) (mB (m2 (inA true) (AE 0) (AE 5)))) (AE 0))))
  (BK (Ez (D0 (AE 5)) (tgN 6)
  (sIf (mB (m2 (inA true) (AE 6) (AE 2))) (BK (DE (AE 2) (AE 6) (AE 3))
  (CZ (mC (.bl true)))) sNx))
  (BK (Ez (D0 (AE 5)) (tgN 6)
  (sIf (mB (m2 (inA true) (AE 6) (AE 4))) (BK (DE (AE 4) (AE 6) (mC (.bl true)))
  (sIf (E5 (Bp 5 fr (AN (AE 0) (AN (AE 1) (AN (AE 2) (AN (m2 ixA (AE 2) (AE 6)) (AN (AE 4) BL))))))) (BK (DE (AE 2) (AE 6) (AE 3))
  (CZ (mC (.bl true)))) sNx)) sNx))
  (CZ (mC (.bl false))))))
def Gz(W:Wd):Nat->List D->Sto->Res D
 | 0=>λ_ _=>.bad
 | n+1=>Dq 7 (Yv W (Gz W n))
def aP(W:Wd):MS:=
  (BK (CP 3 JF)
  (BK (Ez (D0 (AE 1)) (tgN 4)
  (sIf (E5 (m2 RH (m2 YA (AE 2) (AE 4)) (mC (.int 1)))) (DE (AE 3) (AE 4) (AE 4)) sNx))
  (BK (Ez (D0 (AE 1)) (tgN 4)
  (sIf (R3 (Nn (E5 (m2 RH (m2 YA (AE 2) (AE 4)) (mC (.int 1))))) (Nn (E5 (Bp 5 (Gz W 9) (AN (AE 0) (AN (AE 2) (AN (AE 3) (AN (AE 4) (AN JF BL))))))))) (CZ (mC (.bl false))) sNx))
  (CZ (mC (.bl true))))))
def UQ(W:Wd):List D->Sto->Res D:=Dq 5 (aP W)
def Mr(W:Wd):MS:=
  (BK (Ez (D0 (m2 ixA (AE 0) (AE 1))) (tgN 4)
  (BK (CP 5 (m2 Qe (mC (.int 1)) (AE 4)))
  (BK (CP 6 (FZ (Eo 1 (D0 (AE 3)) (tgN 0) (E5 (m2 RH (AE 0) (AE 6))) (m2 pC (AE 0) (AE 6)))))
  (Ez (Jy (AE 6)) (JK 2 (DL (tgN 7) (DL (tgN 8) Jh)))
  (sIf (E5 (Bp 3 (UQ W) (AN (AE 0) (AN (AE 2) (AN (AE 8) BL))))) (CZ (Jx (AN (AE 4) (AN (O8 (AE 6) (Tw (AE 7)) bM) BL)))) sNx)))))
  (CZ (mC .non)))
def Mg(W:Wd):List D->Sto->Res D:=Dq 9 (Mr W)
def Ms(W:Wd):MS:=
  (BK (CP 3 (FZ (Ha BL)))
  (BK (CP 4 (AE 2))
  (BK (Ez (SS (AE 1)) (JK 2 (DL (tgN 5) (DL (tgN 6) Jh)))
  (BK (CP 7 (Bp 4 (Mg W) (AN (AE 0) (AN (AE 6) (AN (SN (AE 1) (Tw (AE 5)) bM) (AN (AE 4) BL))))))
  (BK (sIf (mB (m2 (Q0 false) (AE 7) (mC .non))) (CZ (mC .non)) sNx)
  (BK (Il (P0 (AE 3) (m2 ixA (AE 7) (mC (.int 0)))))
  (CP 4 (m2 ixA (AE 7) (mC (.int 1))))))))
  (CZ (Gf (AE 3))))))
def Mh(W:Wd):List D->Sto->Res D:=Dq 8 (Ms W)
def N6(W:Wd):MS:=
  (CZ (Gf (FZ (Eo 1 (D0 (AE 0)) (tgN 0) HD (UC (mB (m2 (eqD false) (AE 0) (AE 2))) (AE 3) (AE 0))))))
def Nz(W:Wd):List D->Sto->Res D:=Dq 3 (N6 W)
def RD(W:Wd):MS:=
  (BK (CP 2 (FZ (Ha (AN (Jx BL) BL))))
  (BK (Ez (iR1 (AN (AE 1) BL)) (tgN 3)
  (BK (CP 4 (FZ (Ha BL)))
  (BK (Ez (D0 (AE 2)) (tgN 5)
  (BK (CP 6 (UC (E5 (AE 5)) (m2 Ja (m2 ixA (AE 5) (iJ (mC (.int 1)))) (mC (.int 1))) (mC (.int 0))))
  (Ez (iR2 (AN (AE 6) (AN (m2 Ja (m2 Ja (m2 Zd (AE 0) (AE 1)) (AE 3)) (mC (.int 1))) BL))) (tgN 7)
  (Il (P0 (AE 4) (m2 Ja (AE 5) (Jx (AN (AE 7) BL))))))))
  (CP 2 (AE 4)))))
  (CZ (AE 2))))
def Q5(W:Wd):List D->Sto->Res D:=Dq 8 (RD W)
def Hq(W:Wd):MS:=
  (BK (CP 2 JF)
  (BK (Ez (D0 (AE 1)) (tgN 3)
  (BK (DE (AE 2) (AE 3) (mC (.bl true)))
  (Ez (D0 (Bp 2 (XJ W) (AN (AE 0) (AN (AE 3) BL)))) (tgN 4)
  (DE (AE 2) (AE 4) (mC (.bl true))))))
  (BK (Ez (iR1 (AN (DC W.Web "places" (AE 0)) BL)) (tgN 3)
  (sIf (mB (m2 (inA true) (AE 3) (AE 2))) (CZ (AE 3)) sNx))
  (CZ (mC .non)))))
def Hk(W:Wd):List D->Sto->Res D:=Dq 5 (Hq W)
def IT(W:Wd):MS:=
  (BK (CP 2 (mC (.int 1)))
  (BK (Ez (iR1 (AN (AE 1) BL)) (tgN 3)
  (CP 2 (m2 Ny (m2 W5 (AE 2) (m2 Zd (AE 0) (AE 3))) (m2 Ja (AE 3) (mC (.int 1))))))
  (CZ (AE 2))))
def IQ(W:Wd):List D->Sto->Res D:=Dq 4 (IT W)
def PH(W:Wd):MS:=
  (BK (sIf (Nn (mB (m3 leD leD (mC (.int 1)) (AE 1) (DC W.Web "places" (AE 0))))) Rr sNx)
  (CZ (Bp 2 (IQ W) (AN (DC W.Web "places" (AE 0)) (AN (AE 1) BL)))))
def Me(W:Wd):List D->Sto->Res D:=Dq 2 (PH W)
def N7(W:Wd):MS:=
  (BK (sIf (mB (m2 gtD (Bp 2 (Me W) (AN (AE 0) (AN (AE 1) BL))) (mC (.int 400)))) Rr sNx)
  (CZ (Bp 2 (Q5 W) (AN (DC W.Web "places" (AE 0)) (AN (AE 1) BL)))))
def Ki(W:Wd):List D->Sto->Res D:=Dq 2 (N7 W)
def FO(W:Wd):MS:=
  (BK (CP 2 (m2 ixA (DC W.Field "everything" (AE 0)) (AE 1)))
  (BK (CP 3 (mC (.int 0)))
  (BK (Ez (D0 (AE 2)) (tgN 4)
  (Ez (D0 (m2 ixA (DC W.Field "takes" (AE 0)) (AE 4))) (tgN 5)
  (sIf (mB (m2 (inA true) (AE 5) (AE 2))) (Ti 3 (λa b=>Ce a b) (m2 Qe (mC (.int 1)) (m2 ixA (DC W.Field "numbers" (AE 0)) (Gf (GX (Bp 3 (Nz W) (AN (AE 2) (AN (AE 4) (AN (AE 5) BL))))))))) sNx)))
  (CZ (AE 3)))))
def DX(W:Wd):List D->Sto->Res D:=Dq 6 (FO W)
def FP(W:Wd):MS:=
  (BK (CP 2 (m2 ixA (DC W.Field "everything" (AE 0)) (AE 1)))
  (BK (CP 3 (mC (.int 0)))
  (BK (Ez (Jy (DC W.Field "place_bits" (AE 0))) (JK 2 (DL (tgN 4) (DL (tgN 5) Jh)))
  (sIf (E5 (Bp 3 (UQ W) (AN (DC W.Field "takes" (AE 0)) (AN (AE 2) (AN (AE 5) BL))))) (Ti 3 (λa b=>Ce a b) (m2 Qe (mC (.int 1)) (AE 4))) sNx))
  (CZ (AE 3)))))
def DY(W:Wd):List D->Sto->Res D:=Dq 6 (FP W)
def QD(W:Wd):MS:=
  (BK (KW W.Field "everything" (AE 0) (Bp 2 (Ki W) (AN (AE 1) (AN (AE 2) BL))))
  (BK (KW W.Field "kind" (AE 0) (AE 3))
  (BK (KW W.Field "takes" (AE 0) (Bp 1 (Md W) (AN (AE 1) BL)))
  (BK (KW W.Field "numbers" (AE 0) W7)
  (BK (KW W.Field "having" (AE 0) (FZ (Eo 1 (iR1 (AN (DC W.Web "places" (AE 1)) BL)) (tgN 0) HD (mC (.int 0)))))
  (BK (Ez (Jy (DC W.Field "everything" (AE 0))) (JK 2 (DL (tgN 4) (DL (tgN 5) Jh)))
  (BK (DE (DC W.Field "numbers" (AE 0)) (AE 5) (AE 4))
  (Ez (D0 (AE 5)) (tgN 6)
  (YG (λa b=>Ce a b) (DC W.Field "having" (AE 0)) (AE 6) (m2 Qe (mC (.int 1)) (AE 4))))))
  (BK (KW W.Field "place_bits" (AE 0) (FZ (Eo 1 (D0 (DC W.Field "everything" (AE 0))) (tgN 0) HD (Bp 1 (Q6 W) (AN (AE 0) BL)))))
  (KW W.Field "known" (AE 0) JF))))))))
def LD(W:Wd):List D->Sto->Res D:=Dq 7 (QD W)
def LM(W:Wd)(ds:List D)(S:Sto)(k:Key):Int:=match ds,k with
 | .ref q :: _,.inl n=>lmI (if sC "kind" q S=some ("one" : Str)then DX W [.ref q,.int n] S else DY W [.ref q,.int n] S)
 | _,_=>0
def E7(W:Wd):List D->Sto->Res D:=mK "known" (LM W) (LD W)
def LJ(W:Wd):MS:=
  (BK (CP 2 (m2 ixA (DC W.Field "everything" (AE 0)) (AE 1)))
  (CZ (FZ (Eo 1 (iR1 (AN (Qv (DC W.Field "takes" (AE 0))) BL)) (tgN 0) (mB (m2 (inA true) (AE 0) (AE 3))) (AE 0)))))
def Ih(W:Wd):List D->Sto->Res D:=Dq 3 (LJ W)
def J9(W:Wd):MS:=
  (BK (sIf (mB (m2 (inA true) (AE 1) (DC W.Field "known" (AE 0)))) (DE (DC W.Field "known" (AE 0)) (AE 1) (UC (mB (m2 (eqD false) (DC W.Field "kind" (AE 0)) (mC (.str "one")))) (Kf W.Field "linked_by_one" 2 (DX W) (AE 0) (AN (AE 1) BL)) (Kf W.Field "linked_by_all" 2 (DY W) (AE 0) (AN (AE 1) BL)))) sNx)
  (CZ (m2 ixA (DC W.Field "known" (AE 0)) (AE 1))))
def JH(W:Wd):List D->Sto->Res D:=Dq 2 (J9 W)
def Hm(W:Wd):List D->Sto->Res D:=nR "known" (JH W)
def KA(W:Wd):MS:=
  (CZ (m2 RH (Kf W.Field "linked" 2 (Hm W) (AE 0) (AN (AE 1) BL)) (m2 ixA (DC W.Field "having" (AE 0)) (AE 2))))
def Hn(W:Wd):List D->Sto->Res D:=Dq 3 (KA W)
def GF(W:Wd):MS:=
  (BK (CP 4 (m2 ixA (DC W.Field "everything" (AE 0)) (AE 1)))
  (BK (sIf (mB (m2 (eqD false) (DC W.Field "kind" (AE 0)) (mC (.str "all")))) (CZ (Bp 3 (Mh W) (AN (DC W.Field "takes" (AE 0)) (AN (AE 4) (AN (FZ (Eo 1 (D0 (Bp 1 (IR W) (AN (AE 3) BL))) (tgN 0) HD (m2 ixA (DC W.Field "place_bits" (AE 1)) (AE 0)))) BL))))) sNx)
  (BK (CP 5 (FZ (Ha BL)))
  (BK (Ez (D0 (Bp 1 (IR W) (AN (AE 3) BL))) (tgN 6)
  (Il (P0 (AE 5) (Gf (FZ (Eo 1 (D0 (AE 4)) (tgN 0) HD (UC (mB (m2 (inA false) (AE 0) (m2 ixA (DC W.Field "everything" (AE 1)) (AE 7)))) (AE 0) (AE 3))))))))
  (CZ (mQ Zw (Rz (AE 5))))))))
def GB(W:Wd):List D->Sto->Res D:=Dq 7 (GF W)
def LI(W:Wd):MS:=
  (BK (CP 2 JF)
  (BK (Ez (D0 (Bp 1 (IR W) (AN (AE 1) BL))) (tgN 3)
  (BK (CP 4 (FZ (Eo 1 (D0 (Kf W.Field "calls" 2 (Ih W) (AE 0) (AN (AE 3) BL))) (tgN 0) (mB (m2 (eqD false) (m2 RH (Kf W.Field "behind" 3 (Hn W) (AE 1) (AN (AE 4) (AN (AE 0) BL))) (AE 2)) (mC (.int 0)))) (AE 0))))
  (sIf (E5 (AE 4)) (DE (AE 2) (AE 3) (m2 ixA (AE 4) (mC (.int 0)))) sNx)))
  (CZ (AE 2))))
def Ig(W:Wd):List D->Sto->Res D:=Dq 5 (LI W)
def Ub(W:Wd):MS:=
  (BK (CP 1 JF)
  (BK (CP 2 (m2 Zd (m2 Qe (mC (.int 1)) (Qv (DC W.Field "everything" (AE 0)))) (mC (.int 1))))
  (BK (CP 3 (mC (.int 1)))
  (BK (CP 4 (Bp 2 (Ig W) (AN (AE 0) (AN (AE 2) BL))))
  (BK (JD (E5 (AE 4)) (BK (BK (sFz 4) (Ez (be (AE 4)) (tgN 5)
  (BK (DE (AE 1) (AE 5) (Jx (AN (AE 3) (AN (m2 ixA (AE 4) (AE 5)) BL))))
  (Ti 2 (λa b=>CC a b) (m2 Qe (mC (.int 1)) (AE 5))))))
  (BK (Ti 3 (λa b=>a+b) (mC (.int 1)))
  (CP 4 (Bp 2 (Ig W) (AN (AE 0) (AN (AE 2) BL)))))) wN)
  (CZ (AE 1)))))))
def N0(W:Wd):List D->Sto->Res D:=Dq 6 (Ub W)
def J5(W:Wd):MS:=
  (CZ (mM (FZ (Eo 1 (iR1 (AN (Qv (DC W.Field "everything" (AE 0))) BL)) (tgN 0) (mB (m2 (inA true) (AE 0) (AE 2))) (m2 Qe (mC (.int 1)) (AE 0))))))
def Hj(W:Wd):List D->Sto->Res D:=Dq 2 (J5 W)
def RF(W:Wd):MS:=
  (BK (CP 3 (Ol W.Field 4 (E7 W) (AN (AE 0) (AN (AE 1) (AN (AE 2) BL)))))
  (CZ (FZ (Eo 1 (D0 (Bp 1 (IR W) (AN (Bp 2 (Hj W) (AN (AE 3) (AN (Bp 1 (N0 W) (AN (AE 3) BL)) BL))) BL))) (tgN 0) HD (m2 ixA (DC W.Field "everything" (AE 4)) (AE 0))))))
def Je(W:Wd):List D->Sto->Res D:=Dq 4 (RF W)
def XX(W:Wd):MS:=
  (BK (CP 3 (Ol W.Field 4 (E7 W) (AN (AE 0) (AN (AE 1) (AN (AE 2) BL)))))
  (BK (CP 4 (Bp 1 (N0 W) (AN (AE 3) BL)))
  (CZ (FZ (Eo 1 (D0 (GX (AE 4))) (tgN 0) HD (m2 Ja (Jx (AN (m2 ixA (DC W.Field "everything" (AE 4)) (AE 0)) BL)) (m2 ixA (AE 5) (AE 0))))))))
def XM(W:Wd):List D->Sto->Res D:=Dq 5 (XX W)
def J6(W:Wd):MS:=
  (CZ (Kf W.Field "first_answer" 4 (GB W) (AE 0) (AN (AE 1) (AN (AE 2) (AN (m2 RH (Kf W.Field "behind" 3 (Hn W) (AE 0) (AN (AE 1) (AN (AE 2) BL))) (AE 3)) BL)))))
def J2(W:Wd):List D->Sto->Res D:=Dq 4 (J6 W)
def Mq(W:Wd):MS:=
  (CZ (Gf (FZ (Eo 1 (D0 (Kf W.Field "calls" 2 (Ih W) (AE 0) (AN (AE 1) BL))) (tgN 0) HD (Jx (AN (AE 0) (AN (Bp 4 (J2 W) (AN (AE 1) (AN (AE 2) (AN (AE 0) (AN (AE 3) BL))))) BL)))))))
def Mf(W:Wd):List D->Sto->Res D:=Dq 3 (Mq W)
def LH(W:Wd):MS:=
  (BK (CP 3 (Ol W.Field 4 (E7 W) (AN (AE 0) (AN (AE 1) (AN (AE 2) BL)))))
  (BK (CP 4 (Bp 2 (Hj W) (AN (AE 3) (AN (Bp 1 (N0 W) (AN (AE 3) BL)) BL))))
  (BK (sIf (mB (m2 (eqD false) (AE 4) (mC (.int 0)))) (CZ (mC .non)) sNx)
  (CZ (FZ (Eo 1 (D0 (Bp 1 (IR W) (AN (AE 4) BL))) (tgN 0) HD (Jx (AN (m2 ixA (DC W.Field "everything" (AE 4)) (AE 0)) (AN (Bp 3 (Mf W) (AN (AE 4) (AN (AE 0) (AN (AE 5) BL)))) BL)))))))))
def LC(W:Wd):List D->Sto->Res D:=Dq 5 (LH W)
def J7(W:Wd):MS:=
  (BK (CP 3 (Bp 3 (XM W) (AN (AE 0) (AN (AE 1) (AN (AE 2) BL)))))
  (CZ (UC (mB (m2 (eqD false) (Qv (AE 3)) (Bp 2 (Me W) (AN (AE 0) (AN (AE 1) BL))))) (AE 3) (mC .non))))
def J3(W:Wd):List D->Sto->Res D:=Dq 4 (J7 W)
def GD(W:Wd):MS:=
  (sIf (mB (m2 gtD (DC W.Web "places" (AE 0)) (mC (.int 8)))) Rr sNx)
def Fy(W:Wd):List D->Sto->Res D:=Dq 1 (GD W)
def J4(W:Wd):MS:=
  (BK (Ez (iR2 (AN (mC (.int 1)) (AN (DC W.Web "places" (AE 0)) BL))) (tgN 2)
  (sIf (E5 (Bp 3 (Je W) (AN (AE 0) (AN (AE 2) (AN (AE 1) BL))))) (CZ (AE 2)) sNx))
  (CZ (DC W.Web "places" (AE 0))))
def J1(W:Wd):List D->Sto->Res D:=Dq 3 (J4 W)
def Ua(W:Wd):MS:=
  (BK (Il (Bp 1 (Fy W) (AN (AE 0) BL)))
  (CZ (Bp 2 (J1 W) (AN (AE 0) (AN (AE 1) BL)))))
def UR(W:Wd):List D->Sto->Res D:=Dq 2 (Ua W)
def J8(W:Wd):MS:=
  (BK (sIf (mB (m2 ltD (AE 1) (Qv (AE 0)))) (CZ (m2 ixA (AE 0) (AE 1))) sNx)
  (CZ (mC (.int 0))))
def F9(W:Wd):List D->Sto->Res D:=Dq 2 (J8 W)
def IU(W:Wd):MS:=
  (BK (CP 2 (Bp 2 (F9 W) (AN (AE 0) (AN (mC (.int 0)) BL))))
  (BK (CP 3 (m2 Ja (mC (.int 1)) (m2 Qu (AE 2) (AE 1))))
  (BK (CP 4 (FZ (Ha BL)))
  (BK (CP 5 (Bp 2 (F9 W) (AN (AE 0) (AN (mC (.int 1)) BL))))
  (BK (CP 6 (mO (AE 5)))
  (BK (Ez (D0 (O8 (AE 0) (Tw (mC (.int 2))) (Tw (mC (.int 12))))) (tgN 7)
  (CP 5 (m2 Ja (m2 W5 (AE 5) (mC (.int 3))) (m2 Ny (AE 7) (mC (.int 2))))))
  (BK (CP 5 (m2 Qu (m2 W5 (m2 Qu (AE 5) (mC (.int 1000000007))) (mC (.int 48271))) (mC (.int 998244353))))
  (BK (CP 8 (m2 Qu (m2 Ny (AE 2) (AE 1)) (mC (.int 3))))
  (BK (Ez (iR2 (AN (mC (.int 1)) (AN (AE 3) BL))) (tgN 9)
  (Ez (iR1 (AN (AE 9) BL)) (tgN 10)
  (BK (CP 5 (m2 Ja (m2 Ja (m2 Ja (m2 Qu (m2 W5 (AE 5) (AE 5)) (mC (.int 1000000007))) (m2 W5 (mC (.int 12)) (AE 9))) (AE 10)) (mC (.int 1))))
  (BK (CP 11 (m2 leD (m2 Qu (m2 Ny (AE 5) (mC (.int 7))) (mC (.int 4))) (AE 8)))
  (BK (sIf (mB (m2 (eqD false) (m2 Qu (m2 Ny (m2 Ny (AE 2) (AE 1)) (mC (.int 3))) (mC (.int 2))) (mC (.int 1)))) (BK (CP 11 (m2 (eqD false) (m2 Qu (AE 6) (mC (.int 2))) (mC (.int 1))))
  (CP 6 (m2 Ny (AE 6) (mC (.int 2))))) sNx)
  (sIf (E5 (AE 11)) (Il (P0 (AE 4) (Jx (AN (AE 10) (AN (AE 9) BL))))) sNx))))))
  (CZ (Jx (AN (AE 3) (AN (AE 4) BL)))))))))))))
def IS(W:Wd):List D->Sto->Res D:=Dq 12 (IU W)
def Mt(W:Wd):MS:=
  (CZ (Gf (GX (m2 Ja (AE 0) (Jx (AN (AE 1) BL))))))
def Mi(W:Wd):List D->Sto->Res D:=Dq 2 (Mt W)
def OA(W:Wd):MS:=
  (BK (Ez (D0 (AE 1)) (tgN 3)
  (Ez (iR1 (AN (AE 0) BL)) (tgN 4)
  (sIf (R3 (mB (m2 (inA true) (AE 4) (AE 3))) (mB (m2 (inA true) (Bp 2 (Mi W) (AN (AE 3) (AN (AE 4) BL))) (AE 2)))) (CZ (mC (.bl false))) sNx)))
  (CZ (mC (.bl true))))
def N1(W:Wd):List D->Sto->Res D:=Dq 5 (OA W)
def N9(W:Wd):MS:=
  (BK (CP 2 (FZ (Ha BL)))
  (BK (Ez (iR2 (AN (mC (.int 1)) (AN (m2 Ja (DC W.Web "places" (AE 0)) (mC (.int 1))) BL))) (tgN 3)
  (BK (CP 4 (Bp 3 (Je W) (AN (AE 0) (AN (AE 3) (AN (AE 1) BL)))))
  (BK (sIf (Nn (E5 (Bp 3 (N1 W) (AN (DC W.Web "places" (AE 0)) (AN (AE 2) (AN (AE 4) BL)))))) (CZ (mC (.bl false))) sNx)
  (BK (sIf (Nn (mB (mQ jW (Rz (FZ (Eo 1 (D0 (AE 4)) (tgN 0) HD (m2 (Q0 false) (Bp 2 (Hk W) (AN (AE 1) (AN (AE 0) BL))) (mC .non)))))))) (CZ (mC (.bl false))) sNx)
  (BK (sIf (mB (m2 (eqD true) (m2 ltD (AE 3) (Bp 2 (UR W) (AN (AE 0) (AN (AE 1) BL)))) (m2 (eqD false) (AE 4) (FZ (Ha BL))))) (CZ (mC (.bl false))) sNx)
  (BK (sIf (mB (m2 (eqD true) (m2 (Q0 false) (Bp 3 (LC W) (AN (AE 0) (AN (AE 3) (AN (AE 1) BL)))) (mC .non)) (m2 (Q0 true) (Bp 3 (J3 W) (AN (AE 0) (AN (AE 3) (AN (AE 1) BL)))) (mC .non)))) (CZ (mC (.bl false))) sNx)
  (CP 2 (AE 4))))))))
  (CZ (m2 (eqD false) (Qv (AE 2)) (mC (.int 1))))))
def Kj(W:Wd):List D->Sto->Res D:=Dq 5 (N9 W)
def jS(W:Wd):MS:=
  (BK (c8 (Bp 2 (IS W) (AN (AE 0) (AN (m2 Ja (mC (.int 5)) (mN (m2 (eqD false) (m2 Qu (Bp 2 (F9 W) (AN (AE 0) (AN (mC (.int 2)) BL))) (mC (.int 4))) (mC (.int 1))))) BL))) (JK 2 (DL (tgN 1) (DL (tgN 2) Jh))))
  (BK (CP 3 (Ol W.Web 3 (Mj W) (AN (AE 1) (AN (AE 2) BL))))
  (BK (sIf (mOr (Nn (E5 (Bp 2 (Kj W) (AN (AE 3) (AN (mC (.str "one")) BL))))) (Nn (E5 (Bp 2 (Kj W) (AN (AE 3) (AN (mC (.str "all")) BL)))))) (CZ (mC (.bl false))) sNx)
  (BK (Ez (iR2 (AN (mC (.int 1)) (AN (m2 Ja (AE 1) (mC (.int 1))) BL))) (tgN 4)
  (BK (CP 5 (Bp 3 (Je W) (AN (AE 3) (AN (AE 4) (AN (mC (.str "all")) BL)))))
  (sIf (Nn (mB (mQ jW (Rz (FZ (Eo 1 (D0 (Bp 3 (Je W) (AN (AE 3) (AN (AE 4) (AN (mC (.str "one")) BL))))) (tgN 0) HD (m2 (inA false) (AE 0) (AE 6)))))))) (CZ (mC (.bl false))) sNx)))
  (CZ (mC (.bl true)))))))
def bo(W:Wd):List D->Sto->Res D:=Dq 6 (jS W)
structure Txt(K:AG)(mg:Str->Option AI)(W:Wd) where
 d_checked_ties:Dfn K mg "checked_ties" "checked_ties" Jo ["places", "ties"]
 d_near_sets_of:Dfn K mg "near_sets_of" "near_sets_of" Jk ["places", "ties"]
 d_Web_init:Mtd K "__init__" "Web.__init__" O2 ["self", "places", "ties"]
 d_refuse_no_place:Dfn K mg "refuse_no_place" "refuse_no_place" HM ["web", "place"]
 d_near:Dfn K mg "near" "near" Zm ["web", "place"]
 d_takes_of:Dfn K mg "takes_of" "takes_of" O0 ["web"]
 d_bits_of:Dfn K mg "bits_of" "bits_of" Qk ["some"]
 d_members:Dfn K mg "members" "members" Qi ["bits"]
 d_settle:Dfn K mg "settle" "settle" Td ["takes", "bits", "holders", "guard", "seen"]
 d_fits:Dfn K mg "fits" "fits" Zn ["takes", "guards", "bits"]
 d_first_step:Dfn K mg "first_step" "first_step" L9 ["takes", "guard", "rest", "wanted"]
 d_first_into:Dfn K mg "first_into" "first_into" MA ["takes", "guards", "wanted"]
 d_with_step:Dfn K mg "with_step" "with_step" NX ["standing", "guard", "place"]
 d_sets_of:Dfn K mg "sets_of" "sets_of" Qh ["places", "size"]
 d_first_unwatched:Dfn K mg "first_unwatched" "first_unwatched" HN ["web", "some"]
 d_ways_to_choose:Dfn K mg "ways_to_choose" "ways_to_choose" II ["places", "size"]
 d_how_many:Dfn K mg "how_many" "how_many" O1 ["web", "guards"]
 d_standings:Dfn K mg "standings" "standings" NY ["web", "guards"]
 d_Field_linked_by_one:Mtd K "linked_by_one" "Field.linked_by_one" FK ["self", "number"]
 d_Field_linked_by_all:Mtd K "linked_by_all" "Field.linked_by_all" FL ["self", "number"]
 d_Field_init:Mtd K "__init__" "Field.__init__" MC ["self", "web", "guards", "kind"]
 d_Field_calls:Mtd K "calls" "Field.calls" Kw ["self", "number"]
 d_Field_linked:Mtd K "linked" "Field.linked" Jr ["self", "number"]
 d_Field_behind:Mtd K "behind" "Field.behind" Js ["self", "number", "call"]
 d_Field_first_answer:Mtd K "first_answer" "Field.first_answer" Fo ["self", "number", "call", "wanted"]
 d_falling_now:Dfn K mg "falling_now" "falling_now" Kv ["field", "left"]
 d_fallen:Dfn K mg "fallen" "fallen" Tf ["field"]
 d_lasting_bits:Dfn K mg "lasting_bits" "lasting_bits" Jm ["field", "gone"]
 d_lasting:Dfn K mg "lasting" "lasting" Qj ["web", "guards", "kind"]
 d_falls:Dfn K mg "falls" "falls" Wv ["web", "guards", "kind"]
 d_guide_answer:Dfn K mg "guide_answer" "guide_answer" Jn ["field", "number", "call", "kept"]
 d_guide_rows:Dfn K mg "guide_rows" "guide_rows" L8 ["field", "number", "kept"]
 d_guide_paper:Dfn K mg "guide_paper" "guide_paper" Ku ["web", "guards", "kind"]
 d_caller_paper:Dfn K mg "caller_paper" "caller_paper" Jp ["web", "guards", "kind"]
 d_refuse_many_places:Dfn K mg "refuse_many_places" "refuse_many_places" Fn ["web"]
 d_least_guards:Dfn K mg "least_guards" "least_guards" Jl ["web", "kind"]
 d_fewest:Dfn K mg "fewest" "fewest" Te ["web", "kind"]
 d__law_cell_at:Dfn K mg "_law_cell_at" "_law_cell_at" Jq ["script", "k"]
 d__law_small_web:Dfn K mg "_law_small_web" "_law_small_web" IJ ["script", "most"]
 d__law_grown:Dfn K mg "_law_grown" "_law_grown" MB ["standing", "place"]
 d__law_kept:Dfn K mg "_law_kept" "_law_kept" Na ["places", "ones", "more"]
 d__law_kind:Dfn K mg "_law_kind" "_law_kind" NZ ["web", "kind"]
 d_law:Dfn K mg "law" "law" bC ["script"]
 c_Web:Own K mg "Web" W.Web d_Web_init.f
 n_Web_places:FR K W.Web "places"
 n_Web_ties:FR K W.Web "ties"
 n_Web_near_sets:FR K W.Web "near_sets"
 c_Field:Own K mg "Field" W.Field d_Field_init.f
 n_Field_everything:FR K W.Field "everything"
 n_Field_kind:FR K W.Field "kind"
 n_Field_takes:FR K W.Field "takes"
 n_Field_numbers:FR K W.Field "numbers"
 n_Field_having:FR K W.Field "having"
 n_Field_place_bits:FR K W.Field "place_bits"
 n_Field_known:FR K W.Field "known"
 m_Field_linked_by_one:VV K W.Field "linked_by_one" d_Field_linked_by_one.f
 m_Field_linked_by_all:VV K W.Field "linked_by_all" d_Field_linked_by_all.f
 m_Field_calls:VV K W.Field "calls" d_Field_calls.f
 m_Field_linked:VV K W.Field "linked" d_Field_linked.f
 m_Field_behind:VV K W.Field "behind" d_Field_behind.f
 m_Field_first_answer:VV K W.Field "first_answer" d_Field_first_answer.f
 b_abs:mg "abs" = none
 b_all:mg "all" = none
 b_enumerate:mg "enumerate" = none
 b_int:mg "int" = none
 b_len:mg "len" = none
 b_max:mg "max" = none
 b_min:mg "min" = none
 b_range:mg "range" = none
 b_sorted:mg "sorted" = none
 b_sum:mg "sum" = none
 b_tuple:mg "tuple" = none
 g_MOST_PLACES:∃tk,mg "MOST_PLACES" = some (.int 60 tk)
 g_MOST_STANDINGS:∃tk,mg "MOST_STANDINGS" = some (.int 400 tk)
 g_MOST_PLACES_GUARDED:∃tk,mg "MOST_PLACES_GUARDED" = some (.int 8 tk)
section
variable{P:Bg}{w:CL}{K:AG}{mg:Str->Option AI}{base:Cz}{W:Wd}
theorem Rj:BU ["places", "ties", "found", "one", "other", "tie"] ["places", "ties"] (Ay Jo):=Ek
theorem Rw(T:Txt K mg W):Cg P w K mg base (CXG P w) 1 T.d_checked_ties.f T.d_checked_ties.fd ["places", "ties"] (spM K 2 (Hl W)):=by
 refine BO (k:=0) T.d_checked_ties.F Rj rfl λ_ _ _ _ _ _ hr hu nd=>?_
 exact(AR (CK 2 nd Yl)
  (AR (Cn (good_none rfl).own rfl (Cu (AA (pv 1))) (PB rfl (Ef (By 3 nd) (Ef (By 4 nd) Ma)))
  (AR (CK 5 nd (JG (AH (mZ rfl rfl T.b_min (AH (AA (pv 3)) (AH (AA (pv 4)) Ao))) (AH (md rfl rfl T.b_max (AH (AA (pv 3)) (AH (AA (pv 4)) Ao))) Ao))))
  (AR (D1 (FM (M1 hu) (EO hu (AA (pv 5)) ge_int) (EO hu (AA (pv 5)) ge_int) (Dw _)) (AX Io) CA)
  (AR (D1 (ie (oW (FM bL (EO hu (AA (pv 5)) ge_int) ge_int (Dw _)) (ic (FM uj (EO hu (AA (pv 5)) ge_int) (AA (pv 0)) (Dw _))))) (AX Io) CA)
  (AR (D1 (oX hu (AA (pv 5)) (AA (pv 2))) (AX Io) CA)
  (AX (Hg (Au (CI (by decide:1<=64) _) hu) (AA (pv 2)) (AA (pv 5)) ID rfl)))))))
  (AX (Bc (Gx rfl T.b_tuple (Jd rfl rfl T.b_sorted (AA (pv 2))))))))
theorem Rf:BU ["places", "ties", "rows", "one", "other"] ["places", "ties"] (Ay Jk):=Ek
theorem Rt(T:Txt K mg W):Cg P w K mg base (CXG P w) 1 T.d_near_sets_of.f T.d_near_sets_of.fd ["places", "ties"] (spM K 2 (Hi W)):=by
 refine BO (k:=0) T.d_near_sets_of.F Rf rfl λ_ _ _ _ _ _ hr hu nd=>?_
 exact(AR (SU (i:=2) (own:=["place"]) (N':=["place", "·1", "·2", "·3", "·4", "·5"]) rfl rfl nd rfl (by first | exact RI rfl | exact PP rfl) (D7 (by kernel_rfl)) (FG rfl T.b_range (AH (AA (pv 0)) Ao)) (λ_ _ _ _ _ _=>(By 0 (by decide +kernel:(["place", "·1", "·2", "·3", "·4", "·5"]:List Str).Nodup))) (λ_ _ _ _ _ _=>Ee) (λ_ _ _ _ _ _=>(D6 (MZ Ao))))
  (AR (Cn (good_none rfl).own rfl (Cu (AA (pv 1))) (PB rfl (Ef (By 3 nd) (Ef (By 4 nd) Ma)))
  (AR (JY (IP (EO hu (AA (pv 2)) (AA (pv 3))) (AA (pv 4))))
  (AX (JY (IP (EO hu (AA (pv 2)) (AA (pv 4))) (AA (pv 3)))))))
  (AX (Bc (Gx rfl T.b_tuple (D6 (E6 (own:=["row"]) (N':=["row", "·1", "·2", "·3", "·4", "·5"]) rfl (D7 (by kernel_rfl)) (Cu (AA (pv 2))) (λ_ _ _ _ _ _=>(By 0 (by decide +kernel:(["row", "·1", "·2", "·3", "·4", "·5"]:List Str).Nodup))) (λ_ _ _ _ _ _=>Ee) (λ_ _ _ _ _ _=>(Gx rfl T.b_tuple (Jd rfl rfl T.b_sorted (AA (pv 0))))))))))))
theorem YF:BU ["self", "places", "ties"] ["self", "places", "ties"] (Ay O2):=Ek
theorem YV(T:Txt K mg W):Cg P w K mg base (CXG P w) 2 T.d_Web_init.f T.d_Web_init.fd ["self", "places", "ties"] (spM K 3 (Mj W)):=by
 refine BO (k:=1) T.d_Web_init.F YF rfl λ_ _ _ _ _ _ hr hu nd=>?_
 exact(AR (D1 (K5 (UM Vm Vm ge_int (AA (pv 1)) (UN rfl T.g_MOST_PLACES.choose_spec))) (AX Io) CA)
  (AR (K6 T.c_Web.cl T.n_Web_places (AA (pv 0)) (AA (pv 1)) rfl)
  (AR (K6 T.c_Web.cl T.n_Web_ties (AA (pv 0)) (gcl T.d_checked_ties (Rw T) hr (AH (AA (pv 1)) (AH (AA (pv 2)) Ao))) rfl)
  (AX (K6 T.c_Web.cl T.n_Web_near_sets (AA (pv 0)) (gcl T.d_near_sets_of (Rt T) hr (AH (AA (pv 1)) (AH (CG T.c_Web.cl T.n_Web_ties (AA (pv 0)) rfl) Ao))) rfl)))))
theorem Oy:BU ["web", "place"] ["web", "place"] (Ay HM):=Ek
theorem O4(T:Txt K mg W):Cg P w K mg base (CXG P w) 1 T.d_refuse_no_place.f T.d_refuse_no_place.fd ["web", "place"] (spM K 2 (Hh W)):=by
 refine BO (k:=0) T.d_refuse_no_place.F Oy rfl λ_ _ _ _ _ _ hr hu nd=>?_
 exact(AX (D1 (K5 (UM Vm bL ge_int (AA (pv 1)) (CG T.c_Web.cl T.n_Web_places (AA (pv 0)) rfl))) (AX Io) CA))
theorem kz:BU ["web", "place"] ["web", "place"] (Ay Zm):=Ek
theorem bJ(T:Txt K mg W):Cg P w K mg base (CXG P w) 2 T.d_near.f T.d_near.fd ["web", "place"] (spM K 2 (XJ W)):=by
 refine BO (k:=1) T.d_near.F kz rfl λ_ _ _ _ _ _ hr hu nd=>?_
 exact(AR (JY (gcl T.d_refuse_no_place (O4 T) hr (AH (AA (pv 0)) (AH (AA (pv 1)) Ao))))
  (AX (Bc (EO hu (CG T.c_Web.cl T.n_Web_near_sets (AA (pv 0)) rfl) (AA (pv 1))))))
theorem YD:BU ["web"] ["web"] (Ay O0):=Ek
theorem YU(T:Txt K mg W):Cg P w K mg base (CXG P w) 3 T.d_takes_of.f T.d_takes_of.fd ["web"] (spM K 1 (Md W)):=by
 refine BO (k:=2) T.d_takes_of.F YD rfl λ_ _ _ _ _ _ hr hu nd=>?_
 exact(AX (Bc (D6 (E6 (own:=["place"]) (N':=["place", "web"]) rfl (D7 (by kernel_rfl)) (FG rfl T.b_range (AH (CG T.c_Web.cl T.n_Web_places (AA (pv 0)) rfl) Ao)) (λ_ _ _ _ _ _=>(By 0 (by decide +kernel:(["place", "web"]:List Str).Nodup))) (λ_ _ _ _ _ _=>Ee) (λ_ _ _ _ _ _=>(Gx rfl T.b_tuple (Jd rfl rfl T.b_sorted (BP Ge (JG (AH (AA (pv 0)) Ao)) (gcl T.d_near (bJ T) hr (AH (AA (pv 1)) (AH (AA (pv 0)) Ao)))))))))))
theorem Zl:BU ["some", "bits", "place"] ["some"] (Ay Qk):=Ek
theorem Zs(T:Txt K mg W):Cg P w K mg base (CXG P w) 1 T.d_bits_of.f T.d_bits_of.fd ["some"] (spM K 1 (Q6 W)):=by
 refine BO (k:=0) T.d_bits_of.F Zl rfl λ_ _ _ _ _ _ hr hu nd=>?_
 exact(AR (CK 1 nd ge_int)
  (AR (Cn (good_none rfl).own rfl (Cu (AA (pv 0))) (By 2 nd)
  (AX (Vv 1 nd bd (BP Ni ge_int (AA (pv 2))))))
  (AX (Bc (AA (pv 1))))))
theorem Zj:BU ["bits", "told", "left"] ["bits"] (Ay Qi):=Ek
theorem Jw(T:Txt K mg W):Cg P w K mg base (CXG P w) 1 T.d_members.f T.d_members.fd ["bits"] (spM K 1 (IR W)):=by
 refine BO (k:=0) T.d_members.F Zj rfl λ_ _ _ _ _ _ hr hu nd=>?_
 exact(AR (CK 1 nd (D6 (MZ Ao)))
  (AR (CK 2 nd (AA (pv 0)))
  (AR (Yj wN (good_none rfl).own (Dm (AA (pv 2))) (AR (JY (IP (AA (pv 1)) (BP Tu (mj (BP Nj (AA (pv 2)) (io (AA (pv 2))))) ge_int)))
  (AX (Vv 2 nd rK (BP Tu (AA (pv 2)) ge_int)))))
  (AX (Bc (AA (pv 1)))))))
theorem cy:BU ["takes", "bits", "holders", "guard", "seen", "wanted", "place"] ["takes", "bits", "holders", "guard", "seen"] (Ay Td):=Ek
theorem Vl(T:Txt K mg W):∀n:Nat,Cg P w K mg base (CXG P w) (0+n) T.d_settle.f T.d_settle.fd ["takes", "bits", "holders", "guard", "seen"] (spM K 5 (Gz W n))
 | 0=>sA
 | n+1=>by
  refine BO (k:=0+n) T.d_settle.F cy rfl λ_ _ _ _ _ _ hr hu nd=>?_
  exact(AR (SU (i:=5) (own:=["place"]) (N':=["place", "·1", "bits", "·3", "·4", "seen", "·6", "·7"]) rfl rfl nd rfl (by first | exact RI rfl | exact PP rfl) (D7 (by kernel_rfl)) (Cu (EO hu (AA (pv 0)) (AA (pv 3)))) (λ_ _ _ _ _ _=>(By 0 (by decide +kernel:(["place", "·1", "bits", "·3", "·4", "seen", "·6", "·7"]:List Str).Nodup))) (λ_ _ _ _ _ _=>(Nt (ie (aA (Dm (BP Nj (BP Zt (AA (pv 2)) (AA (pv 0))) ge_int)) (XF (Gw hu (AA (pv 0)) (AA (pv 5)))))))) (λ_ _ _ _ _ _=>(AA (pv 0))))
  (AR (Cn (good_none rfl).own rfl (Cu (AA (pv 5))) (By 6 nd)
  (AX (D1 (Gw hu (AA (pv 6)) (AA (pv 2))) (AR (Hg (Au (CI (by decide:1<=64) _) hu) (AA (pv 2)) (AA (pv 6)) (AA (pv 3)) rfl)
  (AX (Bc ID))) CA)))
  (AR (Cn (good_none rfl).own rfl (Cu (AA (pv 5))) (By 6 nd)
  (AX (D1 (Gw hu (AA (pv 6)) (AA (pv 4))) (AR (Hg (Au (CI (by decide:1<=64) _) hu) (AA (pv 4)) (AA (pv 6)) ID rfl)
  (AX (D1 (Dm (XI (Vl T n) (good_none rfl).pass (hr.mono (AO _)) rfl T.d_settle.m T.d_settle.kp T.d_settle.b (AH (AA (pv 0)) (AH (AA (pv 1)) (AH (AA (pv 2)) (AH (EO hu (AA (pv 2)) (AA (pv 6))) (AH (AA (pv 4)) Ao))))))) (AR (Hg (Au (CI (by decide:1<=64) _) hu) (AA (pv 2)) (AA (pv 6)) (AA (pv 3)) rfl)
  (AX (Bc ID))) CA))) CA)))
  (AX (Bc ID)))))
theorem k6:BU ["takes", "guards", "bits", "holders", "guard"] ["takes", "guards", "bits"] (Ay Zn):=Ek
theorem bK(T:Txt K mg W):Cg P w K mg base (CXG P w) 11 T.d_fits.f T.d_fits.fd ["takes", "guards", "bits"] (spM K 3 (UQ W)):=by
 refine BO (k:=10) T.d_fits.F k6 rfl λ_ _ _ _ _ _ hr hu nd=>?_
 exact(AR (CK 3 nd Ld)
  (AR (Cn (good_none rfl).own rfl (Cu (AA (pv 1))) (By 4 nd)
  (AX (D1 (Dm (BP Nj (BP Zt (AA (pv 2)) (AA (pv 4))) ge_int)) (AX (Hg (Au (CI (by decide:1<=64) _) hu) (AA (pv 3)) (AA (pv 4)) (AA (pv 4)) rfl)) CA)))
  (AR (Cn (good_none rfl).own rfl (Cu (AA (pv 1))) (By 4 nd)
  (AX (D1 (ie (aA (K5 (Dm (BP Nj (BP Zt (AA (pv 2)) (AA (pv 4))) ge_int))) (XF (K5 (Dm (XI (Vl T 9) (good_none rfl).pass (hr.mono (by decide)) rfl T.d_settle.m T.d_settle.kp T.d_settle.b (AH (AA (pv 0)) (AH (AA (pv 2)) (AH (AA (pv 3)) (AH (AA (pv 4)) (AH Ld Ao))))))))))) (AX (Bc ID)) CA)))
  (AX (Bc ID)))))
theorem Uz:BU ["takes", "guard", "rest", "wanted", "place", "bit", "lefts", "number", "left"] ["takes", "guard", "rest", "wanted"] (Ay L9):=Ek
theorem VD(T:Txt K mg W):Cg P w K mg base (CXG P w) 12 T.d_first_step.f T.d_first_step.fd ["takes", "guard", "rest", "wanted"] (spM K 4 (Mg W)):=by
 refine BO (k:=11) T.d_first_step.F Uz rfl λ_ _ _ _ _ _ hr hu nd=>?_
 exact(AR (Cn (good_none rfl).own rfl (Cu (EO hu (AA (pv 0)) (AA (pv 1)))) (By 4 nd)
  (AR (CK 5 nd (BP Ni ge_int (AA (pv 4))))
  (AR (SU (i:=6) (own:=["left"]) (N':=["left", "·1", "·2", "·3", "·4", "·5", "bit", "·7", "·8", "·9"]) rfl rfl nd rfl (by first | exact RI rfl | exact PP rfl) (D7 (by kernel_rfl)) (Cu (AA (pv 3))) (λ_ _ _ _ _ _=>(By 0 (by decide +kernel:(["left", "·1", "·2", "·3", "·4", "·5", "bit", "·7", "·8", "·9"]:List Str).Nodup))) (λ_ _ _ _ _ _=>(Nt (Dm (BP Nj (AA (pv 0)) (AA (pv 6)))))) (λ_ _ _ _ _ _=>(BP qq (AA (pv 0)) (AA (pv 6)))))
  (AX (Cn (good_none rfl).own rfl (XG rfl T.b_enumerate (AA (pv 6))) (PB rfl (Ef (By 7 nd) (Ef (By 8 nd) Ma)))
  (AX (D1 (Dm (gcl T.d_fits (bK T) hr (AH (AA (pv 0)) (AH (AA (pv 2)) (AH (AA (pv 8)) Ao))))) (AX (Bc (JG (AH (AA (pv 4)) (AH (Yk (AA (pv 6)) (SV (AA (pv 7))) bg) Ao))))) CA)))))))
  (AX (Bc Mb)))
theorem U0:BU ["takes", "guards", "wanted", "told", "lefts", "number", "guard", "step"] ["takes", "guards", "wanted"] (Ay MA):=Ek
theorem VH(T:Txt K mg W):Cg P w K mg base (CXG P w) 13 T.d_first_into.f T.d_first_into.fd ["takes", "guards", "wanted"] (spM K 3 (Mh W)):=by
 refine BO (k:=12) T.d_first_into.F U0 rfl λ_ _ _ _ _ _ hr hu nd=>?_
 exact(AR (CK 3 nd (D6 (MZ Ao)))
  (AR (CK 4 nd (AA (pv 2)))
  (AR (Cn (good_none rfl).own rfl (ik rfl T.b_enumerate (AA (pv 1))) (PB rfl (Ef (By 5 nd) (Ef (By 6 nd) Ma)))
  (AR (CK 7 nd (gcl T.d_first_step (VD T) hr (AH (AA (pv 0)) (AH (AA (pv 6)) (AH (de (AA (pv 1)) (SV (AA (pv 5))) bg) (AH (AA (pv 4)) Ao))))))
  (AR (D1 (FM Zu (AA (pv 7)) Mb (Dw _)) (AX (Bc Mb)) CA)
  (AR (JY (IP (AA (pv 3)) (EO hu (AA (pv 7)) ge_int)))
  (AX (CK 4 nd (EO hu (AA (pv 7)) ge_int)))))))
  (AX (Bc (Gx rfl T.b_tuple (AA (pv 3))))))))
theorem Wq:BU ["standing", "guard", "place"] ["standing", "guard", "place"] (Ay NX):=Ek
theorem W1(T:Txt K mg W):Cg P w K mg base (CXG P w) 1 T.d_with_step.f T.d_with_step.fd ["standing", "guard", "place"] (spM K 3 (Nz W)):=by
 refine BO (k:=0) T.d_with_step.F Wq rfl λ_ _ _ _ _ _ hr hu nd=>?_
 exact(AX (Bc (Gx rfl T.b_tuple (D6 (E6 (own:=["other"]) (N':=["other", "·1", "guard", "place"]) rfl (D7 (by kernel_rfl)) (Cu (AA (pv 0))) (λ_ _ _ _ _ _=>(By 0 (by decide +kernel:(["other", "·1", "guard", "place"]:List Str).Nodup))) (λ_ _ _ _ _ _=>Ee) (λ_ _ _ _ _ _=>(Nu (FM (M1 hu) (AA (pv 0)) (AA (pv 2)) (Dw _)) (AA (pv 3)) (AA (pv 0)))))))))
theorem Zi:BU ["places", "size", "told", "step", "longer", "some", "least", "place"] ["places", "size"] (Ay Qh):=Ek
theorem Zr(T:Txt K mg W):Cg P w K mg base (CXG P w) 1 T.d_sets_of.f T.d_sets_of.fd ["places", "size"] (spM K 2 (Q5 W)):=by
 refine BO (k:=0) T.d_sets_of.F Zi rfl λ_ _ _ _ _ _ hr hu nd=>?_
 exact(AR (CK 2 nd (D6 (MZ (AH (JG Ao) Ao))))
  (AR (Cn (good_none rfl).own rfl (FG rfl T.b_range (AH (AA (pv 1)) Ao)) (By 3 nd)
  (AR (CK 4 nd (D6 (MZ Ao)))
  (AR (Cn (good_none rfl).own rfl (Cu (AA (pv 2))) (By 5 nd)
  (AR (CK 6 nd (Nu (Dm (AA (pv 5))) (BP Ge (EO hu (AA (pv 5)) (io ge_int)) ge_int) ge_int))
  (AX (Cn (good_none rfl).own rfl (Lc rfl T.b_range (AH (AA (pv 6)) (AH (BP Ge (BP Ge (BP Tu (AA (pv 0)) (AA (pv 1))) (AA (pv 3))) ge_int) Ao))) (By 7 nd)
  (AX (JY (IP (AA (pv 4)) (BP Ge (AA (pv 5)) (JG (AH (AA (pv 7)) Ao))))))))))
  (AX (CK 2 nd (AA (pv 4)))))))
  (AX (Bc (AA (pv 2))))))
theorem Oz:BU ["web", "some", "watched", "place", "beside"] ["web", "some"] (Ay HN):=Ek
theorem O5(T:Txt K mg W):Cg P w K mg base (CXG P w) 3 T.d_first_unwatched.f T.d_first_unwatched.fd ["web", "some"] (spM K 2 (Hk W)):=by
 refine BO (k:=2) T.d_first_unwatched.F Oz rfl λ_ _ _ _ _ _ hr hu nd=>?_
 exact(AR (CK 2 nd Ld)
  (AR (Cn (good_none rfl).own rfl (Cu (AA (pv 1))) (By 3 nd)
  (AR (Hg (Au (CI (by decide:1<=64) _) hu) (AA (pv 2)) (AA (pv 3)) ID rfl)
  (AX (Cn (good_none rfl).own rfl (Cu (gcl T.d_near (bJ T) hr (AH (AA (pv 0)) (AH (AA (pv 3)) Ao)))) (By 4 nd)
  (AX (Hg (Au (CI (by decide:1<=64) _) hu) (AA (pv 2)) (AA (pv 4)) ID rfl))))))
  (AR (Cn (good_none rfl).own rfl (FG rfl T.b_range (AH (CG T.c_Web.cl T.n_Web_places (AA (pv 0)) rfl) Ao)) (By 3 nd)
  (AX (D1 (Gw hu (AA (pv 3)) (AA (pv 2))) (AX (Bc (AA (pv 3)))) CA)))
  (AX (Bc Mb)))))
theorem Po:BU ["places", "size", "ways", "step"] ["places", "size"] (Ay II):=Ek
theorem Px(T:Txt K mg W):Cg P w K mg base (CXG P w) 1 T.d_ways_to_choose.f T.d_ways_to_choose.fd ["places", "size"] (spM K 2 (IQ W)):=by
 refine BO (k:=0) T.d_ways_to_choose.F Po rfl λ_ _ _ _ _ _ hr hu nd=>?_
 exact(AR (CK 2 nd ge_int)
  (AR (Cn (good_none rfl).own rfl (FG rfl T.b_range (AH (AA (pv 1)) Ao)) (By 3 nd)
  (AX (CK 2 nd (BP MX (BP Tv (AA (pv 2)) (BP Tu (AA (pv 0)) (AA (pv 3)))) (BP Ge (AA (pv 3)) ge_int)))))
  (AX (Bc (AA (pv 2))))))
theorem YE:BU ["web", "guards"] ["web", "guards"] (Ay O1):=Ek
theorem RT(T:Txt K mg W):Cg P w K mg base (CXG P w) 2 T.d_how_many.f T.d_how_many.fd ["web", "guards"] (spM K 2 (Me W)):=by
 refine BO (k:=1) T.d_how_many.F YE rfl λ_ _ _ _ _ _ hr hu nd=>?_
 exact(AR (D1 (K5 (UM Vm Vm ge_int (AA (pv 1)) (CG T.c_Web.cl T.n_Web_places (AA (pv 0)) rfl))) (AX Io) CA)
  (AX (Bc (gcl T.d_ways_to_choose (Px T) hr (AH (CG T.c_Web.cl T.n_Web_places (AA (pv 0)) rfl) (AH (AA (pv 1)) Ao))))))
theorem Wr:BU ["web", "guards"] ["web", "guards"] (Ay NY):=Ek
theorem W2(T:Txt K mg W):Cg P w K mg base (CXG P w) 3 T.d_standings.f T.d_standings.fd ["web", "guards"] (spM K 2 (Ki W)):=by
 refine BO (k:=2) T.d_standings.F Wr rfl λ_ _ _ _ _ _ hr hu nd=>?_
 exact(AR (D1 (FM oK (gcl T.d_how_many (RT T) hr (AH (AA (pv 0)) (AH (AA (pv 1)) Ao))) (UN rfl T.g_MOST_STANDINGS.choose_spec) (Dw _)) (AX Io) CA)
  (AX (Bc (gcl T.d_sets_of (Zr T) hr (AH (CG T.c_Web.cl T.n_Web_places (AA (pv 0)) rfl) (AH (AA (pv 1)) Ao))))))
theorem L6:BU ["self", "number", "standing", "told", "guard", "place"] ["self", "number"] (Ay FK):=Ek
theorem MR(T:Txt K mg W):Cg P w K mg base (CXG P w) 2 T.d_Field_linked_by_one.f T.d_Field_linked_by_one.fd ["self", "number"] (spM K 2 (DX W)):=by
 refine BO (k:=1) T.d_Field_linked_by_one.F L6 rfl λ_ _ _ _ _ _ hr hu nd=>?_
 exact(AR (CK 2 nd (EO hu (CG T.c_Field.cl T.n_Field_everything (AA (pv 0)) rfl) (AA (pv 1))))
  (AR (CK 3 nd ge_int)
  (AR (Cn (good_none rfl).own rfl (Cu (AA (pv 2))) (By 4 nd)
  (AX (Cn (good_none rfl).own rfl (Cu (EO hu (CG T.c_Field.cl T.n_Field_takes (AA (pv 0)) rfl) (AA (pv 4)))) (By 5 nd)
  (AX (D1 (Gw hu (AA (pv 5)) (AA (pv 2))) (AX (Vv 3 nd bd (BP Ni ge_int (EO hu (CG T.c_Field.cl T.n_Field_numbers (AA (pv 0)) rfl) (Gx rfl T.b_tuple (Jd rfl rfl T.b_sorted (gcl T.d_with_step (W1 T) hr (AH (AA (pv 2)) (AH (AA (pv 4)) (AH (AA (pv 5)) Ao)))))))))) CA)))))
  (AX (Bc (AA (pv 3)))))))
theorem L7:BU ["self", "number", "standing", "told", "other", "bits"] ["self", "number"] (Ay FL):=Ek
theorem MU(T:Txt K mg W):Cg P w K mg base (CXG P w) 12 T.d_Field_linked_by_all.f T.d_Field_linked_by_all.fd ["self", "number"] (spM K 2 (DY W)):=by
 refine BO (k:=11) T.d_Field_linked_by_all.F L7 rfl λ_ _ _ _ _ _ hr hu nd=>?_
 exact(AR (CK 2 nd (EO hu (CG T.c_Field.cl T.n_Field_everything (AA (pv 0)) rfl) (AA (pv 1))))
  (AR (CK 3 nd ge_int)
  (AR (Cn (good_none rfl).own rfl (XG rfl T.b_enumerate (CG T.c_Field.cl T.n_Field_place_bits (AA (pv 0)) rfl)) (PB rfl (Ef (By 4 nd) (Ef (By 5 nd) Ma)))
  (AX (D1 (Dm (gcl T.d_fits (bK T) hr (AH (CG T.c_Field.cl T.n_Field_takes (AA (pv 0)) rfl) (AH (AA (pv 2)) (AH (AA (pv 5)) Ao))))) (AX (Vv 3 nd bd (BP Ni ge_int (AA (pv 4))))) CA)))
  (AX (Bc (AA (pv 3)))))))
theorem U6:BU ["self", "web", "guards", "kind", "number", "standing", "place"] ["self", "web", "guards", "kind"] (Ay MC):=Ek
theorem Tt(T:Txt K mg W):Cg P w K mg base (CXG P w) 13 T.d_Field_init.f T.d_Field_init.fd ["self", "web", "guards", "kind"] (spM K 4 (LD W)):=by
 refine BO (k:=12) T.d_Field_init.F U6 rfl λ_ _ _ _ _ _ hr hu nd=>?_
 exact(AR (K6 T.c_Field.cl T.n_Field_everything (AA (pv 0)) (gcl T.d_standings (W2 T) hr (AH (AA (pv 1)) (AH (AA (pv 2)) Ao))) rfl)
  (AR (K6 T.c_Field.cl T.n_Field_kind (AA (pv 0)) (AA (pv 3)) rfl)
  (AR (K6 T.c_Field.cl T.n_Field_takes (AA (pv 0)) (gcl T.d_takes_of (YU T) hr (AH (AA (pv 1)) Ao)) rfl)
  (AR (K6 T.c_Field.cl T.n_Field_numbers (AA (pv 0)) Yl rfl)
  (AR (K6 T.c_Field.cl T.n_Field_having (AA (pv 0)) (D6 (E6 (own:=["place"]) (N':=["place", "·1", "·2", "·3", "·4", "·5", "·6", "·7"]) rfl (D7 (by kernel_rfl)) (FG rfl T.b_range (AH (CG T.c_Web.cl T.n_Web_places (AA (pv 1)) rfl) Ao)) (λ_ _ _ _ _ _=>(By 0 (by decide +kernel:(["place", "·1", "·2", "·3", "·4", "·5", "·6", "·7"]:List Str).Nodup))) (λ_ _ _ _ _ _=>Ee) (λ_ _ _ _ _ _=>ge_int))) rfl)
  (AR (Cn (good_none rfl).own rfl (XG rfl T.b_enumerate (CG T.c_Field.cl T.n_Field_everything (AA (pv 0)) rfl)) (PB rfl (Ef (By 4 nd) (Ef (By 5 nd) Ma)))
  (AR (Hg (Au (CI (by decide:1<=64) _) hu) (CG T.c_Field.cl T.n_Field_numbers (AA (pv 0)) rfl) (AA (pv 5)) (AA (pv 4)) rfl)
  (AX (Cn (good_none rfl).own rfl (Cu (AA (pv 5))) (By 6 nd)
  (AX (mU (CG T.c_Field.cl T.n_Field_having (AA (pv 0)) rfl) (AA (pv 6)) (BP Ni ge_int (AA (pv 4))) bd))))))
  (AR (K6 T.c_Field.cl T.n_Field_place_bits (AA (pv 0)) (D6 (E6 (own:=["standing"]) (N':=["standing", "·1", "·2", "·3", "·4", "·5", "·6", "·7"]) rfl (D7 (by kernel_rfl)) (Cu (CG T.c_Field.cl T.n_Field_everything (AA (pv 0)) rfl)) (λ_ _ _ _ _ _=>(By 0 (by decide +kernel:(["standing", "·1", "·2", "·3", "·4", "·5", "·6", "·7"]:List Str).Nodup))) (λ_ _ _ _ _ _=>Ee) (λ_ _ _ _ _ _=>(gcl T.d_bits_of (Zs T) hr (AH (AA (pv 0)) Ao))))) rfl)
  (AX (K6 T.c_Field.cl T.n_Field_known (AA (pv 0)) Ld rfl)))))))))
theorem Kz(T:Txt K mg W):Cg P w K mg base (CXG P w) 13 T.d_Field_init.f T.d_Field_init.fd ["self", "web", "guards", "kind"] (spM K 4 (E7 W)):=mw (Tt T)
theorem Tb:BU ["self", "number", "standing"] ["self", "number"] (Ay Kw):=Ek
theorem Nh(T:Txt K mg W):Cg P w K mg base (CXG P w) 1 T.d_Field_calls.f T.d_Field_calls.fd ["self", "number"] (spM K 2 (Ih W)):=by
 refine BO (k:=0) T.d_Field_calls.F Tb rfl λ_ _ _ _ _ _ hr hu nd=>?_
 exact(AR (CK 2 nd (EO hu (CG T.c_Field.cl T.n_Field_everything (AA (pv 0)) rfl) (AA (pv 1))))
  (AX (Bc (D6 (E6 (own:=["place"]) (N':=["place", "·1", "·2", "standing"]) rfl (D7 (by kernel_rfl)) (FG rfl T.b_range (AH (Q3 rfl T.b_len (CG T.c_Field.cl T.n_Field_takes (AA (pv 0)) rfl)) Ao)) (λ_ _ _ _ _ _=>(By 0 (by decide +kernel:(["place", "·1", "·2", "standing"]:List Str).Nodup))) (λ_ _ _ _ _ _=>(Nt (Gw hu (AA (pv 0)) (AA (pv 3))))) (λ_ _ _ _ _ _=>(AA (pv 0))))))))
theorem Rp:BU ["self", "number"] ["self", "number"] (Ay Jr):=Ek
theorem Qq(T:Txt K mg W):Cg P w K mg base (CXG P w) 13 T.d_Field_linked.f T.d_Field_linked.fd ["self", "number"] (spM K 2 (JH W)):=by
 refine BO (k:=12) T.d_Field_linked.F Rp rfl λ_ _ _ _ _ _ hr hu nd=>?_
 exact(AR (D1 (Gw hu (AA (pv 1)) (CG T.c_Field.cl T.n_Field_known (AA (pv 0)) rfl)) (AX (Hg (Au (CI (by decide:1<=64) _) hu) (CG T.c_Field.cl T.n_Field_known (AA (pv 0)) rfl) (AA (pv 1)) (Nu (FM (M1 hu) (CG T.c_Field.cl T.n_Field_kind (AA (pv 0)) rfl) Q2 (Dw _)) (Kh (AA (pv 0)) T.c_Field.cl T.m_Field_linked_by_one (MR T) (good_none rfl).pass (hr.mono (by decide)) T.d_Field_linked_by_one.b (AH (AA (pv 1)) Ao)) (Kh (AA (pv 0)) T.c_Field.cl T.m_Field_linked_by_all (MU T) (good_none rfl).pass (hr.mono (by decide)) T.d_Field_linked_by_all.b (AH (AA (pv 1)) Ao))) rfl)) CA)
  (AX (Bc (EO hu (CG T.c_Field.cl T.n_Field_known (AA (pv 0)) rfl) (AA (pv 1))))))
theorem Ry(T:Txt K mg W):Cg P w K mg base (CXG P w) 13 T.d_Field_linked.f T.d_Field_linked.fd ["self", "number"] (spM K 2 (Hm W)):=sB (Qq T)
theorem Rq:BU ["self", "number", "call"] ["self", "number", "call"] (Ay Js):=Ek
theorem M0(T:Txt K mg W):Cg P w K mg base (CXG P w) 14 T.d_Field_behind.f T.d_Field_behind.fd ["self", "number", "call"] (spM K 3 (Hn W)):=by
 refine BO (k:=13) T.d_Field_behind.F Rq rfl λ_ _ _ _ _ _ hr hu nd=>?_
 exact(AX (Bc (BP Nj (Kh (AA (pv 0)) T.c_Field.cl T.m_Field_linked (Ry T) (good_none rfl).pass (hr.mono (by decide)) T.d_Field_linked.b (AH (AA (pv 1)) Ao)) (EO hu (CG T.c_Field.cl T.n_Field_having (AA (pv 0)) rfl) (AA (pv 2))))))
theorem M4:BU ["self", "number", "call", "wanted", "standing", "told", "other"] ["self", "number", "call", "wanted"] (Ay Fo):=Ek
theorem M9(T:Txt K mg W):Cg P w K mg base (CXG P w) 14 T.d_Field_first_answer.f T.d_Field_first_answer.fd ["self", "number", "call", "wanted"] (spM K 4 (GB W)):=by
 refine BO (k:=13) T.d_Field_first_answer.F M4 rfl λ_ _ _ _ _ _ hr hu nd=>?_
 exact(AR (CK 4 nd (EO hu (CG T.c_Field.cl T.n_Field_everything (AA (pv 0)) rfl) (AA (pv 1))))
  (AR (D1 (FM (M1 hu) (CG T.c_Field.cl T.n_Field_kind (AA (pv 0)) rfl) Q2 (Dw _)) (AX (Bc (gcl T.d_first_into (VH T) hr (AH (CG T.c_Field.cl T.n_Field_takes (AA (pv 0)) rfl) (AH (AA (pv 4)) (AH (D6 (E6 (own:=["other"]) (N':=["other", "self", "·2", "·3", "·4", "·5", "·6", "·7"]) rfl (D7 (by kernel_rfl)) (Cu (gcl T.d_members (Jw T) hr (AH (AA (pv 3)) Ao))) (λ_ _ _ _ _ _=>(By 0 (by decide +kernel:(["other", "self", "·2", "·3", "·4", "·5", "·6", "·7"]:List Str).Nodup))) (λ_ _ _ _ _ _=>Ee) (λ_ _ _ _ _ _=>(EO hu (CG T.c_Field.cl T.n_Field_place_bits (AA (pv 1)) rfl) (AA (pv 0)))))) Ao)))))) CA)
  (AR (CK 5 nd (D6 (MZ Ao)))
  (AR (Cn (good_none rfl).own rfl (Cu (gcl T.d_members (Jw T) hr (AH (AA (pv 3)) Ao))) (By 6 nd)
  (AX (JY (IP (AA (pv 5)) (Gx rfl T.b_tuple (D6 (E6 (own:=["guard"]) (N':=["guard", "self", "·2", "call", "·4", "·5", "·6", "other"]) rfl (D7 (by kernel_rfl)) (Cu (AA (pv 4))) (λ_ _ _ _ _ _=>(By 0 (by decide +kernel:(["guard", "self", "·2", "call", "·4", "·5", "·6", "other"]:List Str).Nodup))) (λ_ _ _ _ _ _=>Ee) (λ_ _ _ _ _ _=>(Nu (oX hu (AA (pv 0)) (EO hu (CG T.c_Field.cl T.n_Field_everything (AA (pv 1)) rfl) (AA (pv 7)))) (AA (pv 0)) (AA (pv 3)))))))))))
  (AX (Bc (mY hu rfl rfl T.b_min (AA (pv 5)))))))))
theorem TZ:BU ["field", "left", "told", "number", "lost"] ["field", "left"] (Ay Kv):=Ek
theorem Ng(T:Txt K mg W):Cg P w K mg base (CXG P w) 15 T.d_falling_now.f T.d_falling_now.fd ["field", "left"] (spM K 2 (Ig W)):=by
 refine BO (k:=14) T.d_falling_now.F TZ rfl λ_ _ _ _ _ _ hr hu nd=>?_
 exact(AR (CK 2 nd Ld)
  (AR (Cn (good_none rfl).own rfl (Cu (gcl T.d_members (Jw T) hr (AH (AA (pv 1)) Ao))) (By 3 nd)
  (AR (SU (i:=4) (own:=["call"]) (N':=["call", "field", "left", "·3", "number", "·5"]) rfl rfl nd rfl (by first | exact RI rfl | exact PP rfl) (D7 (by kernel_rfl)) (Cu (Kh (AA (pv 0)) T.c_Field.cl T.m_Field_calls (Nh T) (good_none rfl).pass (hr.mono (by decide)) T.d_Field_calls.b (AH (AA (pv 3)) Ao))) (λ_ _ _ _ _ _=>(By 0 (by decide +kernel:(["call", "field", "left", "·3", "number", "·5"]:List Str).Nodup))) (λ_ _ _ _ _ _=>(Nt (FM (M1 hu) (BP Nj (Kh (AA (pv 1)) T.c_Field.cl T.m_Field_behind (M0 T) (good_none rfl).pass (hr.mono (by decide)) T.d_Field_behind.b (AH (AA (pv 4)) (AH (AA (pv 0)) Ao))) (AA (pv 2))) ge_int (Dw _)))) (λ_ _ _ _ _ _=>(AA (pv 0))))
  (AX (D1 (Dm (AA (pv 4))) (AX (Hg (Au (CI (by decide:1<=64) _) hu) (AA (pv 2)) (AA (pv 3)) (EO hu (AA (pv 4)) ge_int) rfl)) CA))))
  (AX (Bc (AA (pv 2))))))
theorem c7:BU ["field", "told", "left", "stage", "falling", "number"] ["field"] (Ay Tf):=Ek
theorem Qp(T:Txt K mg W):Cg P w K mg base (CXG P w) 16 T.d_fallen.f T.d_fallen.fd ["field"] (spM K 1 (N0 W)):=by
 refine BO (k:=15) T.d_fallen.F c7 rfl λ_ _ _ _ _ _ hr hu nd=>?_
 exact(AR (CK 1 nd Ld)
  (AR (CK 2 nd (BP Tu (BP Ni ge_int (Q3 rfl T.b_len (CG T.c_Field.cl T.n_Field_everything (AA (pv 0)) rfl))) ge_int))
  (AR (CK 3 nd ge_int)
  (AR (CK 4 nd (gcl T.d_falling_now (Ng T) hr (AH (AA (pv 0)) (AH (AA (pv 2)) Ao))))
  (AR (Yj wN (good_none rfl).own (Dm (AA (pv 4))) (AR (vF (i:=4) (Cn (good_none rfl).own rfl (mV (AA (pv 4))) (By 5 nd)
  (AR (Hg (Au (CI (by decide:1<=64) _) hu) (AA (pv 1)) (AA (pv 5)) (JG (AH (AA (pv 3)) (AH (EO hu (AA (pv 4)) (AA (pv 5))) Ao))) rfl)
  (AX (Vv 2 nd rJ (BP Ni ge_int (AA (pv 5))))))))
  (AR (Vv 3 nd rL ge_int)
  (AX (CK 4 nd (gcl T.d_falling_now (Ng T) hr (AH (AA (pv 0)) (AH (AA (pv 2)) Ao))))))))
  (AX (Bc (AA (pv 1)))))))))
theorem Rh:BU ["field", "gone"] ["field", "gone"] (Ay Jm):=Ek
theorem Mz(T:Txt K mg W):Cg P w K mg base (CXG P w) 1 T.d_lasting_bits.f T.d_lasting_bits.fd ["field", "gone"] (spM K 2 (Hj W)):=by
 refine BO (k:=0) T.d_lasting_bits.F Rh rfl λ_ _ _ _ _ _ hr hu nd=>?_
 exact(AX (Bc (rl rfl rfl T.b_sum (D6 (E6 (own:=["number"]) (N':=["number", "·1", "gone"]) rfl (D7 (by kernel_rfl)) (FG rfl T.b_range (AH (Q3 rfl T.b_len (CG T.c_Field.cl T.n_Field_everything (AA (pv 0)) rfl)) Ao)) (λ_ _ _ _ _ _=>(By 0 (by decide +kernel:(["number", "·1", "gone"]:List Str).Nodup))) (λ_ _ _ _ _ _=>(Nt (Gw hu (AA (pv 0)) (AA (pv 2))))) (λ_ _ _ _ _ _=>(BP Ni ge_int (AA (pv 0)))))))))
theorem Zk:BU ["web", "guards", "kind", "field"] ["web", "guards", "kind"] (Ay Qj):=Ek
theorem MQ(T:Txt K mg W):Cg P w K mg base (CXG P w) 17 T.d_lasting.f T.d_lasting.fd ["web", "guards", "kind"] (spM K 3 (Je W)):=by
 refine BO (k:=16) T.d_lasting.F Zk rfl λ_ _ _ _ _ _ hr hu nd=>?_
 exact(AR (CK 3 nd (SW T.c_Field.mk' (Kz T) (good_none rfl).pass (hr.mono (by decide)) rfl T.c_Field.m T.d_Field_init.b (AH (AA (pv 0)) (AH (AA (pv 1)) (AH (AA (pv 2)) Ao)))))
  (AX (Bc (D6 (E6 (own:=["number"]) (N':=["number", "·1", "·2", "·3", "field"]) rfl (D7 (by kernel_rfl)) (Cu (gcl T.d_members (Jw T) hr (AH (gcl T.d_lasting_bits (Mz T) hr (AH (AA (pv 3)) (AH (gcl T.d_fallen (Qp T) hr (AH (AA (pv 3)) Ao)) Ao))) Ao))) (λ_ _ _ _ _ _=>(By 0 (by decide +kernel:(["number", "·1", "·2", "·3", "field"]:List Str).Nodup))) (λ_ _ _ _ _ _=>Ee) (λ_ _ _ _ _ _=>(EO hu (CG T.c_Field.cl T.n_Field_everything (AA (pv 4)) rfl) (AA (pv 0)))))))))
theorem gN:BU ["web", "guards", "kind", "field", "gone"] ["web", "guards", "kind"] (Ay Wv):=Ek
theorem g7(T:Txt K mg W):Cg P w K mg base (CXG P w) 17 T.d_falls.f T.d_falls.fd ["web", "guards", "kind"] (spM K 3 (XM W)):=by
 refine BO (k:=16) T.d_falls.F gN rfl λ_ _ _ _ _ _ hr hu nd=>?_
 exact(AR (CK 3 nd (SW T.c_Field.mk' (Kz T) (good_none rfl).pass (hr.mono (by decide)) rfl T.c_Field.m T.d_Field_init.b (AH (AA (pv 0)) (AH (AA (pv 1)) (AH (AA (pv 2)) Ao)))))
  (AR (CK 4 nd (gcl T.d_fallen (Qp T) hr (AH (AA (pv 3)) Ao)))
  (AX (Bc (D6 (E6 (own:=["number"]) (N':=["number", "·1", "·2", "·3", "field", "gone"]) rfl (D7 (by kernel_rfl)) (Cu (Jd rfl rfl T.b_sorted (AA (pv 4)))) (λ_ _ _ _ _ _=>(By 0 (by decide +kernel:(["number", "·1", "·2", "·3", "field", "gone"]:List Str).Nodup))) (λ_ _ _ _ _ _=>Ee) (λ_ _ _ _ _ _=>(BP Ge (JG (AH (EO hu (CG T.c_Field.cl T.n_Field_everything (AA (pv 4)) rfl) (AA (pv 0))) Ao)) (EO hu (AA (pv 5)) (AA (pv 0)))))))))))
theorem Ri:BU ["field", "number", "call", "kept"] ["field", "number", "call", "kept"] (Ay Jn):=Ek
theorem Rv(T:Txt K mg W):Cg P w K mg base (CXG P w) 15 T.d_guide_answer.f T.d_guide_answer.fd ["field", "number", "call", "kept"] (spM K 4 (J2 W)):=by
 refine BO (k:=14) T.d_guide_answer.F Ri rfl λ_ _ _ _ _ _ hr hu nd=>?_
 exact(AX (Bc (Kh (AA (pv 0)) T.c_Field.cl T.m_Field_first_answer (M9 T) (good_none rfl).pass (hr.mono (by decide)) T.d_Field_first_answer.b (AH (AA (pv 1)) (AH (AA (pv 2)) (AH (BP Nj (Kh (AA (pv 0)) T.c_Field.cl T.m_Field_behind (M0 T) (good_none rfl).pass (hr.mono (by decide)) T.d_Field_behind.b (AH (AA (pv 1)) (AH (AA (pv 2)) Ao))) (AA (pv 3))) Ao))))))
theorem Uy:BU ["field", "number", "kept"] ["field", "number", "kept"] (Ay L8):=Ek
theorem VC(T:Txt K mg W):Cg P w K mg base (CXG P w) 16 T.d_guide_rows.f T.d_guide_rows.fd ["field", "number", "kept"] (spM K 3 (Mf W)):=by
 refine BO (k:=15) T.d_guide_rows.F Uy rfl λ_ _ _ _ _ _ hr hu nd=>?_
 exact(AX (Bc (Gx rfl T.b_tuple (D6 (E6 (own:=["call"]) (N':=["call", "field", "number", "kept"]) rfl (D7 (by kernel_rfl)) (Cu (Kh (AA (pv 0)) T.c_Field.cl T.m_Field_calls (Nh T) (good_none rfl).pass (hr.mono (by decide)) T.d_Field_calls.b (AH (AA (pv 1)) Ao))) (λ_ _ _ _ _ _=>(By 0 (by decide +kernel:(["call", "field", "number", "kept"]:List Str).Nodup))) (λ_ _ _ _ _ _=>Ee) (λ_ _ _ _ _ _=>(JG (AH (AA (pv 0)) (AH (gcl T.d_guide_answer (Rv T) hr (AH (AA (pv 1)) (AH (AA (pv 2)) (AH (AA (pv 0)) (AH (AA (pv 3)) Ao))))) Ao)))))))))
theorem TY:BU ["web", "guards", "kind", "field", "kept"] ["web", "guards", "kind"] (Ay Ku):=Ek
theorem Tr(T:Txt K mg W):Cg P w K mg base (CXG P w) 17 T.d_guide_paper.f T.d_guide_paper.fd ["web", "guards", "kind"] (spM K 3 (LC W)):=by
 refine BO (k:=16) T.d_guide_paper.F TY rfl λ_ _ _ _ _ _ hr hu nd=>?_
 exact(AR (CK 3 nd (SW T.c_Field.mk' (Kz T) (good_none rfl).pass (hr.mono (by decide)) rfl T.c_Field.m T.d_Field_init.b (AH (AA (pv 0)) (AH (AA (pv 1)) (AH (AA (pv 2)) Ao)))))
  (AR (CK 4 nd (gcl T.d_lasting_bits (Mz T) hr (AH (AA (pv 3)) (AH (gcl T.d_fallen (Qp T) hr (AH (AA (pv 3)) Ao)) Ao))))
  (AR (D1 (FM (M1 hu) (AA (pv 4)) ge_int (Dw _)) (AX (Bc Mb)) CA)
  (AX (Bc (D6 (E6 (own:=["number"]) (N':=["number", "·1", "·2", "·3", "field", "kept"]) rfl (D7 (by kernel_rfl)) (Cu (gcl T.d_members (Jw T) hr (AH (AA (pv 4)) Ao))) (λ_ _ _ _ _ _=>(By 0 (by decide +kernel:(["number", "·1", "·2", "·3", "field", "kept"]:List Str).Nodup))) (λ_ _ _ _ _ _=>Ee) (λ_ _ _ _ _ _=>(JG (AH (EO hu (CG T.c_Field.cl T.n_Field_everything (AA (pv 4)) rfl) (AA (pv 0))) (AH (gcl T.d_guide_rows (VC T) hr (AH (AA (pv 4)) (AH (AA (pv 0)) (AH (AA (pv 5)) Ao)))) Ao)))))))))))
theorem Rn:BU ["web", "guards", "kind", "paper"] ["web", "guards", "kind"] (Ay Jp):=Ek
theorem Rx(T:Txt K mg W):Cg P w K mg base (CXG P w) 18 T.d_caller_paper.f T.d_caller_paper.fd ["web", "guards", "kind"] (spM K 3 (J3 W)):=by
 refine BO (k:=17) T.d_caller_paper.F Rn rfl λ_ _ _ _ _ _ hr hu nd=>?_
 exact(AR (CK 3 nd (gcl T.d_falls (g7 T) hr (AH (AA (pv 0)) (AH (AA (pv 1)) (AH (AA (pv 2)) Ao)))))
  (AX (Bc (Nu (FM (M1 hu) (Q3 rfl T.b_len (AA (pv 3))) (gcl T.d_how_many (RT T) hr (AH (AA (pv 0)) (AH (AA (pv 1)) Ao))) (Dw _)) (AA (pv 3)) Mb))))
theorem M3:BU ["web"] ["web"] (Ay Fn):=Ek
theorem M6(T:Txt K mg W):Cg P w K mg base (CXG P w) 1 T.d_refuse_many_places.f T.d_refuse_many_places.fd ["web"] (spM K 1 (Fy W)):=by
 refine BO (k:=0) T.d_refuse_many_places.F M3 rfl λ_ _ _ _ _ _ hr hu nd=>?_
 exact(AX (D1 (FM oK (CG T.c_Web.cl T.n_Web_places (AA (pv 0)) rfl) (UN rfl T.g_MOST_PLACES_GUARDED.choose_spec) (Dw _)) (AX Io) CA))
theorem Rg:BU ["web", "kind", "guards"] ["web", "kind"] (Ay Jl):=Ek
theorem Ru(T:Txt K mg W):Cg P w K mg base (CXG P w) 18 T.d_least_guards.f T.d_least_guards.fd ["web", "kind"] (spM K 2 (J1 W)):=by
 refine BO (k:=17) T.d_least_guards.F Rg rfl λ_ _ _ _ _ _ hr hu nd=>?_
 exact(AR (Cn (good_none rfl).own rfl (Lc rfl T.b_range (AH ge_int (AH (CG T.c_Web.cl T.n_Web_places (AA (pv 0)) rfl) Ao))) (By 2 nd)
  (AX (D1 (Dm (gcl T.d_lasting (MQ T) hr (AH (AA (pv 0)) (AH (AA (pv 2)) (AH (AA (pv 1)) Ao))))) (AX (Bc (AA (pv 2)))) CA)))
  (AX (Bc (CG T.c_Web.cl T.n_Web_places (AA (pv 0)) rfl))))
theorem c6:BU ["web", "kind"] ["web", "kind"] (Ay Te):=Ek
theorem dN(T:Txt K mg W):Cg P w K mg base (CXG P w) 19 T.d_fewest.f T.d_fewest.fd ["web", "kind"] (spM K 2 (UR W)):=by
 refine BO (k:=18) T.d_fewest.F c6 rfl λ_ _ _ _ _ _ hr hu nd=>?_
 exact(AR (JY (gcl T.d_refuse_many_places (M6 T) hr (AH (AA (pv 0)) Ao)))
  (AX (Bc (gcl T.d_least_guards (Ru T) hr (AH (AA (pv 0)) (AH (AA (pv 1)) Ao))))))
theorem Ro:BU ["script", "k"] ["script", "k"] (Ay Jq):=Ek
theorem JE(T:Txt K mg W):Cg P w K mg base (CXG P w) 1 T.d__law_cell_at.f T.d__law_cell_at.fd ["script", "k"] (spM K 2 (F9 W)):=by
 refine BO (k:=0) T.d__law_cell_at.F Ro rfl λ_ _ _ _ _ _ hr hu nd=>?_
 exact(AR (D1 (FM bL (AA (pv 1)) (Q3 rfl T.b_len (AA (pv 0))) (Dw _)) (AX (Bc (EO hu (AA (pv 0)) (AA (pv 1))))) CA)
  (AX (Bc ge_int)))
theorem Pp:BU ["script", "most", "head", "places", "pairs", "bits", "digits", "cell", "dense", "other", "one", "there"] ["script", "most"] (Ay IJ):=Ek
theorem Py(T:Txt K mg W):Cg P w K mg base (CXG P w) 2 T.d__law_small_web.f T.d__law_small_web.fd ["script", "most"] (spM K 2 (IS W)):=by
 refine BO (k:=1) T.d__law_small_web.F Pp rfl λ_ _ _ _ _ _ hr hu nd=>?_
 exact(AR (CK 2 nd (gcl T.d__law_cell_at (JE T) hr (AH (AA (pv 0)) (AH ge_int Ao))))
  (AR (CK 3 nd (BP Ge ge_int (BP MV (AA (pv 2)) (AA (pv 1)))))
  (AR (CK 4 nd (D6 (MZ Ao)))
  (AR (CK 5 nd (gcl T.d__law_cell_at (JE T) hr (AH (AA (pv 0)) (AH ge_int Ao))))
  (AR (CK 6 nd (rn rfl T.b_abs (AA (pv 5))))
  (AR (Cn (good_none rfl).own rfl (Cu (Yk (AA (pv 0)) (SV ge_int) (SV ge_int))) (By 7 nd)
  (AX (CK 5 nd (BP Ge (BP Tv (AA (pv 5)) ge_int) (BP MX (AA (pv 7)) ge_int)))))
  (AR (CK 5 nd (BP MV (BP Tv (BP MV (AA (pv 5)) ge_int) ge_int) ge_int))
  (AR (CK 8 nd (BP MV (BP MX (AA (pv 2)) (AA (pv 1))) ge_int))
  (AR (Cn (good_none rfl).own rfl (Lc rfl T.b_range (AH ge_int (AH (AA (pv 3)) Ao))) (By 9 nd)
  (AX (Cn (good_none rfl).own rfl (FG rfl T.b_range (AH (AA (pv 9)) Ao)) (By 10 nd)
  (AR (CK 5 nd (BP Ge (BP Ge (BP Ge (BP MV (BP Tv (AA (pv 5)) (AA (pv 5))) ge_int) (BP Tv ge_int (AA (pv 9)))) (AA (pv 10))) ge_int))
  (AR (CK 11 nd (K9 Vm (BP MV (BP MX (AA (pv 5)) ge_int) ge_int) (AA (pv 8)) (Dw _)))
  (AR (D1 (FM (M1 hu) (BP MV (BP MX (BP MX (AA (pv 2)) (AA (pv 1))) ge_int) ge_int) ge_int (Dw _)) (AR (CK 11 nd (K9 (M1 hu) (BP MV (AA (pv 6)) ge_int) ge_int (Dw _)))
  (AX (CK 6 nd (BP MX (AA (pv 6)) ge_int)))) CA)
  (AX (D1 (Dm (AA (pv 11))) (AX (JY (IP (AA (pv 4)) (JG (AH (AA (pv 10)) (AH (AA (pv 9)) Ao)))))) CA))))))))
  (AX (Bc (JG (AH (AA (pv 3)) (AH (AA (pv 4)) Ao))))))))))))))
theorem U2:BU ["standing", "place"] ["standing", "place"] (Ay MB):=Ek
theorem VJ(T:Txt K mg W):Cg P w K mg base (CXG P w) 1 T.d__law_grown.f T.d__law_grown.fd ["standing", "place"] (spM K 2 (Mi W)):=by
 refine BO (k:=0) T.d__law_grown.F U2 rfl λ_ _ _ _ _ _ hr hu nd=>?_
 exact(AX (Bc (Gx rfl T.b_tuple (Jd rfl rfl T.b_sorted (BP Ge (AA (pv 0)) (JG (AH (AA (pv 1)) Ao)))))))
theorem Wu:BU ["places", "ones", "more", "standing", "place"] ["places", "ones", "more"] (Ay Na):=Ek
theorem W3(T:Txt K mg W):Cg P w K mg base (CXG P w) 2 T.d__law_kept.f T.d__law_kept.fd ["places", "ones", "more"] (spM K 3 (N1 W)):=by
 refine BO (k:=1) T.d__law_kept.F Wu rfl λ_ _ _ _ _ _ hr hu nd=>?_
 exact(AR (Cn (good_none rfl).own rfl (Cu (AA (pv 1))) (By 3 nd)
  (AX (Cn (good_none rfl).own rfl (FG rfl T.b_range (AH (AA (pv 0)) Ao)) (By 4 nd)
  (AX (D1 (ie (aA (Gw hu (AA (pv 4)) (AA (pv 3))) (XF (Gw hu (gcl T.d__law_grown (VJ T) hr (AH (AA (pv 3)) (AH (AA (pv 4)) Ao))) (AA (pv 2)))))) (AX (Bc ID)) CA)))))
  (AX (Bc ID)))
theorem Wt:BU ["web", "kind", "ones", "guards", "more"] ["web", "kind"] (Ay NZ):=Ek
theorem Pz(T:Txt K mg W):Cg P w K mg base (CXG P w) 20 T.d__law_kind.f T.d__law_kind.fd ["web", "kind"] (spM K 2 (Kj W)):=by
 refine BO (k:=19) T.d__law_kind.F Wt rfl λ_ _ _ _ _ _ hr hu nd=>?_
 exact(AR (CK 2 nd (D6 (MZ Ao)))
  (AR (Cn (good_none rfl).own rfl (Lc rfl T.b_range (AH ge_int (AH (BP Ge (CG T.c_Web.cl T.n_Web_places (AA (pv 0)) rfl) ge_int) Ao))) (By 3 nd)
  (AR (CK 4 nd (gcl T.d_lasting (MQ T) hr (AH (AA (pv 0)) (AH (AA (pv 3)) (AH (AA (pv 1)) Ao)))))
  (AR (D1 (K5 (Dm (gcl T.d__law_kept (W3 T) hr (AH (CG T.c_Web.cl T.n_Web_places (AA (pv 0)) rfl) (AH (AA (pv 2)) (AH (AA (pv 4)) Ao)))))) (AX (Bc ID)) CA)
  (AR (D1 (K5 (ig (ir rfl rfl T.b_all (D6 (E6 (own:=["standing"]) (N':=["standing", "web", "·2", "·3", "·4", "·5"]) rfl (D7 (by kernel_rfl)) (Cu (AA (pv 4))) (λ_ _ _ _ _ _=>(By 0 (by decide +kernel:(["standing", "web", "·2", "·3", "·4", "·5"]:List Str).Nodup))) (λ_ _ _ _ _ _=>Ee) (λ_ _ _ _ _ _=>(K9 Zu (gcl T.d_first_unwatched (O5 T) hr (AH (AA (pv 1)) (AH (AA (pv 0)) Ao))) Mb (Dw _)))))))) (AX (Bc ID)) CA)
  (AR (D1 (FM (oI hu) (K9 bL (AA (pv 3)) (gcl T.d_fewest (dN T) hr (AH (AA (pv 0)) (AH (AA (pv 1)) Ao))) (Dw _)) (K9 (M1 hu) (AA (pv 4)) (D6 (MZ Ao)) (Dw _)) (Dw _)) (AX (Bc ID)) CA)
  (AR (D1 (FM (oI hu) (K9 Zu (gcl T.d_guide_paper (Tr T) hr (AH (AA (pv 0)) (AH (AA (pv 3)) (AH (AA (pv 1)) Ao)))) Mb (Dw _)) (K9 mD (gcl T.d_caller_paper (Rx T) hr (AH (AA (pv 0)) (AH (AA (pv 3)) (AH (AA (pv 1)) Ao)))) Mb (Dw _)) (Dw _)) (AX (Bc ID)) CA)
  (AX (CK 2 nd (AA (pv 4))))))))))
  (AX (Bc (K9 (M1 hu) (Q3 rfl T.b_len (AA (pv 2))) ge_int (Dw _))))))
theorem qB:BU ["script", "places", "pairs", "web", "guards", "every"] ["script"] (Ay bC):=Ek
theorem qp(T:Txt K mg W):Cg P w K mg base (CXG P w) 21 T.d_law.f T.d_law.fd ["script"] (spM K 1 (bo W)):=by
 refine BO (k:=20) T.d_law.F qB rfl λ_ _ _ _ _ _ hr hu nd=>?_
 exact(AR (re (gcl T.d__law_small_web (Py T) hr (AH (AA (pv 0)) (AH (BP Ge ge_int (me rfl T.b_int (K9 (M1 hu) (BP MV (gcl T.d__law_cell_at (JE T) hr (AH (AA (pv 0)) (AH ge_int Ao))) ge_int) ge_int (Dw _)))) Ao))) (PB rfl (Ef (By 1 nd) (Ef (By 2 nd) Ma))))
  (AR (CK 3 nd (SW T.c_Web.mk' (YV T) (good_none rfl).pass (hr.mono (by decide)) rfl T.c_Web.m T.d_Web_init.b (AH (AA (pv 1)) (AH (AA (pv 2)) Ao))))
  (AR (D1 (ie (oW (K5 (Dm (gcl T.d__law_kind (Pz T) hr (AH (AA (pv 3)) (AH Q2 Ao))))) (ic (K5 (Dm (gcl T.d__law_kind (Pz T) hr (AH (AA (pv 3)) (AH Q2 Ao)))))))) (AX (Bc ID)) CA)
  (AR (Cn (good_none rfl).own rfl (Lc rfl T.b_range (AH ge_int (AH (BP Ge (AA (pv 1)) ge_int) Ao))) (By 4 nd)
  (AR (CK 5 nd (gcl T.d_lasting (MQ T) hr (AH (AA (pv 3)) (AH (AA (pv 4)) (AH Q2 Ao)))))
  (AX (D1 (K5 (ig (ir rfl rfl T.b_all (D6 (E6 (own:=["standing"]) (N':=["standing", "·1", "·2", "·3", "·4", "·5", "every"]) rfl (D7 (by kernel_rfl)) (Cu (gcl T.d_lasting (MQ T) hr (AH (AA (pv 3)) (AH (AA (pv 4)) (AH Q2 Ao))))) (λ_ _ _ _ _ _=>(By 0 (by decide +kernel:(["standing", "·1", "·2", "·3", "·4", "·5", "every"]:List Str).Nodup))) (λ_ _ _ _ _ _=>Ee) (λ_ _ _ _ _ _=>(vH hu (AA (pv 0)) (AA (pv 6))))))))) (AX (Bc ID)) CA))))
  (AX (Bc ID))))))
end
open PySem L2
open Srt (ltL)
def pairD(x:Int×Int):D:=.tup [.int x.1,.int x.2]
def nrm(x:Int×Int):Int×Int:=(if x.2 < x.1 then x.2 else x.1,if x.2 > x.1 then x.2 else x.1)
def Ww(x:Int×Int):List Int:=[x.1,x.2]
def P5(x:Int×Int):List Key:=[.inl x.1,.inl x.2]
theorem Yh(h:P5 x=P5 y):x=y:=by
 unfold P5 at h;simp at h;exact Prod.ext h.1 h.2
theorem O9:∀ns:List Int,JL (ns.map D.int)=some ns
 | []=>rfl
 | n :: ns=>by
  rw[BC];unfold JL;rw[O9 ns];rfl
theorem Tj:∀rs:List (List Int),(∀r∈rs,r≠[])->Vi (rs.map Rs)=some rs
 | [],_=>rfl
 | [] :: rs,h=>zX rfl (h [] AV)
 | (n :: ns) :: rs,h=>by
  rw[BC];unfold Rs Vi;rw[O9,show ah (λr:List Int=>D.tup (r.map D.int)) rs=rs.map Rs from rfl,Tj rs λr hr=>h r (AS _ hr)]
theorem Zf(rs:List (List Int))(h:∀r∈rs,r≠[])(hn:rs.length < 64):LV (rs.map Rs)=some ((Pn rs).map Rs):=by
 unfold LV;rw[qX (by rw[AF];exact hn)]
 cases rs with
 | nil=>simp[JL,Pn]
 | cons r rs=>
  have:JL ((r :: rs).map Rs)=none:=rfl;rw[this,Tj _ h]
theorem Zg(ns:List Int)(hn:ns.length < 64):LV (ns.map D.int)=some ((CF ns).map D.int):=by
 unfold LV;rw[qX (by rw[AF];exact hn)];rw[O9]
def Nl(ps:List (Int×Int)):List (List Key×D):=ps.map λx=>(P5 (nrm x),.bl true)
theorem iH(ps:List (Int×Int))(x:Int×Int):(Aj (Nl ps) (P5 (nrm x))).isSome=decide (nrm x∈ps.map nrm):=by
 unfold Aj Nl
 induction ps with
 | nil=>rfl
 | cons y ps ih=>
  rw[BC,CT]
  by_cases e:P5 (nrm y)=P5 (nrm x)
  ·rw[wX e]
   simp[Yh e]
  ·rw[wY e]
   have e':nrm x≠nrm y:=λz=>e (by rw[z])
   simp only[BC,Ae,e',false_or];exact ih
theorem iG(ps:List (Int×Int))(x:Int×Int)(h:nrm x∉ps.map nrm):CJ (Nl ps) (P5 (nrm x)) (.bl true)=Nl (ps++[x]):=by
 unfold CJ;rw[qY]
 ·simp[Nl]
 ·intro z
  obtain⟨y,hy,e⟩:=Go.mp z;obtain⟨a,ha,rfl⟩:=BD.mp hy;exact h (by rw[<-Yh (of_decide_eq_true e)];exact cN ha)
theorem u7(h:S[n]?=some (.dT f'))(neg:Bool):inA neg (pairD x) (.ref n) S=.ok (.bl (if neg then !(Aj f' (P5 x)).isSome else(Aj f' (P5 x)).isSome)) S:=by
 show Ky (inD neg (pairD x) (.ref n) S) (OZ neg (pairD x) (.ref n) S)=_
 have e:inD neg (pairD x) (.ref n) S=.bad:=by
  unfold inD HG;dsimp only;rw[h]
 have e2:Oa (.ref n) (pairD x) S=some (Aj f' (P5 x)):=by
  unfold Oa pairD;dsimp only;rw[h];rfl
 rw[e];show OZ neg (pairD x) (.ref n) S=_;unfold OZ;rw[e2]
theorem jE(hv:mv e S=.ok v S)(ho:mo e S=.ok (.ref d) S)(hi:mi e S=.ok (pairD x) S)(h:S[d]?=some (.dT f'))(hl:f'.length < sizeLine) :
  DE mo mi mv e S=.ok (.nx e) (S.set d (.dT (CJ f' (P5 x) v))):=by
 unfold DE;rw[hv];dsimp only[Res.lift];rw[ho];dsimp only[Res.lift];rw[hi];dsimp only[Res.lift]
 have:R7 (.ref d) (pairD x) v S=some (S.set d (.dT (CJ f' (P5 x) v))):=by
  unfold R7 pairD;dsimp only;rw[h];show(if f'.length < sizeLine then some (S.set d (.dT (CJ f' (P5 x) v)))else none)=_;rw[qX hl]
 rw[this]
theorem ix0(x:Int×Int)(S:Sto):ixA (pairD x) (.int 0) S=.ok (.int x.1) S:=rfl
theorem ix1(x:Int×Int)(S:Sto):ixA (pairD x) (.int 1) S=.ok (.int x.2) S:=rfl
def Fit(p:Int)(x:Int×Int):Prop:=(nrm x).1≠(nrm x).2/\0<=(nrm x).1/\(nrm x).2 < p
abbrev sQ(W:Wd):MS:=BK (CP 5 (Jx (AN (mQ Vp (AN (AE 3) (AN (AE 4) BL))) (AN (mQ Vr (AN (AE 3) (AN (AE 4) BL))) BL))))
  (BK (sIf (mB (m2 (eqD false) (m2 ixA (AE 5) (mC (.int 0))) (m2 ixA (AE 5) (mC (.int 1))))) Rr sNx)
  (BK (sIf (mOr (mB (m2 ltD (m2 ixA (AE 5) (mC (.int 0))) (mC (.int 0)))) (mB (m2 geD (m2 ixA (AE 5) (mC (.int 1))) (AE 0)))) Rr sNx)
  (BK (sIf (mB (m2 (inA false) (AE 5) (AE 2))) Rr sNx)
  (DE (AE 2) (AE 5) (mC (.bl true))))))
theorem W4(h:t e S=.ok false S):sIf t a sNx e S=.ok (.nx e) S:=(HB (a:=a) (b:=sNx) h).trans rfl
theorem fj(hn:S[n]?=some (.dT (Nl ps)))(hl:ps.length<=100000)(hf:Fit p x)(f4:nrm x∉ps.map nrm) :
  sQ W [sI p,some t,sR n,sI x.1,sI x.2,z5] S=oN [sI p,some t,sR n,sI x.1,sI x.2,some (pairD (nrm x))] (S.set n (.dT (Nl (ps++[x])))):=by
 have e0:CP 5 (Jx (AN (mQ Vp (AN (AE 3) (AN (AE 4) BL))) (AN (mQ Vr (AN (AE 3) (AN (AE 4) BL))) BL))) [sI p,some t,sR n,sI x.1,sI x.2,z5] S =
   oN [sI p,some t,sR n,sI x.1,sI x.2,some (pairD (nrm x))] S:=
  Jj (i:=5) (TN (ds:=[.int (nrm x).1,.int (nrm x).2]) (Cq (lC (ds:=[.int x.1,.int x.2]) (S1:=S) rfl rfl) (Cq (lC (ds:=[.int x.1,.int x.2]) (S1:=S) rfl rfl) rfl)) (by simp))
 obtain⟨f1,f2,f3⟩:=hf;refine(B1 e0).trans ((B1 (W4 (Uh (Dc (Dc rfl rfl (ix0 _ _)) (Dc rfl rfl (ix1 _ _)) (sE (wY f1)))))).trans ((B1 (W4 ((gy (Uh (Dc (Dc rfl rfl (ix0 _ _)) rfl (qv (wY (by omega)))))).trans (Uh (Dc (Dc rfl rfl (ix1 _ _)) rfl (rp (wY (by omega)))))))).trans ((B1 (W4 (Uh (Dc rfl rfl ?_)))).trans ?_)))
 ·rw[u7 hn,iH,wY f4]
  rfl
 ·rw[jE (x:=nrm x) rfl rfl rfl hn (by unfold Nl;rw[AF];exact Au hl (by decide)),iG _ _ f4]
theorem dZ(h:m e S=.ok d S1)(hx:FT d S1=some xs):D0 m e S=.ok (FT d) S1:=by
 unfold D0;rw[h];dsimp only[Res.bind];rw[hx]
def GJ(p:Int)(ps:List (Int×Int)):Prop:=(∀x∈ps,Fit p x)/\(ps.map nrm).Nodup
theorem GJ.snoc:GJ p (ps++[x])↔GJ p ps/\Fit p x/\nrm x∉ps.map nrm:=by
 unfold GJ;rw[CS,Em]
 constructor
 ·rintro⟨h1,h2,h3,h4⟩
  exact⟨⟨λy hy=>h1 y (by simp[hy]),h2⟩,h1 x (by simp),λz=>h4 _ z _ (by simp) rfl⟩
 ·rintro⟨⟨h1,h2⟩,h3,h4⟩
  refine⟨λy hy=>?_,h2,by simp,λa ha b hb e=>?_⟩
  ·rcases Ax.mp hy with hy | hy
   ·exact h1 y hy
   ·rw[AU.mp hy];exact h3
  ·simp at hb
   subst hb;subst e;exact h4 ha
theorem GJ.take(h:GJ p ps)(i:Nat):GJ p (ps.take i):=by
 refine⟨λx hx=>h.1 x (List.mem_of_mem_take hx),?_⟩;rw[oz];exact h.2.sublist (eZ _ _)
theorem take_snoc{α:Type}{l:List α}{i:Nat}{x:α}(h:l[i]?=some x):l.take (i+1)=l.take i++[x]:=by
 rw[Hx,h];rfl
theorem XS(W:Wd){p:Int}{d:D}{S:Sto}{ps:List (Int×Int)}(hv:∀S',Keeps S S'->FT d S'=some (ps.map pairD))(hl:ps.length<=31)(hf:GJ p ps) :
  ∃z3 z4 z5,Ez (D0 (AE 1)) (JK 2 (DL (tgN 3) (DL (tgN 4) Jh))) (sQ W) [sI p,some d,sR S.length,none,none,none] (S++[.dT []])=oN [sI p,some d,sR S.length,z3,z4,z5] (S++[.dT (Nl ps)]):=by
 rw[LA (dZ (m:=AE 1) (d:=d) (S1:=S++[.dT []]) rfl (hv _ (Keeps.app _ _)))]
 obtain⟨f,S',h,z3,z4,z5,rfl,rfl⟩:=Nv (v:=FT d) (g:=JK 2 (DL (tgN 3) (DL (tgN 4) Jh))) (b:=sQ W) (xs:=ps.map pairD) (e:=[sI p,some d,sR S.length,none,none,none]) (S:=S++[.dT []]) (λi e S'=>(∃z3 z4 z5,e=[sI p,some d,sR S.length,z3,z4,z5])/\S'=S++[.dT (Nl (ps.take i))]) (λf S'=>∃z3 z4 z5,f=.nx [sI p,some d,sR S.length,z3,z4,z5]/\S'=S++[.dT (Nl ps)]) ⟨⟨none,none,none,rfl⟩,by simp[Nl]⟩ (by rintro i e S' ⟨_,rfl⟩;exact hv _ (Keeps.app _ _))
  (by
   rintro i y e S' hy ⟨⟨z3,z4,z5,rfl⟩,rfl⟩;rw[AZ]at hy
   cases hx:ps[i]? with
   | none=>rw[hx]at hy;cases hy
   | some x=>
    rw[hx]at hy;cases hy;have wo:=(AD.mp hx).1;have af:=hf.take (i+1);rw[take_snoc hx]at af;obtain⟨_,c1,c2⟩:=GJ.snoc.mp af;refine⟨[sI p,some d,sR S.length,sI x.1,sI x.2,z5],_,rfl,_,_,fj (W:=W) (p:=p) (t:=d) (z5:=z5) (x:=x) (FQ S (.dT (Nl (ps.take i)))) (by rw[EE];omega) c1 c2,⟨_,_,_,rfl⟩,?_⟩;rw[take_snoc hx]
    simp)
  (by
   rintro e S' ⟨⟨z3,z4,z5,rfl⟩,rfl⟩;rw[AF,Iq]
   exact⟨_,_,_,rfl,rfl⟩)
 exact⟨z3,z4,z5,h⟩
def Lz(ps:List (Int×Int)):List (List Int):=Pn (ps.map λx=>Ww (nrm x))
theorem XT(W:Wd){p:Int}{d:D}{S:Sto}{ps:List (Int×Int)}(hv:∀S',Keeps S S'->FT d S'=some (ps.map pairD))(hl:ps.length<=31)(hf:GJ p ps) :
  ∃S',Hl W [.int p,d] S=.ok (.tup ((Lz ps).map Rs)) S'/\Keeps S S':=by
 obtain⟨z3,z4,z5,h1⟩:=XS W hv hl hf
 ·have hi:K0 (.ref S.length) (S++[.dT (Nl ps)])=some ((ps.map λx=>Ww (nrm x)).map Rs):=by
   unfold K0;dsimp only;rw[FQ];dsimp only;unfold Nl;rw[BF,BF];rfl
  have hs:=OL (m:=AE 2) (e:=[sI p,some d,sR S.length,z3,z4,z5]) (S:=S++[.dT (Nl ps)]) rfl hi (Zf _ (by intro r hr;obtain⟨x,_,rfl⟩:=BD.mp hr;simp[Ww]) (by rw[AF];lia));refine⟨S++[.dT (Nl ps)]++[.lst ((Lz ps).map Rs)],Nb ?_,(Keeps.app S _).trans (Keeps.app _ _)⟩;refine IV (B1 (e:=[sI p,some d,none,none,none,none]) (e1:=[sI p,some d,sR S.length,none,none,none]) (S:=S) (S1:=S++[.dT []]) rfl) ?_;refine IV (B1 h1) ?_;exact IK (Pm hs (Fm (FQ _ _)))
open PySem L2
def DN(ts:List (Int×Int))(x:Nat):List Int:=ts.flatMap λt=>(if t.1=(x:Int)then[t.2]else[])++(if t.2=(x:Int)then[t.1]else[])
theorem YZ(ts:List (Int×Int))(t:Int×Int)(x:Nat):DN (ts++[t]) x=DN ts x++((if t.1=(x:Int)then[t.2]else[])++(if t.2=(x:Int)then[t.1]else[])):=by
 unfold DN;rw[cQ];simp
def HP(p:Nat)(F:Nat->List Int):Sto:=(DD p).map λx=>Ob.lst ((F x).map D.int)
def Fq(k p:Nat):List D:=(DD p).map λx=>D.ref (k+x)
def stN(S:Sto)(p:Nat)(F:Nat->List Int):Sto:=S++HP p F++[.lst (Fq S.length p)]
theorem Jt(p:Nat)(F:Nat->List Int):(HP p F).length=p:=by simp[HP]
theorem Wm(S:Sto)(p:Nat)(F:Nat->List Int):(stN S p F).length=S.length+p+1:=by simp[stN,Jt];lia
theorem Qd(S:Sto)(p:Nat)(F:Nat->List Int):Keeps S (stN S p F):=(Keeps.app S _).trans (Keeps.app _ _)
theorem NV(S:Sto)(p:Nat)(F:Nat->List Int):(stN S p F)[S.length+p]?=some (.lst (Fq S.length p)):=by
 have:S.length+p=(S++HP p F).length:=by simp[Jt]
 unfold stN;rw[this];exact FQ _ _
theorem L5(S:Sto)(F:Nat->List Int)(h:a < p):(stN S p F)[S.length+a]?=some (.lst ((F a).map D.int)):=by
 unfold stN;rw[Dz,Be (by lia),A9 (by rw[Jt];lia),show S.length+a - S.length=a by lia];unfold HP;rw[AZ,DT h];rfl
theorem bB(S:Sto)(F:Nat->List Int)(ys:List Int)(h:a < p):(stN S p F).set (S.length+a) (.lst (ys.map D.int))=stN S p (λx=>if x=a then ys else F x):=by
 apply Hz
 intro j
 by_cases e:S.length+a=j
 ·subst e
  rw[Aq (by rw[Wm];lia),L5 _ _ h,qX rfl]
 ·rw[Ab e]
  by_cases h1:j < S.length
  ·rw[(Qd S p F).2 j h1,(Qd S p _).2 j h1]
  by_cases h2:j - S.length < p
  ·have e2:j=S.length+(j - S.length):=by lia
   rw[e2,L5 S F h2,L5 S _ h2,qY (by lia)]
  by_cases h3:j=S.length+p
  ·subst h3
   rw[NV,NV]
  ·rw[CB (by rw[Wm];lia),CB (by rw[Wm];lia)]
theorem ba(F:Nat->List Int)(h:a < p):ixA (.ref (S.length+p)) (.int a) (stN S p F)=.ok (.ref (S.length+a)) (stN S p F):=by
 show Ky (ixD _ _ _) _=_;have e1:HG (.ref (S.length+p)) (stN S p F)=some (Fq S.length p):=Fm (NV S p F)
 have e2:atI (Fq S.length p) (a:Int)=some (.ref (S.length+a)):=by
  unfold atI ixN;rw[show(Fq S.length p).length=p by simp[Fq],qX (by lia),qX (by lia)];simp only[AC,An];unfold Fq;rw[AZ,DT h];rfl
 have:ixD (.ref (S.length+p)) (.int a) (stN S p F)=.ok (.ref (S.length+a)) (stN S p F):=by
  unfold ixD;rw[e1];dsimp only;rw[e2]
 rw[this];rfl
theorem gB(S:Sto):∀p:Nat,S++HP (p+1) (λ_=>[])=S++HP p (λ_=>[])++[.lst []]:=λp=>by
 unfold HP;rw[NO,CS,Dz];rfl
theorem dA(hp:p<=60)(h0:mp e S=.ok (.int p) S) :
  Eo 1 (iR1 (AN mp BL)) (tgN 0) HD (FZ (Ha BL)) e S=.ok (Fq S.length p) (S++HP p λ_=>[]):=by
 have hi:iR1 (AN mp BL) e S=.ok (Gu (Ju 0 p)) S:=by
  have:=iY (ml:=AN mp BL) (e:=e) (S:=S) (S1:=S) (j:=p) (Cq h0 rfl) (by lia) (by lia);simpa using this
 obtain⟨r,S1,q1,e',⟨z,_⟩,rfl,rfl⟩:=b5 (v:=Gu (Ju 0 p)) (g:=tgN 0) (c:=HD) (m:=FZ (Ha BL)) (xs:=Ju 0 p) (e:=none :: e) (S:=S)
  (λi e' S' acc=>(∃z,e'=z :: e)/\S'=S++HP i (λ_=>[])/\acc=Fq S.length i)
  ⟨⟨none,rfl⟩,by simp[HP],rfl⟩ (λ_ _ _ _ _=>rfl)
  (by
   rintro i d e' S' acc hd ⟨⟨z,rfl⟩,rfl,rfl⟩;obtain⟨hi,rfl⟩:=gX hd;refine⟨by simp[Fq];exact Au (m:=60) (by lia) (by decide),some (.int (0+i)) :: e,_,rfl,true,_,rfl,.inl ⟨rfl,.ref (S++HP i λ_=>[]).length,_,rfl,⟨_,rfl⟩,(gB S i).symm,?_⟩⟩;unfold Fq;rw[NO,CS,AY,Jt]
   rfl)
 rw[dC]at q1;exact(XQ hi).trans q1
abbrev cA:MS:=BK (Il (P0 (m2 ixA (AE 2) (AE 3)) (AE 4))) (Il (P0 (m2 ixA (AE 2) (AE 4)) (AE 3)))
def In(p:Nat)(t:Int×Int):Prop:=0<=t.1/\t.1 < p/\0<=t.2/\t.2 < p/\t.1≠t.2
theorem c9(ht:In p t)(hF:∀x,(F x).length < 200000) :
  cA [some d0,some d1,sR (S.length+p),sI t.1,sI t.2] (stN S p F)=.ok (.nx [some d0,some d1,sR (S.length+p),sI t.1,sI t.2])
   (stN S p λx=>F x++((if t.1=(x:Int)then[t.2]else[])++(if t.2=(x:Int)then[t.1]else[]))):=by
 obtain⟨a,ha⟩:∃a:Nat,t.1=a:=⟨t.1.toNat,by have:=ht.1;lia⟩
 obtain⟨b,hb⟩:∃b:Nat,t.2=b:=⟨t.2.toNat,by have:=ht.2.2.1;lia⟩
 obtain⟨_,h2,_,h4,h5⟩:=ht
 have hab:a≠b:=λe=>h5 (by rw[ha,hb,e])
 rw[ha,hb]
 have hz:∀x,((F x).map D.int).length < sizeLine:=λx=>by rw[AF];exact tU (hF x) (by decide)
 have s1:=XY (mo:=m2 ixA (AE 2) (AE 3)) (ma:=AE 4) (e:=[some d0,some d1,sR (S.length+p),sI a,sI b]) (S:=stN S p F) (S1:=stN S p F) (S2:=stN S p F) (n:=S.length+a) (y:=.int b) (Dc rfl rfl (ba F (by lia))) (L5 S F (by lia)) rfl (L5 S F (by lia)) (hz a);rw[show(F a).map D.int++[D.int b]=(F a++[(b:Int)]).map D.int by simp,bB S F _ (by lia)]at s1
 have ϑ:(stN S p λx=>if x=a then F a++[(b:Int)]else F x)[S.length+b]?=some (.lst ((F b).map D.int)):=by
  rw[L5 S _ (by lia),qY (Br hab)]
 have s2:=XY (mo:=m2 ixA (AE 2) (AE 4)) (ma:=AE 3) (e:=[some d0,some d1,sR (S.length+p),sI a,sI b]) (S:=stN S p λx=>if x=a then F a++[(b:Int)]else F x) (S1:=stN S p λx=>if x=a then F a++[(b:Int)]else F x) (S2:=stN S p λx=>if x=a then F a++[(b:Int)]else F x) (n:=S.length+b) (y:=.int a) (Dc rfl rfl (ba _ (by lia))) ϑ rfl ϑ (hz b);rw[show(F b).map D.int++[D.int a]=(F b++[(a:Int)]).map D.int by simp,bB S _ _ (by lia)]at s2;unfold cA;rw[B1 (QB s1),QB s2]
 congr 2
 funext x
 by_cases e1:x=b
 ·subst e1
  have:¬((a:Int)=(x:Int)):=by lia
  simp[this]
 ·by_cases e2:x=a
  ·subst e2
   have:¬((b:Int)=(x:Int)):=by lia
   simp[e1,this]
  ·have h1:¬((a:Int)=(x:Int)):=by lia
   have h2:¬((b:Int)=(x:Int)):=by lia
   simp[e1,e2,h1,h2]
theorem UA(ts:List (Int×Int))(x:Nat):(DN ts x).length<=2 * ts.length:=by
 unfold DN
 induction ts with
 | nil=>simp
 | cons t ts ih=>
  rw[RK,AY,Av]
  have:((if t.1=(x:Int)then[t.2]else[])++(if t.2=(x:Int)then[t.1]else[])).length<=2:=by split <;> split <;> simp
  lia
def Qg(p:Nat)(ts:List (Int×Int)):List D:=(DD p).map λx=>.tup ((CF (DN ts x)).map D.int)
theorem mE(W:Wd)(hp:p<=60)(ht:∀t∈ts,In p t)(hl:ts.length<=31)(S:Sto) :
  ∃S',Hi W [.int p,.tup (ts.map pairD)] S=.ok (.tup (Qg p ts)) S'/\Keeps S S':=by
 have a1:=Jj (i:=2) (Zv (dA hp (mp:=AE 0) (e:=[sI p,some (.tup (ts.map pairD)),none,none,none]) (S:=S) rfl));have e1:(S++HP p λ_=>[])++[.lst (Fq S.length p)]=stN S p (DN []):=rfl
 have e2:(S++HP p λ_=>[]).length=S.length+p:=by simp[Jt]
 rw[e1,e2]at a1
 obtain⟨f,S1,h1,⟨z3,z4,rfl⟩,rfl⟩:=Nv (v:=Gu (ts.map pairD)) (g:=JK 2 (DL (tgN 3) (DL (tgN 4) Jh))) (b:=cA) (xs:=ts.map pairD) (e:=[sI p,some (.tup (ts.map pairD)),sR (S.length+p),none,none]) (S:=stN S p (DN []))
  (λi e S'=>(∃z3 z4,e=[sI p,some (.tup (ts.map pairD)),sR (S.length+p),z3,z4])/\S'=stN S p (DN (ts.take i)))
  (λf S'=>(∃z3 z4,f=.nx [sI p,some (.tup (ts.map pairD)),sR (S.length+p),z3,z4])/\S'=stN S p (DN ts))
  ⟨⟨none,none,rfl⟩,rfl⟩ (λ_ _ _ _=>rfl)
  (by
   rintro i y e S' hy ⟨⟨z3,z4,rfl⟩,rfl⟩;rw[AZ]at hy
   cases hx:ts[i]? with
   | none=>rw[hx]at hy;cases hy
   | some t=>
    rw[hx]at hy;cases hy;refine⟨[sI p,some (.tup (ts.map pairD)),sR (S.length+p),sI t.1,sI t.2],_,rfl,_,_,c9 (ht t (BB hx)) (λx=>?_),⟨_,_,rfl⟩,?_⟩
    ·have:=UA (ts.take i) x
     rw[EE]at this;exact Au (At this (Nat.mul_le_mul_left 2 (At (jp _ _) hl))) (by decide)
    ·rw[take_snoc hx,show DN (ts.take i++[t])=_ from funext λx=>YZ _ _ x])
  (by
   rintro e S' ⟨⟨z3,z4,rfl⟩,rfl⟩;rw[AF,Iq]
   exact⟨⟨_,_,rfl⟩,rfl⟩)
 have a2:=(LA (g:=JK 2 (DL (tgN 3) (DL (tgN 4) Jh))) (b:=cA) (UL (m:=AE 1) (e:=[sI p,some (.tup (ts.map pairD)),sR (S.length+p),none,none]) (S:=stN S p (DN [])) (S1:=stN S p (DN [])) (xs:=ts.map pairD) rfl)).trans h1
 obtain⟨r,S2,q1,e',⟨z,_⟩,K,rfl⟩:=b5 (v:=FT (.ref (S.length+p))) (g:=tgN 0) (c:=HD) (m:=Gf (GX (AE 0))) (xs:=Fq S.length p) (e:=[none,sI p,some (.tup (ts.map pairD)),sR (S.length+p),z3,z4]) (S:=stN S p (DN ts))
  (λi e' S' acc=>(∃z,e'=[z,sI p,some (.tup (ts.map pairD)),sR (S.length+p),z3,z4])/\Keeps (stN S p (DN ts)) S'/\acc=(DD i).map λx=>.tup ((CF (DN ts x)).map D.int))
  ⟨⟨none,rfl⟩,.refl _,rfl⟩ (λi e' S' acc h=>Da (h.2.1.at (NV S p _)))
  (by
   rintro i d e' S' acc hd ⟨⟨z,rfl⟩,K,rfl⟩
   have hi:i < p:=by
    have:=(AD.mp hd).1;simpa[Fq]using this
   unfold Fq at hd;rw[AZ,DT hi]at hd;cases hd;have hit:K0 (.ref (S.length+i)) S'=some ((DN ts i).map D.int):=Z8 (K.at (L5 S _ hi));have hs:=OL (m:=AE 0) (e:=[sR (S.length+i),sI p,some (.tup (ts.map pairD)),sR (S.length+p),z3,z4]) (S:=S') (S1:=S') rfl hit (Zg _ (by have:=UA ts i;lia));refine⟨by simp;exact Au (m:=60) (by lia) (by decide),[sR (S.length+i),sI p,some (.tup (ts.map pairD)),sR (S.length+p),z3,z4],_,rfl,true,_,rfl,.inl ⟨rfl,_,_,Pm hs (Fm (FQ _ _)),⟨_,rfl⟩,K.trans (Keeps.app _ _),?_⟩⟩;rw[NO,CS]
   rfl)
 have a3:=(XQ (n:=1) (g:=tgN 0) (c:=HD) (m:=Gf (GX (AE 0))) (Lb (m:=AE 2) (e:=[sI p,some (.tup (ts.map pairD)),sR (S.length+p),z3,z4]) (S:=stN S p (DN ts)) (S1:=stN S p (DN ts)) rfl (NV S p _))).trans q1;rw[show(Fq S.length p).length=p by simp[Fq]]at a3;refine⟨S2++[.lst (Qg p ts)],Nb ?_,((Qd S p _).trans K).trans (Keeps.app _ _)⟩;unfold N8;refine IV (B1 a1) ?_;refine IV (B1 a2) ?_;exact IK (Pm (Zv a3) (Fm (FQ _ _)))
open PySem L2
open Srt (ltL)
def toP(r:List Int):Int×Int:=(r.getD 0 0,r.getD 1 0)
def JQ(ps:List (Int×Int)):List (Int×Int):=(Lz ps).map toP
theorem TQ(h:r∈Lz ps):∃x∈ps,r=Ww (nrm x):=by
 have:=(Ji _).mem_iff.mp h;obtain⟨x,hx,rfl⟩:=BD.mp this;exact⟨x,hx,rfl⟩
theorem cc(ps:List (Int×Int)):(JQ ps).map Ww=Lz ps:=by
 unfold JQ;rw[BF]
 conv=>rhs;rw[<-Sm (Lz ps)]
 refine DS λr hr=>?_
 obtain⟨x,_,rfl⟩:=TQ hr;rfl
theorem Za(ps:List (Int×Int)):(Lz ps).map Rs=(JQ ps).map pairD:=by
 rw[<-cc,BF];rfl
theorem fb(h:t∈JQ ps):∃x∈ps,t=nrm x:=by
 obtain⟨r,hr,rfl⟩:=BD.mp h;obtain⟨x,hx,rfl⟩:=TQ hr;exact⟨x,hx,rfl⟩
theorem Qb(ps:List (Int×Int)):(JQ ps).Perm (ps.map nrm):=by
 unfold JQ Lz;have:=(Ji (ps.map λx=>Ww (nrm x))).map toP;refine this.trans ?_;rw[BF];exact List.Perm.of_eq rfl
theorem qr(x:Int×Int):(nrm x).1<=(nrm x).2:=by
 unfold nrm;dsimp only
 split <;> split <;> lia
theorem Fit.in{p:Nat}{x:Int×Int}(h:Fit p x):In p (nrm x):=by
 obtain⟨h1,h2,h3⟩:=h;have:=qr x;exact⟨h2,by lia,by lia,h3,h1⟩
theorem um:¬(("places" : Str) = "ties"):=by decide +kernel
theorem uo:¬(("places" : Str) = "near_sets"):=by decide +kernel
theorem ul:¬(("ties" : Str) = "near_sets"):=by decide +kernel
theorem put2(a b:D):KO "ties" b [(("places" : Str),a)]=([("places",a),("ties",b)]:List (Str×D)):=by
 show(if ("places" : Str) = "ties" then _ else _)=_;rw[qY um];rfl
theorem put3(a b c:D):KO "near_sets" c [(("places" : Str),a),("ties",b)]=([("places",a),("ties",b),("near_sets",c)]:List (Str×D)):=by
 show(if ("places" : Str) = "near_sets" then _ else _)=_;rw[qY uo]
 have:KO "near_sets" c [(("ties" : Str),b)]=([("ties",b),("near_sets",c)]:List (Str×D)):=by
  show(if ("ties" : Str) = "near_sets" then _ else _)=_;rw[qY ul];rfl
 rw[this]
theorem uw(a b c:D):([("places",a),("ties",b),("near_sets",c)]:List (Str×D)).lookup ("places" : Str)=some a:=by
 rw[Bd,show(("places" : Str)=="places")=true by decide +kernel]
theorem uv(a b c:D):([("places",a),("ties",b),("near_sets",c)]:List (Str×D)).lookup ("near_sets" : Str)=some c:=by
 rw[Bd,show(("near_sets" : Str)=="places")=false by decide +kernel];dsimp only;rw[Bd,show(("near_sets" : Str)=="ties")=false by decide +kernel];dsimp only;rw[Bd,show(("near_sets" : Str)=="near_sets")=true by decide +kernel]
theorem qw(a b:D):([("places",a),("ties",b)]:List (Str×D)).lookup ("ties" : Str)=some b:=by
 rw[Bd,show(("ties" : Str)=="places")=false by decide +kernel];dsimp only;rw[Bd,show(("ties" : Str)=="ties")=true by decide +kernel]
open PySem L2 L4
def DU(W:Wd)(w:Nat×List (Int×Int)):Ob:=.ins W.Web [("places",.int w.1),("ties",.tup (w.2.map pairD)),("near_sets",.tup (Qg w.1 w.2))]
def Qt(p:Nat)(ts:List (Int×Int)):List (List Int):=(DD p).map λx=>CF (DN ts x)
theorem iD(p:Nat)(ts:List (Int×Int)):D.tup (Qg p ts)=eT (eT D.int) (Qt p ts):=by
 unfold Qg Qt eT;rw[BF];rfl
open Classical in
def fA(x:Int)(l:List (Int×Int)):Option (Nat×List (Int×Int)):=if 1<=x/\x<=60/\GJ x l/\l.length<=31 then some (x.toNat,JQ l)else none
section
variable{W:Wd}{A:List Sl}{a b m:ME}{p:Option (Nat×List (Int×Int))}
theorem ax{α:Type}{f:Str}{enc:α->D}{g:Nat×List (Int×Int)->α}(h:VE A m (rO (DU W)) p)(hl:∀w,([("places",D.int w.1),("ties",.tup (w.2.map pairD)),("near_sets",.tup (Qg w.1 w.2))]:List (Str×D)).lookup f=some (enc (g w))):VE A (DC W.Web f m) (rV enc) (p.bind λw=>some (g w)):=λv hv S0 e F S hs=>by
 obtain⟨w,h1,h2⟩:=Aw hv;cases h2;obtain⟨d,S',h3,h4,n,rfl,hn⟩:=h w h1 S0 e F S hs;exact⟨_,S',LB h3 hn (hl w),h4,rfl⟩
theorem EV(h:VE A m (rO (DU W)) p):VE A (DC W.Web "places" m) (rV D.int) (p.bind λw=>some (w.1:Int)):=ax h λw=>uw _ _ _
theorem kH(h:VE A m (rO (DU W)) p):VE A (DC W.Web "near_sets" m) (rV (eT (eT D.int))) (p.bind λw=>some (Qt w.1 w.2)):=ax h λw=>by rw[<-iD];exact uv _ _ _
theorem pE(W:Wd){p:Nat}(h1:1<=p)(hp:p<=60){d:D}{S:Sto}{ps:List (Int×Int)}(hv:∀S',Keeps S S'->FT d S'=some (ps.map pairD))(hl:ps.length<=31)(hf:GJ p ps){e:Lo}{ml:ML}{S0:Sto}(ha:ml e S0=.ok [.int p,d] S) :
  ∃S',Ol W.Web 3 (Mj W) ml e S0=.ok (.ref S.length) S'/\Keeps S S'/\S'[S.length]?=some (DU W (p,JQ ps)):=by
 have t0:Nn (mB (m3 leD leD (mC (.int 1)) (AE 1) (mC (.int 60)))) [sR S.length,sI p,some d] (S++[.ins W.Web []])=.ok false (S++[.ins W.Web []]):=
  O7 (b:=true) (Uh (oR (S3:=S++[.ins W.Web []]) rfl rfl (iO (wX (by omega))) rfl (iO (wX (by omega)))))
 have zy:(S++[Ob.ins W.Web []])[S.length]?=some (.ins W.Web []):=FQ _ _;have e1:=SI (C:=W.Web) (f:="places") (mo:=AE 0) (mv:=AE 1) (e:=[sR S.length,sI p,some d]) (S:=S++[.ins W.Web []]) (v:=.int p) rfl rfl zy (by decide);have K1:Keeps S ((S++[Ob.ins W.Web []]).set S.length (.ins W.Web (KO "places" (.int p) []))):=(Keeps.app S _).set (AO _) _;generalize hS1:(S++[Ob.ins W.Web []]).set S.length (.ins W.Web (KO "places" (.int p) []))=S1 at e1 K1
 have yw:S1[S.length]?=some (.ins W.Web [("places",.int p)]):=by rw[<-hS1];exact Aq (by simp)
 obtain⟨S2,c2,K2⟩:=XT W (p:=p) (d:=d) (S:=S1) (ps:=ps) (λS' k=>hv S' (K1.trans k)) hl hf;rw[Za]at c2;have e2:=SI (C:=W.Web) (f:="ties") (mo:=AE 0) (mv:=Bp 2 (Hl W) (AN (AE 1) (AN (AE 2) BL))) (e:=[sR S.length,sI p,some d]) (S:=S1) ((Mp rfl rfl).trans c2) rfl (K2.at yw) (by simp);have K3:Keeps S (S2.set S.length (.ins W.Web (KO "ties" (.tup ((JQ ps).map pairD)) [("places",.int p)]))):=(K1.trans K2).set (AO _) _;rw[put2]at e2 K3;have hlt2:S.length < S2.length:=(AD.mp (K2.at yw)).1;generalize hS3:S2.set S.length (.ins W.Web [("places",.int p),("ties",.tup ((JQ ps).map pairD))])=S3 at e2 K3
 have zE:S3[S.length]?=some (.ins W.Web [("places",.int p),("ties",.tup ((JQ ps).map pairD))]):=by rw[<-hS3];exact Aq hlt2
 obtain⟨S4,c4,K4⟩:=mE W hp (ts:=JQ ps) (λt ht=>by
  obtain⟨x,hx,rfl⟩:=fb ht
  exact(hf.1 x hx).in) (by rw[(Qb ps).length_eq,AF];exact hl) S3
 have e3:=SI (C:=W.Web) (f:="near_sets") (mo:=AE 0) (mv:=Bp 2 (Hi W) (AN (AE 1) (AN (DC W.Web "ties" (AE 0)) BL))) (e:=[sR S.length,sI p,some d]) (S:=S3)
  ((Mp (Cq (S1:=S3) rfl (Cq (LB rfl zE (qw _ _)) rfl)) rfl).trans c4) rfl (K4.at zE) (by simp)
 have hlt4:S.length < S4.length:=(AD.mp (K4.at zE)).1;rw[put3]at e3;refine⟨_,bT ha rfl (Zo (e:=[sR S.length,sI p,some d]) ?_),(K3.trans K4).set (AO _) _,Aq hlt4⟩;unfold Ud;refine IV (B1 (e:=[sR S.length,sI p,some d]) (e1:=[sR S.length,sI p,some d]) (S1:=S++[.ins W.Web []]) (IV (HB t0) rfl)) ?_;rw[B1 e1,B1 e2];exact e3
theorem pI{pa:Option Int}{pl:Option (List (Int×Int))}(ha:VE A a (rV D.int) pa)(hb:VE A b (rO (oL (eP D.int D.int))) pl):VE A (Ol W.Web 3 (Mj W) (AN a (AN b BL))) (rN (DU W)) (pa.bind λx=>pl.bind λl=>fA x l):=λv hv S0 e F S hs=>by
 obtain⟨x,h1,hv⟩:=Aw hv;obtain⟨l,h2,h3⟩:=Aw hv;obtain⟨d1,S1,q1,k1,rfl⟩:=ha x h1 S0 e F S hs;obtain⟨d2,S2,q2,k2,n,rfl,hn⟩:=hb l h2 S0 e _ S1 (hs.grow k1);unfold fA at h3;split at h3
 ·rename_i hc
  cases h3;obtain⟨c1,c2,c3,c4⟩:=hc;have hx:((x.toNat:Nat):Int)=x:=As (by omega);obtain⟨S3,h5,h6,h7⟩:=pE W (p:=x.toNat) (d:=.ref n) (S:=S2) (ps:=l) (by omega) (by omega) (λS' k=>Da (k.at hn)) c4 (by rw[hx];exact c3) (ml:=AN a (AN b BL)) (e:=e) (S0:=S) (by rw[hx];exact Cq q1 (Cq q2 rfl));exact⟨_,S3,h5,(k1.trans k2).trans h6,_,rfl,(k1.trans k2).1,h7⟩
 ·cases h3
end
def K2(h s:Nat)(S S':Sto):Prop:=S.length<=S'.length/\∀j,j < S.length->j≠h->j≠s->S'[j]?=S[j]?
theorem K2.trans(a:K2 h s S S1)(b:K2 h s S1 S2):K2 h s S S2:=⟨At a.1 b.1,λj q q1 q2=>(b.2 j (AT q a.1) q1 q2).trans (a.2 j q q1 q2)⟩
theorem K2.of{h s:Nat}{S S1:Sto}(a:Keeps S S1):K2 h s S S1:=⟨a.1,λj q _ _=>a.2 j q⟩
theorem K2.seth(a:K2 h s S S1)(o:Ob):K2 h s S (S1.set h o):=⟨by rw[D3];exact a.1,λj q q1 q2=>by rw[Ab (Br q1)];exact a.2 j q q1 q2⟩
theorem K2.sets(a:K2 h s S S1)(o:Ob):K2 h s S (S1.set s o):=⟨by rw[D3];exact a.1,λj q q1 q2=>by rw[Ab (Br q2)];exact a.2 j q q1 q2⟩
theorem K2.at(a:K2 h s S S1)(hj:S[j]?=some o)(h1:j≠h)(h2:j≠s):S1[j]?=some o:=by rw[a.2 j (BW hj) h1 h2];exact hj
def Tk(ξ:List (List Int))(g:Int):List Int:=(atI ξ g).getD []
theorem sJ{κv}{enc}{l}{S}{n}(hn:S[n]?=some (oDK enc l))(hl:l.length < 1000000)(k:Int)(v:κv):R7 (.ref n) (.int k) (enc v) S=some (S.set n (oDK enc (CJ l k v))):=by
 unfold R7;dsimp only;rw[hn];show(if (l.map _).length < sizeLine then some (S.set n (.dK (CJ (l.map λx=>(D2 x.1,enc x.2)) (D2 k) (enc v))))else none)=_;rw[qX (by rw[AF];exact Z3 hl),Tn SR];rfl
theorem SX{κv:Type}{enc:κv->D}{l:List (Int×κv)}{mo mi mv:ME}{e:Lo}{S:Sto}{n:Nat}{k:Int}{v:κv}(hv:mv e S=.ok (enc v) S)(ho:mo e S=.ok (.ref n) S)(hi:mi e S=.ok (.int k) S)(hn:S[n]?=some (oDK enc l))(hl:l.length < 1000000):DE mo mi mv e S=.ok (.nx e) (S.set n (oDK enc (CJ l k v))):=by
 unfold DE;rw[hv];dsimp only[Res.lift];rw[ho];dsimp only;rw[hi];dsimp only;rw[sJ hn hl]
theorem MJ{κ α:Type}[DecidableEq κ]{l l':List (κ×α)}{k:κ}{v:α}(h:KN l k v=some l'):l.length < 1000000/\l'=CJ l k v:=by
 unfold KN at h;split at h
 ·rename_i c;cases h;exact⟨c,rfl⟩
 ·cases h
theorem cV(ht:S[tN]?=some (oL (eT D.int) ξ))(hh:S[hN]?=some (oDK D.int H))(hs:S[sN]?=some (oDK D.bl Q))(wg:hN≠sN) :
  ∃F,Vs [] [.z (oL (eT D.int) ξ),.v (D.int bits),.w 2 (oDK D.int H),.v (D.int g),.w 4 (oDK D.bl Q),.u,.u] [sR tN,sI bits,sR hN,sI g,sR sN,none,none] F S:=by
 have t1:tN≠hN:=λc=>by rw[c,hh]at ht;cases ht
 have t2:tN≠sN:=λc=>by rw[c,hs]at ht;cases ht
 refine⟨λn=>if n=hN then .ow 2 else if n=sN then .ow 4 else match S[n]? with | some o=>.fz o | none=>.no,⟨ED _,λj h=>(nomatch h)⟩,λn o q=>?_,λn i q=>?_,λn hn=>?_,λi a ha=>?_⟩
 ·split at q
  ·cases q
  ·split at q
   ·cases q
   ·cases w:S[n]? with
    | none=>rw[w]at q;cases q
    | some o'=>rw[w]at q;cases q;rfl
 ·refine⟨ED _,?_⟩
  split at q
  ·rename_i c;rw[c];exact BW hh
  ·split at q
   ·rename_i c;rw[c];exact BW hs
   ·cases w:S[n]? with
    | none=>rw[w]at q;cases q
    | some o'=>rw[w]at q;cases q
 ·show(if n=hN then Cel.ow 2 else if n=sN then .ow 4 else match S[n]? with | some o=>.fz o | none=>.no)=_
  rw[qY λc=>zX (BW hh) (by rw[<-c];omega),qY λc=>zX (BW hs) (by rw[<-c];omega),CB hn]
 ·match i,ha with
  | 0,ha=>cases ha;exact⟨_,rfl,tN,rfl,by show(if tN=hN then Cel.ow 2 else if tN=sN then .ow 4 else match S[tN]? with | some o=>.fz o | none=>.no)=_;rw[qY t1,qY t2,ht]⟩
  | 1,ha=>cases ha;exact⟨_,rfl,rfl⟩
  | 2,ha=>cases ha;exact⟨_,rfl,hN,rfl,qX rfl,hh⟩
  | 3,ha=>cases ha;exact⟨_,rfl,rfl⟩
  | 4,ha=>cases ha;exact⟨_,rfl,sN,rfl,by show(if sN=hN then Cel.ow 2 else if sN=sN then .ow 4 else match S[sN]? with | some o=>.fz o | none=>.no)=_;rw[qY (Br wg),qX rfl],hs⟩
  | 5,ha=>cases ha;exact⟨_,rfl,trivial⟩
  | 6,ha=>cases ha;exact⟨_,rfl,trivial⟩
  | i+7,ha=>cases ha
abbrev oP:ME:=FZ (Eo 1 (D0 (m2 ixA (AE 0) (AE 3))) (tgN 0) (R3 (E5 (m2 RH (m2 YA (AE 2) (AE 0)) (mC (.int 1)))) (mB (m2 (inA true) (AE 0) (AE 5)))) (AE 0))
theorem j4{S:Sto}{tN hN sN:Nat}{ξ:List (List Int)}{bits g:Int}{H:HL}{Q:QL}(ht:S[tN]?=some (oL (eT D.int) ξ))(hh:S[hN]?=some (oDK D.int H))(hs:S[sN]?=some (oDK D.bl Q))(wg:hN≠sN)(hg:0<=g/\g < ξ.length)(hT:∀t∈ξ,t.length<=1000/\∀x∈t,0<=x) :
  ∃n S',oP [sR tN,sI bits,sR hN,sI g,sR sN,none,none] S=.ok (.ref n) S'/\Keeps S S'/\S.length<=n/\S'[n]?=some (oL D.int ((Tk ξ g).filter λx=>hb bits x&&!(Aj Q x).isSome)):=by
 obtain⟨F,V⟩:=cV (bits:=bits) (g:=g) ht hh hs wg;obtain⟨t,e1,-⟩:=sS (l:=ξ) hg.1 hg.2;have tm:=hT t (nM e1)
 have key:=Du (Di (enc:=D.int) (eb:=D.int) (A:=[.z (oL (eT D.int) ξ),.v (D.int bits),.w 2 (oDK D.int H),.v (D.int g),.w 4 (oDK D.bl Q),.u,.u]) (VI.k (Lx (HK (Bs (v:=ξ) (i:=0) rfl) (AM (v:=g) (i:=3) rfl))))
  (λx=>fV (Wc (OJ (pK (AM (v:=bits) (i:=2) rfl) (AM (v:=x) (i:=0) rfl)) (Ck (v:=1) rfl))) (JP (S6 (AM (v:=x) (i:=0) rfl) (Ph (v:=Q) (i:=5) rfl)))) (λx=>AM (v:=x) (i:=0) rfl))
 simp only[AC]at key;rw[e1]at key;simp only[AC]at key
 have ec:Ep t (λx=>((kr bits x).bind λx_1=>some (BG x_1 1)).bind (λx=>some (x != 0)) |>.bind λb=>if b=true then some (!(Aj Q x).isSome)else some false) (λx=>some x)=some (t.filter λx=>hb bits x&&!(Aj Q x).isSome):=PD (by omega) λx hx=>by
  rw[show kr bits x=some (bits / 2 ^ x.toNat)from qX (tm.2 x hx)];show(if (BG (bits / 2 ^ x.toNat) 1 != 0)=true then _ else _)=_;show(if hb bits x=true then _ else _)=_
  cases hb bits x <;> rfl
 obtain⟨d,S',h1,h2,n,rfl,h3,h4⟩:=key _ ec [] _ F S V;refine⟨n,S',h1,h2,h3,?_⟩;unfold Tk;rw[e1];exact h4
theorem mz{w:List Int}{p:Int->Bool}{i:Nat}{x:Int}(h:∀j,j < i->∀y,w[j]?=some y->p y=false)(hx:w[i]?=some x)(hp:p x=true):w.find? p=some x:=by
 rw[List.find?_eq_some_iff_getElem];obtain⟨hi,e⟩:=AD.mp hx;refine⟨hp,i,hi,e,λj hj=>?_⟩;rw[h j hj _ (Af (by omega))];rfl
theorem my{w:List Int}{p:Int->Bool}(h:∀j,j < w.length->∀y,w[j]?=some y->p y=false):w.find? p=none:=by
 rw[KP];intro x hx hp;obtain⟨i,hi,e⟩:=CW hx;rw[h i hi x (by rw[Af hi,e])]at hp;cases hp
abbrev e7(tN:Nat)(bits:Int)(hN:Nat)(g:Int)(sN:Nat)(z5 z6:Option D):Lo:=[sR tN,sI bits,sR hN,sI g,sR sN,z5,z6]
abbrev bS1:MS:=sIf (mB (m2 (inA true) (AE 6) (AE 2))) (BK (DE (AE 2) (AE 6) (AE 3)) (CZ (mC (.bl true)))) sNx
abbrev bS2(fr:List D->Sto->Res D):MS:=sIf (mB (m2 (inA true) (AE 6) (AE 4))) (BK (DE (AE 4) (AE 6) (mC (.bl true)))
  (sIf (E5 (Bp 5 fr (AN (AE 0) (AN (AE 1) (AN (AE 2) (AN (m2 ixA (AE 2) (AE 6)) (AN (AE 4) BL))))))) (BK (DE (AE 2) (AE 6) (AE 3)) (CZ (mC (.bl true)))) sNx)) sNx
theorem oU(hn:S[n]?=some (oDK enc l))(x:Int):inA true (.int x) (.ref n) S=.ok (.bl (!(Aj l x).isSome)) S:=by
 rw[aG (kx hn) (b4 hn x)];simp
theorem u6(hn:S[n]?=some (oDK enc l))(hv:Aj l x=some v):ixA (.ref n) (.int x) S=.ok (enc v) S:=RB (kx hn) (by rw[b4 hn x,hv];rfl)
theorem cv(W:Wd){ξ:List (List Int)}{bits:Int}(hT:∀t∈ξ,t.length<=1000/\∀x∈t,0<=x):∀(n:Nat) (H:HL) (g:Int) (Q:QL) (z:Bool×HL×QL),IZ (Tk ξ) bits n H g Q=some z->0<=g/\g < ξ.length->(∀x a,Aj H x=some a->0<=a/\a < ξ.length)->(∀x a,Aj z.2.1 x=some a->0<=a/\a < ξ.length) /\
  ∀(S:Sto) (tN hN sN:Nat),S[tN]?=some (oL (eT D.int) ξ)->S[hN]?=some (oDK D.int H)->S[sN]?=some (oDK D.bl Q)->hN≠sN->∃S',Gz W n [.ref tN,.int bits,.ref hN,.int g,.ref sN] S=.ok (.bl z.1) S'/\S'[hN]?=some (oDK D.int z.2.1)/\S'[sN]?=some (oDK D.bl z.2.2)/\K2 hN sN S S':=by
 intro n
 induction n with
 | zero=>intro H g Q z hz;cases hz
 | succ n ih=>
  intro H g Q z hz hg hG;unfold IZ at hz
  have xT:∀(H:HL) (x:Int),(∀x a,Aj H x=some a->0<=a/\a < ξ.length)->∀y a,Aj (CJ H x g) y=some a->0<=a/\a < ξ.length:=λH x hG y a e=>by
   rw[Cc]at e;split at e
   ·cases e;exact hg
   ·exact hG y a e
  have lp:∀(r:List Int) (Hc:HL) (Qc:QL),(∀x a,Aj Hc x=some a->0<=a/\a < ξ.length)->Om (IZ (Tk ξ) bits n) g r Hc Qc=some z->∀x a,Aj z.2.1 x=some a->0<=a/\a < ξ.length:=by
   intro r
   induction r with
   | nil=>intro Hc Qc hc e;cases e;exact hc
   | cons x r ih2=>
    intro Hc Qc hc e;unfold Om at e;split at e
    ·exact ih2 Hc Qc hc e
    ·obtain⟨Q1,-,e⟩:=Aw e
     obtain⟨g2,e2,e⟩:=Aw e;obtain⟨z2,e3,e⟩:=Aw e;have:=(ih Hc g2 Q1 z2 e3 (hc x g2 e2) hc).1;split at e
     ·obtain⟨H',e4,e5⟩:=Aw e
      cases e5;rw[(MJ e4).2];exact xT _ x this
     ·exact ih2 _ _ this e
  refine⟨?_,λS tN hN sN ht hh hs wg=>?_⟩
  ·split at hz
   ·obtain⟨H',e4,e5⟩:=Aw hz
    cases e5;rw[(MJ e4).2];exact xT _ _ hG
   ·exact lp _ _ _ hG hz
  ·have t1:tN≠hN:=λc=>by rw[c,hh]at ht;cases ht
   have t2:tN≠sN:=λc=>by rw[c,hs]at ht;cases ht
   obtain⟨wN,S1,w1,w2,w3,w4⟩:=j4 (bits:=bits) ht hh hs wg hg hT;generalize (Tk ξ g).filter (λx=>hb bits x&&!(Aj Q x).isSome)=w at hz w4
   have wh:wN≠hN:=λc=>zX (BW hh) (by omega)
   have ws:wN≠sN:=λc=>zX (BW hs) (by omega)
   have s5:CP 5 oP (JC 7 [.ref tN,.int bits,.ref hN,.int g,.ref sN]) S=.ok (.nx (e7 tN bits hN g sN (some (.ref wN)) none)) S1:=Jj (i:=5) w1;have hh1:=w2.at hh;have yu:=w2.at hs;have ht1:=w2.at ht;have k1:K2 hN sN S S1:=K2.of w2
   have it:∀z6 S',S'[wN]?=some (oL D.int w)->D0 (AE 5) (e7 tN bits hN g sN (some (.ref wN)) z6) S'=.ok (FT (.ref wN)) S':=λz6 S' h=>Lb (n:=wN) rfl h
   obtain⟨f,S2,q1,q2⟩:=Nv (v:=FT (.ref wN)) (g:=tgN 6) (b:=bS1) (xs:=w.map D.int) (e:=e7 tN bits hN g sN (some (.ref wN)) none) (S:=S1)
    (λi e S'=>(∃z6,e=e7 tN bits hN g sN (some (.ref wN)) z6)/\S'=S1/\∀j,j < i->∀y,w[j]?=some y->(!(Aj H y).isSome)=false)
    (λf S'=>((∃z6,f=.nx (e7 tN bits hN g sN (some (.ref wN)) z6))/\S'=S1/\w.find? (λx=>!(Aj H x).isSome)=none)∨∃x,w.find? (λx=>!(Aj H x).isSome)=some x/\f=.rt (.bl true)/\S'=S1.set hN (oDK D.int (CJ H x g)))
    ⟨⟨none,rfl⟩,rfl,λj hj=>zX hj (OF j)⟩ (by rintro i e S' ⟨_,rfl,_⟩;exact Da w4)
    (by
     rintro i d e S' hd ⟨⟨z6,rfl⟩,rfl,wc⟩;rw[AZ]at hd
     cases hx:w[i]? with
     | none=>rw[hx]at hd;cases hd
     | some x=>
      rw[hx]at hd;cases hd;refine⟨e7 tN bits hN g sN (some (.ref wN)) (some (.int x)),S',rfl,?_⟩;have wJ:mB (m2 (inA true) (AE 6) (AE 2)) (e7 tN bits hN g sN (some (.ref wN)) (some (.int x))) S'=.ok (!(Aj H x).isSome) S':=Uh (Dc rfl rfl (oU hh1 x))
      cases c:(Aj H x).isSome with
      | true=>
       rw[c]at wJ;refine⟨_,S',(HB wJ).trans rfl,⟨_,rfl⟩,rfl,λj hj y hy=>?_⟩
       by_cases q:j=i
       ·subst q;rw[hx]at hy;cases hy;rw[c];rfl
       ·exact wc j (by omega) y hy
      | false=>
       rw[c]at wJ;have hf:w.find? (λx=>!(Aj H x).isSome)=some x:=mz wc hx (by rw[c];rfl);rw[hf]at hz;obtain⟨H',e4,e5⟩:=Aw hz;obtain⟨hl,-⟩:=MJ e4;have dp:=SX (mo:=AE 2) (mi:=AE 6) (mv:=AE 3) (e:=e7 tN bits hN g sN (some (.ref wN)) (some (.int x))) (k:=x) (v:=g) rfl rfl rfl hh1 hl
       exact⟨.rt (.bl true),_,(HB wJ).trans ((qX rfl).trans ((B1 dp).trans rfl)),.inr ⟨x,hf,rfl,rfl⟩⟩)
    (by
     rintro e S' ⟨⟨z6,rfl⟩,rfl,wc⟩;rw[AF]at wc
     exact .inl ⟨⟨z6,rfl⟩,rfl,my wc⟩)
   have run:∀{S':Sto} {d:D},Yv W (Gz W n) (JC 7 [.ref tN,.int bits,.ref hN,.int g,.ref sN]) S=.ok (.rt d) S'->Gz W (n+1) [.ref tN,.int bits,.ref hN,.int g,.ref sN] S=.ok d S':=λh=>Nb h
   rcases q2 with⟨⟨z6,rfl⟩,rfl,hf⟩ | ⟨x,hf,rfl,rfl⟩
   ·rw[hf]at hz
    dsimp only at hz
    obtain⟨f,S3,p1,p2⟩:=Nv (v:=FT (.ref wN)) (g:=tgN 6) (b:=bS2 (Gz W n)) (xs:=w.map D.int) (e:=e7 tN bits hN g sN (some (.ref wN)) z6) (S:=S2)
     (λi e S'=>(∃z6,e=e7 tN bits hN g sN (some (.ref wN)) z6)/\S'[wN]?=some (oL D.int w)/\K2 hN sN S S'/\∃Hc Qc,S'[hN]?=some (oDK D.int Hc)/\S'[sN]?=some (oDK D.bl Qc)/\(∀x a,Aj Hc x=some a->0<=a/\a < ξ.length)/\Om (IZ (Tk ξ) bits n) g (w.drop i) Hc Qc=some z)
     (λf S'=>K2 hN sN S S'/\S'[hN]?=some (oDK D.int z.2.1)/\S'[sN]?=some (oDK D.bl z.2.2)/\((f=.rt (.bl true)/\z.1=true)∨((∃z6,f=.nx (e7 tN bits hN g sN (some (.ref wN)) z6))/\z.1=false)))
     ⟨⟨z6,rfl⟩,w4,k1,H,Q,hh1,yu,hG,hz⟩ (by rintro i e S' ⟨_,h,_⟩;exact Da h)
     (by
      rintro i d e S' hd ⟨⟨z6,rfl⟩,a1,a2,Hc,Qc,a3,a4,a5,a6⟩;rw[AZ]at hd
      cases hx:w[i]? with
      | none=>rw[hx]at hd;cases hd
      | some x=>
       rw[hx]at hd;cases hd;obtain⟨hi,ex⟩:=AD.mp hx;rw[Eh hi,ex]at a6;unfold Om at a6;refine⟨e7 tN bits hN g sN (some (.ref wN)) (some (.int x)),S',rfl,?_⟩;have wJ:mB (m2 (inA true) (AE 6) (AE 4)) (e7 tN bits hN g sN (some (.ref wN)) (some (.int x))) S'=.ok (!(Aj Qc x).isSome) S':=Uh (Dc rfl rfl (oU a4 x))
       cases c:(Aj Qc x).isSome with
       | true=>
        rw[c]at wJ;rw[qX c]at a6;exact⟨_,S',(HB wJ).trans rfl,⟨_,rfl⟩,a1,a2,Hc,Qc,a3,a4,a5,a6⟩
       | false=>
        rw[c]at wJ;rw[qY (by rw[c];exact AK)]at a6;obtain⟨Q1,b1,a7⟩:=Aw a6;obtain⟨g2,b2,a8⟩:=Aw a7;obtain⟨z2,b3,a9⟩:=Aw a8;obtain⟨hl,rfl⟩:=MJ b1
        clear a6 a7 a8
        have dp:=SX (enc:=D.bl) (mo:=AE 4) (mi:=AE 6) (mv:=mC (.bl true)) (e:=e7 tN bits hN g sN (some (.ref wN)) (some (.int x))) (k:=x) (v:=true) rfl rfl rfl a4 hl;have hsl:=BW a4
        have c3:(S'.set sN (oDK D.bl (CJ Qc x true)))[hN]?=some (oDK D.int Hc):=by rw[Ab (Br wg)];exact a3
        have c4:(S'.set sN (oDK D.bl (CJ Qc x true)))[sN]?=some (oDK D.bl (CJ Qc x true)):=Aq hsl
        have c5:(S'.set sN (oDK D.bl (CJ Qc x true)))[tN]?=some (oL (eT D.int) ξ):=by rw[Ab (Br t2)];exact a2.at ht t1 t2
        have c1:(S'.set sN (oDK D.bl (CJ Qc x true)))[wN]?=some (oL D.int w):=by rw[Ab (Br ws)];exact a1
        have c2:=a2.sets (oDK D.bl (CJ Qc x true));generalize S'.set sN (oDK D.bl (CJ Qc x true))=S4 at dp c1 c2 c3 c4 c5;obtain⟨r1,r2⟩:=ih Hc g2 (CJ Qc x true) z2 b3 (a5 x g2 b2) a5;obtain⟨S5,r3,r4,r5,r6⟩:=r2 S4 tN hN sN c5 c3 c4 wg;have arg:AN (AE 0) (AN (AE 1) (AN (AE 2) (AN (m2 ixA (AE 2) (AE 6)) (AN (AE 4) BL)))) (e7 tN bits hN g sN (some (.ref wN)) (some (.int x))) S4=.ok [.ref tN,.int bits,.ref hN,.int g2,.ref sN] S4:=Cq rfl (Cq rfl (Cq rfl (Cq (Dc (x:=.ref hN) (y:=.int x) rfl rfl (u6 c3 b2)) (Cq rfl rfl))))
        have yI:E5 (Bp 5 (Gz W n) (AN (AE 0) (AN (AE 1) (AN (AE 2) (AN (m2 ixA (AE 2) (AE 6)) (AN (AE 4) BL)))))) (e7 tN bits hN g sN (some (.ref wN)) (some (.int x))) S4=.ok z2.1 S5:=by
         unfold E5;rw[(Mp (n:=5) arg rfl).trans r3];rfl
        have d1:=r6.at c1 wh ws;have d2:=c2.trans r6
        cases hb2:z2.1 with
        | true=>
         rw[hb2]at yI;rw[qX hb2]at a9;obtain⟨H',e4,e5⟩:=Aw a9;obtain⟨xC,rfl⟩:=MJ e4;cases e5;have dp2:=SX (mo:=AE 2) (mi:=AE 6) (mv:=AE 3) (e:=e7 tN bits hN g sN (some (.ref wN)) (some (.int x))) (k:=x) (v:=g) rfl rfl rfl r4 xC;refine⟨.rt (.bl true),_,(HB wJ).trans ((qX rfl).trans ((B1 dp).trans ((HB yI).trans ((qX rfl).trans ((B1 dp2).trans rfl))))),d2.seth _,Aq (BW r4),?_,.inl ⟨rfl,rfl⟩⟩;rw[Ab wg];exact r5
        | false=>
         rw[hb2]at yI;rw[qY (by rw[hb2];exact AK)]at a9
         exact⟨_,S5,(HB wJ).trans ((qX rfl).trans ((B1 dp).trans ((HB yI).trans rfl))),⟨_,rfl⟩,d1,d2,z2.2.1,z2.2.2,r4,r5,r1,a9⟩)
     (by
      rintro e S' ⟨⟨z6,rfl⟩,a1,a2,Hc,Qc,a3,a4,a5,a6⟩;rw[AF,NH (AO _)]at a6;unfold Om at a6;cases a6
      exact⟨a2,a3,a4,.inr ⟨⟨z6,rfl⟩,rfl⟩⟩)
    obtain⟨p3,p4,p5,p6⟩:=p2;have l1:=(LA (g:=tgN 6) (b:=bS1) (it none S2 w4)).trans q1;have l2:=(LA (g:=tgN 6) (b:=bS2 (Gz W n)) (it z6 S2 w4)).trans p1
    rcases p6 with⟨rfl,p6⟩ | ⟨⟨z7,rfl⟩,p6⟩
    ·rw[p6]
     exact⟨S3,run ((B1 s5).trans ((B1 l1).trans (TX l2))),p4,p5,p3⟩
    ·rw[p6]
     exact⟨S3,run ((B1 s5).trans ((B1 l1).trans ((B1 l2).trans rfl))),p4,p5,p3⟩
   ·rw[hf]at hz
    obtain⟨H',e4,e5⟩:=Aw hz;obtain⟨hl,rfl⟩:=MJ e4;cases e5;have l1:=(LA (g:=tgN 6) (b:=bS1) (it none S1 w4)).trans q1;refine⟨_,run ((B1 s5).trans (TX l1)),Aq (BW hh1),?_,k1.seth _⟩;rw[Ab wg];exact yu
abbrev e5(tN:Nat)(gs:List Int)(bits:Int)(hN:Nat)(z:Option D):Lo:=[sR tN,some (eT D.int gs),sI bits,sR hN,z]
abbrev qu:MT:=E5 (m2 RH (m2 YA (AE 2) (AE 4)) (mC (.int 1)))
theorem t9(h:m e S=.ok (.bl b) S1):E5 m e S=.ok b S1:=by
 unfold E5;rw[h];rfl
theorem t8(h:m e S=.ok (.int i) S1):E5 m e S=.ok (i != 0) S1:=by
 unfold E5;rw[h];rfl
theorem jP(h:0<=g):qu (e5 tN gs bits hN (some (.int g))) S=.ok (hb bits g) S:=by
 have h1:m2 YA (AE 2) (AE 4) (e5 tN gs bits hN (some (.int g))) S=.ok (.int (bits / 2 ^ g.toNat)) S:=Dc rfl rfl (qX h);exact t8 (Dc (f:=RH) (mb:=mC (.int 1)) (y:=.int 1) h1 rfl rfl)
abbrev bF1:MS:=sIf qu (DE (AE 3) (AE 4) (AE 4)) sNx
abbrev ut(W:Wd)(n:Nat):ME:=Bp 5 (Gz W n) (AN (AE 0) (AN (AE 2) (AN (AE 3) (AN (AE 4) (AN JF BL)))))
abbrev bF2(W:Wd)(n:Nat):MS:=sIf (R3 (Nn qu) (Nn (E5 (ut W n)))) (CZ (mC (.bl false))) sNx
theorem mx(W:Wd)(hT:∀t∈ξ,t.length<=1000/\∀x∈t,0<=x)(hg:∀g∈gs,0<=g/\g < ξ.length)(wc:Vx (Tk ξ) bits 9 gs=some b)(ht:S[tN]?=some (oL (eT D.int) ξ)) :
  ∃S',UQ W [.ref tN,eT D.int gs,.int bits] S=.ok (.bl b) S'/\Keeps S S':=by
 unfold Vx at wc;obtain⟨Hf,hs,hr⟩:=Aw wc;have s3:CP 3 JF (JC 5 [.ref tN,eT D.int gs,.int bits]) S=.ok (.nx (e5 tN gs bits S.length none)) (S++[.dK []]):=rfl;have h0:(S++[Ob.dK []])[S.length]?=some (oDK D.int []):=FQ _ _;have k0:=Keeps.app S [.dK []];have tl:=BW ht;generalize S++[Ob.dK []]=S0 at s3 h0 k0
 obtain⟨f,S1,q1,⟨z1,rfl⟩,q2,q3,q4⟩:=Nv (v:=Gu (gs.map D.int)) (g:=tgN 4) (b:=bF1) (xs:=gs.map D.int) (e:=e5 tN gs bits S.length none) (S:=S0)
  (λi e S'=>(∃z,e=e5 tN gs bits S.length z)/\Keeps S S'/\∃Hc,S'[S.length]?=some (oDK D.int Hc)/\(∀x a,Aj Hc x=some a->0<=a/\a < ξ.length)/\TU bits (gs.drop i) Hc=some Hf)
  (λf S'=>(∃z,f=.nx (e5 tN gs bits S.length z))/\Keeps S S'/\S'[S.length]?=some (oDK D.int Hf)/\∀x a,Aj Hf x=some a->0<=a/\a < ξ.length)
  ⟨⟨none,rfl⟩,k0,[],h0,λx a e=>(nomatch e),hs⟩ (λ_ _ _ _=>rfl)
  (by
   rintro i d e S' hd ⟨⟨z,rfl⟩,a1,Hc,a2,a3,a4⟩;rw[AZ]at hd
   cases hx:gs[i]? with
   | none=>rw[hx]at hd;cases hd
   | some g=>
    rw[hx]at hd;cases hd;have ϒ:=hg g (BB hx);obtain⟨hi,ex⟩:=AD.mp hx;rw[Eh hi,ex]at a4;unfold TU at a4;refine⟨e5 tN gs bits S.length (some (.int g)),S',rfl,?_⟩;have wJ:=jP (tN:=tN) (hN:=S.length) (gs:=gs) (bits:=bits) (S:=S') ϒ.1
    cases c:hb bits g with
    | true=>
     rw[c]at wJ;rw[qX c]at a4;obtain⟨H',e1,e2⟩:=Aw a4;obtain⟨hl,rfl⟩:=MJ e1;have dp:=SX (mo:=AE 3) (mi:=AE 4) (mv:=AE 4) (e:=e5 tN gs bits S.length (some (.int g))) (k:=g) (v:=g) rfl rfl rfl a2 hl;refine⟨_,_,(HB wJ).trans ((qX rfl).trans dp),⟨_,rfl⟩,a1.set (AO _) _,_,Aq (BW a2),λx a e=>?_,e2⟩;rw[Cc]at e;split at e
     ·cases e;exact ϒ
     ·exact a3 x a e
    | false=>
     rw[c]at wJ;rw[qY (by rw[c];exact AK)]at a4
     exact⟨_,S',(HB wJ).trans rfl,⟨_,rfl⟩,a1,Hc,a2,a3,a4⟩)
  (by
   rintro e S' ⟨⟨z,rfl⟩,a1,Hc,a2,a3,a4⟩;rw[AF,NH (AO _)]at a4;cases a4
   exact⟨⟨z,rfl⟩,a1,a2,a3⟩)
 obtain⟨f,S2,p1,p2,p3⟩:=Nv (v:=Gu (gs.map D.int)) (g:=tgN 4) (b:=bF2 W 9) (xs:=gs.map D.int) (e:=e5 tN gs bits S.length z1) (S:=S1)
  (λi e S'=>(∃z,e=e5 tN gs bits S.length z)/\Keeps S S'/\∃Hc,S'[S.length]?=some (oDK D.int Hc)/\(∀x a,Aj Hc x=some a->0<=a/\a < ξ.length)/\Tl (Tk ξ) bits 9 (gs.drop i) Hc=some b)
  (λf S'=>Keeps S S'/\((f=.rt (.bl false)/\b=false)∨((∃z,f=.nx (e5 tN gs bits S.length z))/\b=true)))
  ⟨⟨z1,rfl⟩,q2,Hf,q3,q4,hr⟩ (λ_ _ _ _=>rfl)
  (by
   rintro i d e S' hd ⟨⟨z,rfl⟩,a1,Hc,a2,a3,a4⟩;rw[AZ]at hd
   cases hx:gs[i]? with
   | none=>rw[hx]at hd;cases hd
   | some g=>
    rw[hx]at hd;cases hd;have ϒ:=hg g (BB hx);obtain⟨hi,ex⟩:=AD.mp hx;rw[Eh hi,ex]at a4;unfold Tl at a4;refine⟨e5 tN gs bits S.length (some (.int g)),S',rfl,?_⟩;have wJ:=jP (tN:=tN) (hN:=S.length) (gs:=gs) (bits:=bits) (S:=S') ϒ.1
    cases c:hb bits g with
    | true=>
     rw[c]at wJ;rw[qX c]at a4;exact⟨_,S',(HB (cC (O7 wJ))).trans rfl,⟨_,rfl⟩,a1,Hc,a2,a3,a4⟩
    | false=>
     rw[c]at wJ;rw[qY (by rw[c];exact AK)]at a4;obtain⟨w,e1,e2⟩:=Aw a4
     clear a4
     have hl:=BW a2;have b0:(S'++[Ob.dK []])[S'.length]?=some (oDK D.bl []):=FQ _ _;have kk:=Keeps.app S' [.dK []];have arg:AN (AE 0) (AN (AE 2) (AN (AE 3) (AN (AE 4) (AN JF BL)))) (e5 tN gs bits S.length (some (.int g))) S'=.ok [.ref tN,.int bits,.ref S.length,.int g,.ref S'.length] (S'++[.dK []]):=rfl;generalize S'++[Ob.dK []]=S4 at b0 kk arg;obtain⟨r1,r2⟩:=cv W (bits:=bits) hT 9 Hc g [] w e1 ϒ a3;obtain⟨S5,r3,r4,r5,r6⟩:=r2 S4 tN S.length S'.length (kk.at (a1.at ht)) (kk.at a2) b0 (by omega);have yI:E5 (ut W 9) (e5 tN gs bits S.length (some (.int g))) S'=.ok w.1 S5:=t9 ((Mp (n:=5) arg rfl).trans r3)
     have kS:Keeps S S5:=⟨At (At a1.1 kk.1) r6.1,λj hj=>by
      have h4:j < S4.length:=AT hj (At a1.1 kk.1)
      rw[r6.2 j h4 (by omega) (by have:=a1.1;omega),kk.2 j (AT hj a1.1),a1.2 j hj]⟩
     cases hw:w.1 with
     | true=>
      rw[hw]at yI;rw[qX hw]at e2;exact⟨_,S5,(HB ((XZ (O7 wJ)).trans (O7 yI))).trans rfl,⟨_,rfl⟩,kS,w.2.1,r4,r1,e2⟩
     | false=>
      rw[hw]at yI;rw[qY (by rw[hw];exact AK)]at e2;cases e2
      exact⟨.rt (.bl false),S5,(HB ((XZ (O7 wJ)).trans (O7 yI))).trans rfl,kS,.inl ⟨rfl,rfl⟩⟩)
  (by
   rintro e S' ⟨⟨z,rfl⟩,a1,Hc,a2,a3,a4⟩;rw[AF,NH (AO _)]at a4;cases a4
   exact⟨a1,.inr ⟨⟨z,rfl⟩,rfl⟩⟩)
 have it:∀z S',D0 (AE 1) (e5 tN gs bits S.length z) S'=.ok (Gu (gs.map D.int)) S':=λz S'=>UL (xs:=gs.map D.int) rfl
 have l1:=(LA (g:=tgN 4) (b:=bF1) (it none S0)).trans q1;have l2:=(LA (g:=tgN 4) (b:=bF2 W 9) (it z1 S1)).trans p1;refine⟨S2,Nb (n:=5) (mb:=aP W) ?_,p2⟩;unfold aP
 rcases p3 with⟨rfl,rfl⟩ | ⟨⟨z,rfl⟩,rfl⟩
 ·exact(B1 s3).trans ((B1 l1).trans (TX l2))
 ·exact(B1 s3).trans ((B1 l1).trans ((B1 l2).trans rfl))
open Classical in
def Qo(ξ:List (List Int))(gs:List Int)(bits:Int):Option Bool:=if (∀t∈ξ,t.length<=1000/\∀x∈t,0<=x)/\∀g∈gs,0<=g/\g < ξ.length then Vx (Tk ξ) bits 9 gs else none
theorem fX(W:Wd)(ξ:List (List Int))(gs:List Int)(bits:Int):VF (UQ W) [.z (oL (eT D.int) ξ),.v (eT D.int gs),.v (D.int bits)] (rV D.bl) (Qo ξ gs bits):=λv hv S ds ha=>by
 unfold Qo at hv;split at hv
 ·rename_i hc
  match ds,ha with
  | [d1,d2,d3],⟨⟨n,h1,h2⟩,h3,h4,_⟩=>
   cases h1;cases h3;cases h4;obtain⟨S',h5,h6⟩:=mx W hc.1 hc.2 hv h2;exact⟨_,S',h5,h6,rfl⟩
 ·cases hv
def HV(BX:(List Int))(je:Int):Option (Fw Int Unit):=
 BH (if (decide (je < (BX.length:Int)))=true then(atI BX je).bind λx6=>some (.rt x6)else some (.nx ())) λ_=>some (.rt (0:Int))
def DM(BX:(List Int))(je:Int):Option Int:=FC (HV BX je)
theorem Jg(W:Wd)(BX:(List Int))(je:Int):VF (F9 W) [.v (eF BX),.v (D.int je)] (rV D.int) (DM BX je):=by
 refine Dr (n:=2) (b:=J8 W) (p:=HV BX je) (B:=λ_=>[]) ?_;show VS [.v (eF BX),.v (D.int je)] _ _ _ _;unfold J8 HV;exact(BA (Gb (B:=(λ(_:Unit)=>[.v (eF BX),.v (D.int je)])) (JP (n8 (AM rfl) (kK (AM rfl)))) (Cr (pN (AM rfl) (AM rfl))) (Ga (.refl _))) (λ_=>(Cr (Ck rfl))))
def GR(BX:(List Int))(G7:Int):Option (Fw (Int×(List (Int×Int))) Unit):=
 BH ((DM BX (0:Int)).bind λx7=>some (.nx x7)) λv1=>BH (((mJ v1 G7).bind λxj=>some ((1:Int)+xj)).bind λxU=>some (.nx xU)) λv8=>BH (((some []).bind Mc).bind λxc=>some (.nx xc)) λv14=>BH ((DM BX (1:Int)).bind λyx=>some (.nx yx)) λyJ=>BH (some (.nx (if yJ < 0 then -yJ else yJ))) λzb=>BH (Eg (Ip BX (some (2:Int)) (some (12:Int))) yJ λ(s31:Int) B'=>Ew (λv33=>v33) (some (.nx ((s31 * 3)+(B' / 2))))) λϓ=>BH (some (.nx (((ϓ % 1000000007) * 48271) % 998244353))) λyy=>BH (((Vy v1 G7).bind λϔ=>some (ϔ % 3)).bind λϕ=>some (.nx ϕ)) λyz=>BH ((YL (1:Int) v8).bind λl106=>Eg l106 (yy,zb,v14) λ(zG:Int×Int×(List (Int×Int))) yi=>Ew (λyK=>(yK.1,yK.2.1,yK.2.2)) (((some yi).bind Ql).bind λl103=>Eg l103 (zG.1,zG.2.1,zG.2.2) λ(yL:Int×Int×(List (Int×Int))) yM=>BH ((((((dR yL.1 yL.1).bind λx61=>some (x61 % 1000000007)).bind λϗ=>(dR (12:Int) yi).bind λϘ=>some (ϗ+Ϙ)).bind λx66=>some (x66+yM)).bind λϙ=>some (ϙ+(1:Int))).bind λx71=>some (.nx x71)) λϚ=>BH (some (.nx (decide (((Ϛ / 7) % 4)<=yz)))) λv72=>BH (((((Vy v1 G7).bind λx82=>some (x82 / 3)).bind λx83=>some (x83 % 2)).bind λx78=>some (decide (x78=(1:Int)))).bind λx92=>if x92=true then BH (some (.nx (decide ((yL.2.1 % 2)=(1:Int))))) λv84=>Ew (λv89=>(v84,v89)) (some (.nx (yL.2.1 / 2)))else some (.nx (v72,yL.2.1))) λϛ=>Ew (λϜ=>(Ϛ,ϛ.2,Ϝ)) (if ϛ.1=true then Ew (λv95=>v95) ((Ue yL.2.2 (yM,yi)).bind λl97=>some (.nx l97))else some (.nx yL.2.2)))) λϝ=>some (.rt (v8,ϝ.2.2))
def IN(BX:(List Int))(G7:Int):Option (Int×(List (Int×Int))):=FC (GR BX G7)
theorem QZ(W:Wd)(BX:(List Int))(G7:Int):VF (IS W) [.v (eF BX),.v (D.int G7)] (rP D.int (oL (eP D.int D.int))) (IN BX G7):=by
 refine Dr (n:=12) (b:=IU W) (p:=GR BX G7) (B:=λ_=>[]) ?_;show VS [.v (eF BX),.v (D.int G7),.u,.u,.u,.u,.u,.u,.u,.u,.u,.u] _ _ _ _;unfold IU GR;exact(BA (Dh (Ba (CM (AM rfl) (CM (Ck rfl) Bb)) (λz6=>Jg W z6.1 z6.2.1) (λ_=>rfl) Db)) (λv1=>(BA (Dh (JB (Ck rfl) (pM (AM rfl) (AM rfl)))) (λv8=>(BA (IX (Du (Ij JA))) (λv14=>(BA (Dh (Ba (CM (AM rfl) (CM (Ck rfl) Bb)) (λCs=>Jg W Cs.1 Cs.2.1) (λ_=>rfl) Db)) (λyJ=>(BA (Dh (pT (AM rfl))) (λzb=>(BA (Dt (s0:=yJ) (B:=(λ(s41:Int)=>[.v (eF BX),.v (D.int G7),.v (D.int v1),.v (D.int v8),.w 4 ((oL (eP D.int D.int)) v14),.v (D.int s41),.v (D.int zb),.u,.u,.u,.u,.u])) (Ks (kQ (AM rfl) (SE (Ck rfl)) (SE (Ck rfl)))) DV (.refl _) (λs31 B'=>(Ct (Dh (JB (aw rfl (AM rfl)) (Pj rfl (AM rfl)))) (λv33=>(.same (.same (.same (.same (.same (.same (.same (.drop (.same (.same (.same (.same .nil)))))))))))))))) (λϓ=>(BA (Dh (KS rfl (aw rfl (KS rfl (AM rfl))))) (λyy=>(BA (Dh (KS rfl (WZ (AM rfl) (AM rfl)))) (λyz=>(BA (Dt (s0:=(yy,zb,v14)) (B:=(λ(zH:Int×Int×(List (Int×Int)))=>[.v (eF BX),.v (D.int G7),.v (D.int v1),.v (D.int v8),.w 4 ((oL (eP D.int D.int)) zH.2.2),.v (D.int zH.1),.v (D.int zH.2.1),.u,.v (D.int yz),.u,.u,.u])) (LR (Ck rfl) (AM rfl)) DV (.refl _) (λzG yi=>(Ct (Dt (s0:=(zG.1,zG.2.1,zG.2.2)) (B:=(λ(zI:Int×Int×(List (Int×Int)))=>[.v (eF BX),.v (D.int G7),.v (D.int v1),.v (D.int v8),.w 4 ((oL (eP D.int D.int)) zI.2.2),.v (D.int zI.1),.v (D.int zI.2.1),.u,.v (D.int yz),.v (D.int yi),.u,.u])) (GP (AM rfl)) DV (.refl _) (λyL yM=>(BA (Dh (JB (JB (JB (KS rfl (ZS (AM rfl) (AM rfl))) (ZS (Ck rfl) (AM rfl))) (AM rfl)) (Ck rfl))) (λϚ=>(BA (Dh (tw (KS rfl (Pj rfl (AM rfl))) (AM rfl))) (λv72=>(BA (Gb (B:=(λ(s94:Bool×Int)=>[.v (eF BX),.v (D.int G7),.v (D.int v1),.v (D.int v8),.w 4 ((oL (eP D.int D.int)) yL.2.2),.v (D.int Ϛ),.v (D.int s94.2),.u,.v (D.int yz),.v (D.int yi),.v (D.int yM),.v (D.bl s94.1)])) (JP (Oh E8 Nk (KS rfl (Pj rfl (WZ (AM rfl) (AM rfl)))) (Ck rfl))) (BA (Dh (Oh E8 Nk (KS rfl (AM rfl)) (Ck rfl))) (λv84=>(Ct (Dh (Pj rfl (AM rfl))) (λv89=>(.refl _))))) (Ga (.refl _))) (λϛ=>(Ct (Gb (B:=(λ(s102:(List (Int×Int)))=>[.v (eF BX),.v (D.int G7),.v (D.int v1),.v (D.int v8),.w 4 ((oL (eP D.int D.int)) s102),.v (D.int Ϛ),.v (D.int ϛ.2),.u,.v (D.int yz),.v (D.int yi),.v (D.int yM),.v (D.bl ϛ.1)])) (QX (AM rfl)) (Ct (WS rfl (SG (AM rfl) (AM rfl)) rfl) (λv95=>(.refl _))) (Ga (.refl _))) (λϜ=>(.same (.same (.same (.same (.same (.same (.same (.same (.same (.same (.drop (.drop .nil)))))))))))))))))))))) (λyK=>(.same (.same (.same (.same (.same (.same (.same (.same (.same (.drop (.same (.same .nil)))))))))))))))) (λϝ=>(fB (AM rfl) rfl)))))))))))))))))))
def JU(Cd:(List Int))(Bl:Int):Option (Fw (List Int) Unit):=
 ((((some (Bl :: [])).bind Mc).bind λx4=>dk Cd x4).bind λx5=>QA x5 (CF x5)).bind λx6=>some (.rt x6)
def JX(Cd:(List Int))(Bl:Int):Option (List Int):=FC (JU Cd Bl)
theorem Wi(W:Wd)(Cd:(List Int))(Bl:Int):VF (Mi W) [.v ((eT D.int) Cd),.v (D.int Bl)] (rV (eT D.int)) (JX Cd Bl):=by
 refine Dr (n:=2) (b:=Mt W) (p:=JU Cd Bl) (B:=λ_=>[]) ?_;show VS [.v ((eT D.int) Cd),.v (D.int Bl)] _ _ _ _;unfold Mt JU;exact(Cr (IH (KR (QW (Wa (AM rfl) (WV (SF (AM rfl) JA)))))))
def Ka(Bk:Int)(KD:(List (List Int)))(KF:(List (List Int))):Option (Fw Bool Unit):=
 BH (Eg KD () λ(_:Unit) x2=>Ew (λ_=>()) (((some Bk).bind Ql).bind λl19=>Eg l19 () λ(_:Unit) x4=>Ew (λ_=>()) ((if (!decide (x4∈x2))=true then(JX x2 x4).bind λx7=>some (!Yc x7 KF)else some false).bind λxD=>if xD=true then some (.rt false)else some (.nx ())))) λ_=>some (.rt true)
def Nf(Bk:Int)(KD:(List (List Int)))(KF:(List (List Int))):Option Bool:=FC (Ka Bk KD KF)
theorem X5(W:Wd)(Bk:Int)(KD:(List (List Int)))(KF:(List (List Int))):VF (N1 W) [.v (D.int Bk),.z ((oL (eT D.int)) KD),.z ((oL (eT D.int)) KF)] (rV D.bl) (Nf Bk KD KF):=by
 refine Dr (n:=5) (b:=OA W) (p:=Ka Bk KD KF) (B:=λ_=>[]) ?_;show VS [.v (D.int Bk),.z ((oL (eT D.int)) KD),.z ((oL (eT D.int)) KF),.u,.u] _ _ _ _;unfold OA Ka;exact(BA (Dt (s0:=()) (B:=(λ(_:Unit)=>[.v (D.int Bk),.z ((oL (eT D.int)) KD),.z ((oL (eT D.int)) KF),.u,.u])) (fG rfl) DV (.refl _) (λ_ x2=>(Ct (Dt (s0:=()) (B:=(λ(_:Unit)=>[.v (D.int Bk),.z ((oL (eT D.int)) KD),.z ((oL (eT D.int)) KF),.v ((eT D.int) x2),.u])) (GP (AM rfl)) DV (.refl _) (λ_ x4=>(Ct (Gb (B:=(λ(_:Unit)=>[.v (D.int Bk),.z ((oL (eT D.int)) KD),.z ((oL (eT D.int)) KF),.v ((eT D.int) x2),.v (D.int x4)])) (fV (JP (WX E8 (AM rfl) (AM rfl))) (JP (fJ (Ba (CM (AM rfl) (CM (AM rfl) Bb)) (λxK=>Wi W xK.1 xK.2.1) (λ_=>rfl) Db) (Bs rfl)))) (Cr (Ck rfl)) (Ga (.refl _))) (λ_=>(.same (.same (.same (.same (.drop .nil))))))))) (λ_=>(.same (.same (.same (.drop (.same .nil))))))))) (λ_=>(Cr (Ck rfl))))
def FW(Ah:(Nat×List (Int×Int)))(Bl:Int):Option (Fw Unit Unit):=
 ((if decide ((0:Int)<=Bl)=true then some (decide (Bl < (Ah.1:Int)))else some false).bind λx5=>some (!x5)).bind λx6=>if x6=true then none else some (.nx ())
def HX(Ah:(Nat×List (Int×Int)))(Bl:Int):Option Unit:=gu (FW Ah Bl)
theorem Pk(W:Wd)(Ah:(Nat×List (Int×Int)))(Bl:Int):VF (Hh W) [.z ((DU W) Ah),.v (D.int Bl)] (rV eU) (HX Ah Bl):=by
 refine fI (n:=2) (b:=Ho W) (p:=FW Ah Bl) (B:=λ_=>[.z ((DU W) Ah),.v (D.int Bl)]) ?_;show VS [.z ((DU W) Ah),.v (D.int Bl)] _ _ _ _;unfold Ho FW;exact(Gb (B:=(λ(_:Unit)=>[.z ((DU W) Ah),.v (D.int Bl)])) (Ov (JP (X1 jL vS (Ck rfl) (AM rfl) (EV (Bs rfl))))) WR (Ga (.refl _)))
def Wx(Ah:(Nat×List (Int×Int)))(Bl:Int):Option (Fw (List Int) Unit):=
 BH ((HX Ah Bl).bind λ_=>some (.nx ())) λ_=>(atI (Qt Ah.1 Ah.2) Bl).bind λx9=>some (.rt x9)
def Tq(Ah:(Nat×List (Int×Int)))(Bl:Int):Option (List Int):=FC (Wx Ah Bl)
theorem fW(W:Wd)(Ah:(Nat×List (Int×Int)))(Bl:Int):VF (XJ W) [.z ((DU W) Ah),.v (D.int Bl)] (rV (eT D.int)) (Tq Ah Bl):=by
 refine Dr (n:=2) (b:=aO W) (p:=Wx Ah Bl) (B:=λ_=>[]) ?_;show VS [.z ((DU W) Ah),.v (D.int Bl)] _ _ _ _;unfold aO Wx;exact(BA (ap (Ba (G5 (Bs rfl) (CM (AM rfl) Bb)) (λz5=>Pk W z5.1 z5.2.1) (λ_=>rfl) Db)) (λ_=>(Cr (fN (kH (Bs rfl)) (AM rfl)))))
def MH(Ah:(Nat×List (Int×Int))):Option (Fw (List (List Int)) Unit):=
 (((some (Ah.1:Int)).bind Ql).bind λl18=>Ep l18 (λx2=>some true) (λx2=>(((some (x2 :: [])).bind Mc).bind λxc=>(Tq Ah x2).bind λxD=>dk xc xD).bind λxM=>QA xM (CF xM))).bind λyN=>some (.rt yN)
def MM(Ah:(Nat×List (Int×Int))):Option (List (List Int)):=FC (MH Ah)
theorem ZT(W:Wd)(Ah:(Nat×List (Int×Int))):VF (Md W) [.z ((DU W) Ah)] (rN (oL (eT D.int))) (MM Ah):=by
 refine Dr (n:=1) (b:=PF W) (p:=MH Ah) (B:=λ_=>[]) ?_;show VS [.z ((DU W) Ah)] _ _ _ _;unfold PF MH;exact(Pd (Du (Di (VI.k (GP (EV (Bs rfl)))) (λx2=>G1) (λx2=>(IH (KR (QW (Wa (WV (SF (AM rfl) JA)) (Ba (G5 (Bs rfl) (CM (AM rfl) Bb)) (λxV=>fW W xV.1 xV.2.1) (λ_=>rfl) Db)))))))))
def OP(ES:(List Int)):Option (Fw Int Unit):=
 BH (some (.nx (0:Int))) λv1=>BH (Eg ES v1 λ(s3:Int) x4=>Ew (λv7=>v7) ((Ox (1:Int) x4).bind λx8=>some (.nx (Ce s3 x8)))) λs10=>some (.rt s10)
def G9(ES:(List Int)):Option Int:=FC (OP ES)
theorem cZ(W:Wd)(ES:(List Int)):VF (Q6 W) [.v ((eT D.int) ES)] (rV D.int) (G9 ES):=by
 refine Dr (n:=3) (b:=RG W) (p:=OP ES) (B:=λ_=>[]) ?_;show VS [.v ((eT D.int) ES),.u,.u] _ _ _ _;unfold RG OP;exact(BA (Dh (Ck rfl)) (λv1=>(BA (Dt (s0:=v1) (B:=(λ(Ϟ:Int)=>[.v ((eT D.int) ES),.v (D.int Ϟ),.u])) (Lx (AM rfl)) DV (.refl _) (λs3 x4=>(Ct (QV rfl (Ou (Ck rfl) (AM rfl))) (λv7=>(.same (.same (.drop .nil))))))) (λs10=>(Cr (AM rfl))))))
def ON(Mu:Int):Option (Fw (List Int) Unit):=
 BH (((some []).bind Mc).bind λx2=>some (.nx x2)) λv1=>BH (some (.nx Mu)) λv3=>BH (whF (λ(s5:(List Int)×Int)=>some (s5.2 != 0)) (λ(s5:(List Int)×Int)=>BH ((Ue s5.1 ((Dp (BG s5.2 (-s5.2)):Int) - (1:Int))).bind λl10=>some (.nx l10)) λv8=>Ew (λv21=>(v8,v21)) (some (.nx (BG s5.2 (s5.2 - (1:Int)))))) wN (v1,v3)) λs6=>some (.rt s6.1)
def G8(Mu:Int):Option (List Int):=FC (ON Mu)
theorem LS(W:Wd)(Mu:Int):VF (IR W) [.v (D.int Mu)] (rN (oL D.int)) (G8 Mu):=by
 refine Dr (n:=3) (b:=RE W) (p:=ON Mu) (B:=λ_=>[]) ?_;show VS [.v (D.int Mu),.u,.u] _ _ _ _;unfold RE ON;exact(BA (IX (Du (Ij JA))) (λv1=>(BA (Dh (AM rfl)) (λv3=>(BA (Xz (s0:=(v1,v3)) (B:=(λ(xn:(List Int)×Int)=>[.v (D.int Mu),.w 1 ((oL D.int) xn.1),.v (D.int xn.2)])) (.refl _) (λs5=>(Wc (AM rfl))) (λs5=>(BA (WS rfl (Sz (kW (OJ (AM rfl) (fL (AM rfl)))) (Ck rfl)) rfl) (λv8=>(Ct (QV rfl (Sz (AM rfl) (Ck rfl))) (λv21=>(.refl _))))))) (λs6=>(WQ rfl)))))))
def KY(Cd:(List Int))(Ds:Int)(Bl:Int):Option (Fw (List Int) Unit):=
 (Ep Cd (λx1=>some true) (λx1=>if (decide (x1=Ds))=true then some Bl else some x1)).bind λx6=>some (.rt x6)
def Kb(Cd:(List Int))(Ds:Int)(Bl:Int):Option (List Int):=FC (KY Cd Ds Bl)
theorem X3(W:Wd)(Cd:(List Int))(Ds:Int)(Bl:Int):VF (Nz W) [.v ((eT D.int) Cd),.v (D.int Ds),.v (D.int Bl)] (rV (eT D.int)) (Kb Cd Ds Bl):=by
 refine Dr (n:=3) (b:=N6 W) (p:=KY Cd Ds Bl) (B:=λ_=>[]) ?_;show VS [.v ((eT D.int) Cd),.v (D.int Ds),.v (D.int Bl)] _ _ _ _;unfold N6 KY;exact(Cr (IH (KR (Du (Di (VI.k (Lx (AM rfl))) (λx1=>G1) (λx1=>(WY (JP (Oh E8 Nk (AM rfl) (AM rfl))) (AM rfl) (AM rfl) Db)))))))
def Qm(Bk:Int)(ET:Int):Option (Fw (List (List Int)) Unit):=
 BH (((((some []).bind Mc).bind λx2=>some (x2 :: [])).bind Mc).bind λx4=>some (.nx x4)) λv1=>BH (((some ET).bind Ql).bind λl46=>Eg l46 v1 λ(s5:(List (List Int))) x6=>BH (((some []).bind Mc).bind λx8=>some (.nx x8)) λv7=>BH (Eg s5 v7 λ(s9:(List (List Int))) wu=>BH ((if (!wu.isEmpty)=true then(atI wu (-(1:Int))).bind λxM=>some (xM+(1:Int))else some (0:Int)).bind λxo=>some (.nx xo)) λv11=>Ew (λϓ=>ϓ) ((YL v11 (((Bk - ET)+x6)+(1:Int))).bind λl39=>Eg l39 s9 λ(zc:(List (List Int))) yO=>Ew (λϟ=>ϟ) ((((some (yO :: [])).bind Mc).bind λϠ=>dk wu Ϡ).bind λzd=>(Ue zc zd).bind λϡ=>some (.nx ϡ)))) λϢ=>Ew (λ_=>Ϣ) (some (.nx ()))) λs47=>some (.rt s47)
def Qn(Bk:Int)(ET:Int):Option (List (List Int)):=FC (Qm Bk ET)
theorem cY(W:Wd)(Bk:Int)(ET:Int):VF (Q5 W) [.v (D.int Bk),.v (D.int ET)] (rN (oL (eT D.int))) (Qn Bk ET):=by
 refine Dr (n:=8) (b:=RD W) (p:=Qm Bk ET) (B:=λ_=>[]) ?_;show VS [.v (D.int Bk),.v (D.int ET),.u,.u,.u,.u,.u,.u] _ _ _ _;unfold RD Qm;exact(BA (JO (Du (Ij (SF (WV JA) JA)))) (λv1=>(BA (Dt (s0:=v1) (B:=(λ(s48:(List (List Int)))=>[.v (D.int Bk),.v (D.int ET),.y ((oL (eT D.int)) s48),.u,.u,.u,.u,.u])) (GP (AM rfl)) DV (.refl _) (λs5 x6=>(BA (IX (Du (Ij JA))) (λv7=>(BA (Dt (s0:=v7) (B:=(λ(s44:(List (List Int)))=>[.v (D.int Bk),.v (D.int ET),.y ((oL (eT D.int)) s5),.v (D.int x6),.w 4 ((oL (eT D.int)) s44),.u,.u,.u])) (av rfl) DV (.refl _) (λs9 wu=>(BA (Dh (WY (kX (AM rfl)) (JB (fN (AM rfl) (fL (Ck rfl))) (Ck rfl)) (Ck rfl) Db)) (λv11=>(Ct (Dt (s0:=s9) (B:=(λ(s41:(List (List Int)))=>[.v (D.int Bk),.v (D.int ET),.y ((oL (eT D.int)) s5),.v (D.int x6),.w 4 ((oL (eT D.int)) s41),.v ((eT D.int) wu),.v (D.int v11),.u])) (LR (AM rfl) (JB (JB (Sz (AM rfl) (AM rfl)) (AM rfl)) (Ck rfl))) DV (.refl _) (λzc yO=>(Ct (WS rfl (Wa (AM rfl) (WV (SF (AM rfl) JA))) rfl) (λϟ=>(.same (.same (.same (.same (.same (.same (.same (.drop .nil)))))))))))) (λϓ=>(.same (.same (.same (.same (.same (.drop (.drop (.same .nil)))))))))))))) (λϢ=>(Ct (pF 4 rfl rfl (Vb rfl)) (λ_=>(.same (.same (.same (.drop (.drop (.same (.same (.same .nil)))))))))))))))) (λs47=>(j7 rfl)))))
def IL(Bk:Int)(ET:Int):Option (Fw Int Unit):=
 BH (some (.nx (1:Int))) λv1=>BH (((some ET).bind Ql).bind λl16=>Eg l16 v1 λ(s3:Int) x4=>Ew (λv5=>v5) (((dR s3 (Bk - x4)).bind λxU=>Vy xU (x4+(1:Int))).bind λxc=>some (.nx xc))) λs17=>some (.rt s17)
def LX(Bk:Int)(ET:Int):Option Int:=FC (IL Bk ET)
theorem QY(W:Wd)(Bk:Int)(ET:Int):VF (IQ W) [.v (D.int Bk),.v (D.int ET)] (rV D.int) (LX Bk ET):=by
 refine Dr (n:=4) (b:=IT W) (p:=IL Bk ET) (B:=λ_=>[]) ?_;show VS [.v (D.int Bk),.v (D.int ET),.u,.u] _ _ _ _;unfold IT IL;exact(BA (Dh (Ck rfl)) (λv1=>(BA (Dt (s0:=v1) (B:=(λ(s18:Int)=>[.v (D.int Bk),.v (D.int ET),.v (D.int s18),.u])) (GP (AM rfl)) DV (.refl _) (λs3 x4=>(Ct (Dh (WZ (ZS (AM rfl) (Sz (AM rfl) (AM rfl))) (JB (AM rfl) (Ck rfl)))) (λv5=>(.same (.same (.same (.drop .nil)))))))) (λs17=>(Cr (AM rfl))))))
def O3(Ah:(Nat×List (Int×Int)))(Am:Int):Option (Fw Int Unit):=
 BH (((if decide ((1:Int)<=Am)=true then some (decide (Am<=(Ah.1:Int)))else some false).bind λx5=>some (!x5)).bind λx6=>if x6=true then none else some (.nx ())) λ_=>(LX (Ah.1:Int) Am).bind λxc=>some (.rt xc)
def G6(Ah:(Nat×List (Int×Int)))(Am:Int):Option Int:=FC (O3 Ah Am)
theorem TF(W:Wd)(Ah:(Nat×List (Int×Int)))(Am:Int):VF (Me W) [.z ((DU W) Ah),.v (D.int Am)] (rV D.int) (G6 Ah Am):=by
 refine Dr (n:=2) (b:=PH W) (p:=O3 Ah Am) (B:=λ_=>[]) ?_;show VS [.z ((DU W) Ah),.v (D.int Am)] _ _ _ _;unfold PH O3;exact(BA (Gb (B:=(λ(_:Unit)=>[.z ((DU W) Ah),.v (D.int Am)])) (Ov (JP (X1 jL jL (Ck rfl) (AM rfl) (EV (Bs rfl))))) WR (Ga (.refl _))) (λ_=>(Cr (Ba (CM (EV (Bs rfl)) (CM (AM rfl) Bb)) (λxV=>QY W xV.1 xV.2.1) (λ_=>rfl) Db))))
def Nc(Ah:(Nat×List (Int×Int)))(Am:Int):Option (Fw (List (List Int)) Unit):=
 BH (((G6 Ah Am).bind λx1=>some (decide ((400:Int) < x1))).bind λx8=>if x8=true then none else some (.nx ())) λ_=>(Qn (Ah.1:Int) Am).bind λxM=>some (.rt xM)
def Fs(Ah:(Nat×List (Int×Int)))(Am:Int):Option (List (List Int)):=FC (Nc Ah Am)
theorem X4(W:Wd)(Ah:(Nat×List (Int×Int)))(Am:Int):VF (Ki W) [.z ((DU W) Ah),.v (D.int Am)] (rN (oL (eT D.int))) (Fs Ah Am):=by
 refine Dr (n:=2) (b:=N7 W) (p:=Nc Ah Am) (B:=λ_=>[]) ?_;show VS [.z ((DU W) Ah),.v (D.int Am)] _ _ _ _;unfold N7 Nc;exact(BA (Gb (B:=(λ(_:Unit)=>[.z ((DU W) Ah),.v (D.int Am)])) (JP (n9 (Ba (G5 (Bs rfl) (CM (AM rfl) Bb)) (λz7=>TF W z7.1 z7.2.1) (λ_=>rfl) Db) (Ck rfl))) WR (Ga (.refl _))) (λ_=>(Pd (Ba (CM (EV (Bs rfl)) (CM (AM rfl) Bb)) (λxZ=>cY W xZ.1 xZ.2.1) (λ_=>rfl) IC))))
def JS(DW:(List (List Int)))(Ds:Int)(KC:(List Int))(Bf:(List Int)):Option (Fw (Option (Int×(List Int))) Unit):=
 BH ((atI DW Ds).bind λl40=>Eg l40 () λ(_:Unit) x4=>BH ((Ox (1:Int) x4).bind λx8=>some (.nx x8)) λv5=>BH ((Ep Bf (λwu=>some ((BG wu v5) != 0)) (λwu=>some (CC wu v5))).bind λxM=>some (.nx xM)) λv9=>Ew (λ_=>()) (Eg (DG v9) () λ(_:Unit) xo=>Ew (λ_=>()) ((Qo DW KC xo.2).bind λϣ=>if ϣ=true then some (.rt (some (x4,(Ip v9 (some xo.1) none))))else some (.nx ())))) λ_=>some (.rt none)
def JV(DW:(List (List Int)))(Ds:Int)(KC:(List Int))(Bf:(List Int)):Option (Option (Int×(List Int))):=FC (JS DW Ds KC Bf)
theorem Wg(W:Wd)(DW:(List (List Int)))(Ds:Int)(KC:(List Int))(Bf:(List Int)):VF (Mg W) [.z ((oL (eT D.int)) DW),.v (D.int Ds),.v ((eT D.int) KC),.z ((oL D.int) Bf)] (rOP D.int (oL D.int)) (JV DW Ds KC Bf):=by
 refine Dr (n:=9) (b:=Mr W) (p:=JS DW Ds KC Bf) (B:=λ_=>[]) ?_;show VS [.z ((oL (eT D.int)) DW),.v (D.int Ds),.v ((eT D.int) KC),.z ((oL D.int) Bf),.u,.u,.u,.u,.u] _ _ _ _;unfold Mr JS;exact(BA (Dt (s0:=()) (B:=(λ(_:Unit)=>[.z ((oL (eT D.int)) DW),.v (D.int Ds),.v ((eT D.int) KC),.z ((oL D.int) Bf),.u,.u,.u,.u,.u])) (Lx (HK (Bs rfl) (AM rfl))) DV (.refl _) (λ_ x4=>(BA (Dh (Ou (Ck rfl) (AM rfl))) (λv5=>(BA (JO (Du (Di (VI.k (fG rfl)) (λwu=>(Wc (OJ (AM rfl) (AM rfl)))) (λwu=>(kU (AM rfl) (AM rfl)))))) (λv9=>(Ct (Dt (s0:=()) (B:=(λ(_:Unit)=>[.z ((oL (eT D.int)) DW),.v (D.int Ds),.v ((eT D.int) KC),.z ((oL D.int) Bf),.v (D.int x4),.v (D.int v5),.y ((oL D.int) v9),.u,.u])) (WU rfl) WO (.refl _) (λ_ xo=>(Ct (Gb (B:=(λ(_:Unit)=>[.z ((oL (eT D.int)) DW),.v (D.int Ds),.v ((eT D.int) KC),.z ((oL D.int) Bf),.v (D.int x4),.v (D.int v5),.y ((oL D.int) v9),.v (D.int xo.1),.v (D.int xo.2)])) (QX (Ba (G5 (Bs rfl) (CM (AM rfl) (CM (AM rfl) Bb))) (λxh=>fX W xh.1 xh.2.1 xh.2.2.1) (λ_=>rfl) Db)) (j8 (AM rfl) (kP (EY rfl) (SE (AM rfl)) aq)) (Ga (.refl _))) (λ_=>(.same (.same (.same (.same (.same (.same (.same (.drop (.drop .nil))))))))))))) (λ_=>(.same (.same (.same (.same (.drop (.drop (.drop (.same (.same .nil))))))))))))))))) (λ_=>j9))
def JT(DW:(List (List Int)))(Am:(List Int))(Bf:(List Int)):Option (Fw (Option (List Int)) Unit):=
 BH (((some []).bind Mc).bind λx2=>some (.nx x2)) λv1=>BH (some (.nx ())) λ_=>BH (Eg (N4 Am) (v1,Bf) λ(s5:(List Int)×(List Int)) x6=>Ew (λzb=>(zb.1,zb.2)) (((some (DW,(x6.2,((Ip Am (some x6.1) none),(s5.2,()))))).bind λxE=>JV xE.1 xE.2.1 xE.2.2.1 xE.2.2.2.1).bind λxo=>match xo with | none=>some (.rt none) | some xq=>(Ue s5.1 xq.1).bind λl22=>some (.nx (l22,xq.2)))) λzJ=>((some zJ.1).bind λx27=>some (some x27)).bind λwH=>some (.rt wH)
def JW(DW:(List (List Int)))(Am:(List Int))(Bf:(List Int)):Option (Option (List Int)):=FC (JT DW Am Bf)
theorem Wh(W:Wd)(DW:(List (List Int)))(Am:(List Int))(Bf:(List Int)):VF (Mh W) [.z ((oL (eT D.int)) DW),.v ((eT D.int) Am),.z ((oL D.int) Bf)] (rV (eO (eT D.int))) (JW DW Am Bf):=by
 refine Dr (n:=8) (b:=Ms W) (p:=JT DW Am Bf) (B:=λ_=>[]) ?_;show VS [.z ((oL (eT D.int)) DW),.v ((eT D.int) Am),.z ((oL D.int) Bf),.u,.u,.u,.u,.u] _ _ _ _;unfold Ms JT;exact(BA (IX (Du (Ij JA))) (λv1=>(BA (fE rfl) (λ_=>(BA (Dt (s0:=(v1,Bf)) (B:=(λ(s26:(List Int)×(List Int))=>[.z ((oL (eT D.int)) DW),.v ((eT D.int) Am),.z ((oL D.int) Bf),.w 3 ((oL D.int) s26.1),.z ((oL D.int) s26.2),.u,.u,.u])) (fH (AM rfl)) WO (.refl _) (λs5 x6=>(Ct (j6 (i:=3) (j:=4) (k:=7) rfl rfl (by decide) (by decide) (by decide) (Ba (G5 (Bs rfl) (CM (AM rfl) (CM (kO (AM rfl) (SE (AM rfl)) aq) (G5 (Bs rfl) Bb)))) (λxE=>Wg W xE.1 xE.2.1 xE.2.2.1 xE.2.2.2.1) (λ_=>rfl) qE) rfl) (λzb=>(.same (.same (.same (.same (.same (.drop (.drop (.same .nil)))))))))))) (λzJ=>(Cr (WW (IH (Ph rfl))))))))))
def FX(Ah:(Nat×List (Int×Int)))(ES:(List Int)):Option (Fw (Option Int) Unit):=
 BH (some (.nx [])) λv1=>BH (Eg ES v1 λ(s3:(List (Int×Bool))) x4=>BH ((KN s3 x4 true).bind λl8=>some (.nx l8)) λv5=>Ew (λϤ=>Ϥ) ((Tq Ah x4).bind λl20=>Eg l20 v5 λ(s14:(List (Int×Bool))) xc=>Ew (λyJ=>yJ) ((KN s14 xc true).bind λl19=>some (.nx l19)))) λs24=>BH (((some (Ah.1:Int)).bind Ql).bind λl36=>Eg l36 () λ(_:Unit) wH=>Ew (λ_=>()) (if (!(Aj s24 wH).isSome)=true then((some wH).bind λyO=>some (some yO)).bind λB'=>some (.rt B')else some (.nx ()))) λ_=>some (.rt none)
def FY(Ah:(Nat×List (Int×Int)))(ES:(List Int)):Option (Option Int):=FC (FX Ah ES)
theorem Pl(W:Wd)(Ah:(Nat×List (Int×Int)))(ES:(List Int)):VF (Hk W) [.z ((DU W) Ah),.v ((eT D.int) ES)] (rV (eO D.int)) (FY Ah ES):=by
 refine Dr (n:=5) (b:=Hq W) (p:=FX Ah ES) (B:=λ_=>[]) ?_;show VS [.z ((DU W) Ah),.v ((eT D.int) ES),.u,.u,.u] _ _ _ _;unfold Hq FX;exact(BA (IX S7) (λv1=>(BA (Dt (s0:=v1) (B:=(λ(zJ:(List (Int×Bool)))=>[.z ((DU W) Ah),.v ((eT D.int) ES),.w 2 ((oDK D.bl) zJ),.u,.u])) (Lx (AM rfl)) DV (.refl _) (λs3 x4=>(BA (Pe rfl (AM rfl) (Ck rfl) rfl) (λv5=>(Ct (Dt (s0:=v5) (B:=(λ(s22:(List (Int×Bool)))=>[.z ((DU W) Ah),.v ((eT D.int) ES),.w 2 ((oDK D.bl) s22),.v (D.int x4),.u])) (Lx (Ba (G5 (Bs rfl) (CM (AM rfl) Bb)) (λxK=>fW W xK.1 xK.2.1) (λ_=>rfl) Db)) DV (.refl _) (λs14 xc=>(Ct (Pe rfl (AM rfl) (Ck rfl) rfl) (λyJ=>(.same (.same (.same (.same (.drop .nil))))))))) (λϤ=>(.same (.same (.same (.drop (.same .nil))))))))))) (λs24=>(BA (Dt (s0:=()) (B:=(λ(_:Unit)=>[.z ((DU W) Ah),.v ((eT D.int) ES),.w 2 ((oDK D.bl) s24),.u,.u])) (GP (EV (Bs rfl))) DV (.refl _) (λ_ wH=>(Ct (Gb (B:=(λ(_:Unit)=>[.z ((DU W) Ah),.v ((eT D.int) ES),.w 2 ((oDK D.bl) s24),.v (D.int wH),.u])) (JP (S6 (AM rfl) (Ph rfl))) (Cr (WW (AM rfl))) (Ga (.refl _))) (λ_=>(.same (.same (.same (.drop (.same .nil))))))))) (λ_=>(Cr kI)))))))
structure Fp where
 ev:List (List Int)
 kd:Str
 tk:List (List Int)
 nu:List (List Int×Int)
 hv:List Int
 pb:List Int
abbrev fdF(a b c h k m:Nat)(kd:Str):List (Str×D):=[("everything",.ref a),("kind",.str kd),("takes",.ref b),("numbers",.ref c),("having",.ref h),("place_bits",.ref k),("known",.ref m)]
def Yz(W:Wd)(f:Fp)(L:Nat->Option Ob)(q m:Nat):Prop:=∃a b c h k,L q=some (.ins W.Field (fdF a b c h k m f.kd))/\L a=some (oL (eT D.int) f.ev)/\L b=some (oL (eT D.int) f.tk)/\L c=some (oDR D.int f.nu)/\L h=some (oL D.int f.hv)/\L k=some (oL D.int f.pb)
def Gg(W:Wd)(f:Fp)(L:Nat->Option Ob)(d:D):Prop:=∃q m,d=.ref q/\Yz W f L q m
section
variable{W:Wd}{f:Fp}{P P':Pq}{C:AW}{x:Str}{d:D}{o:Ob}
theorem AtO.of(h:∀L d,P L d->P' L d)(z:AtO P' C x o):AtO P C x o:=λL d q=>z L d (h L d q)
theorem AtN.of(h:∀L d,P L d->P' L d)(z:AtN P' C x):AtN P C x:=λL d q=>z L d (h L d q)
theorem bm:AtV (Gg W f) W.Field "kind" (D.str f.kd):=λL d ⟨q,m,e,a,b,c,h,k,g,_⟩=>⟨q,_,e,g,rfl⟩
theorem FH:AtO (Gg W f) W.Field "everything" (oL (eT D.int) f.ev):=λL d ⟨q,m,e,a,b,c,h,k,g,g1,_⟩=>⟨q,_,a,e,g,rfl,g1⟩
theorem P8:AtO (Gg W f) W.Field "takes" (oL (eT D.int) f.tk):=λL d ⟨q,m,e,a,b,c,h,k,g,g1,g2,_⟩=>⟨q,_,b,e,g,rfl,g2⟩
theorem aD:AtO (Gg W f) W.Field "numbers" (oDR D.int f.nu):=λL d ⟨q,m,e,a,b,c,h,k,g,g1,g2,g3,_⟩=>⟨q,_,c,e,g,rfl,g3⟩
theorem df:AtO (Gg W f) W.Field "having" (oL D.int f.hv):=λL d ⟨q,m,e,a,b,c,h,k,g,g1,g2,g3,g4,_⟩=>⟨q,_,h,e,g,rfl,g4⟩
theorem Oo:AtO (Gg W f) W.Field "place_bits" (oL D.int f.pb):=λL d ⟨q,m,e,a,b,c,h,k,g,g1,g2,g3,g4,g5⟩=>⟨q,_,k,e,g,rfl,g5⟩
theorem iw(hx:∀a b c h k m kd,(fdF a b c h k m kd).lookup x=none):AtN (Gg W f) W.Field x:=λL d ⟨q,m,e,a,b,c,h,k,g,_⟩=>⟨q,_,e,g,hx ..⟩
end
def Ic(BR:Fp)(Al:Int):Option (Fw (List Int) Unit):=
 BH ((atI BR.ev Al).bind λx4=>some (.nx x4)) λv1=>(((some (BR.tk.length:Int)).bind Ql).bind λl9=>Ep l9 (λx6=>some (!decide (x6∈v1))) (λx6=>some x6)).bind λwu=>some (.rt wu)
def FF(BR:Fp)(Al:Int):Option (List Int):=FC (Ic BR Al)
theorem Oj(W:Wd)(BR:Fp)(Al:Int):VF (Ih W) [.q (Gg W BR),.v (D.int Al)] (rN (oL D.int)) (FF BR Al):=by
 refine Dr (n:=3) (b:=LJ W) (p:=Ic BR Al) (B:=λ_=>[]) ?_;show VS [.q (Gg W BR),.v (D.int Al),.u] _ _ _ _;unfold LJ Ic;exact(BA (Dh (HK (EZ FH rfl) (AM rfl))) (λv1=>(Pd (Du (Di (VI.k (GP (Pi (EZ P8 rfl)))) (λx6=>(JP (WX E8 (AM rfl) (AM rfl)))) (λx6=>(AM rfl)))))))
def EG(BR:Fp)(Al:Int):Option (Fw Int Unit):=
 BH ((atI BR.ev Al).bind λx4=>some (.nx x4)) λv1=>BH (some (.nx (0:Int))) λv5=>BH (Eg v1 v5 λ(s7:Int) x8=>Ew (λs33=>s33) ((atI BR.tk x8).bind λyP=>Eg yP s7 λ(Ϟ:Int) xj=>Ew (λzc=>zc) (if (!decide (xj∈v1))=true then Ew (λϥ=>ϥ) (((((Kb v1 x8 xj).bind λyx=>QA yx (CF yx)).bind λwL=>Aj BR.nu wL).bind λzK=>Ox (1:Int) zK).bind λwH=>some (.nx (Ce Ϟ wH)))else some (.nx Ϟ)))) λs36=>some (.rt s36)
def EJ(BR:Fp)(Al:Int):Option Int:=FC (EG BR Al)
theorem IA(W:Wd)(BR:Fp)(Al:Int):VF (DX W) [.q (Gg W BR),.v (D.int Al)] (rV D.int) (EJ BR Al):=by
 refine Dr (n:=6) (b:=FO W) (p:=EG BR Al) (B:=λ_=>[]) ?_;show VS [.q (Gg W BR),.v (D.int Al),.u,.u,.u,.u] _ _ _ _;unfold FO EG;exact(BA (Dh (HK (EZ FH rfl) (AM rfl))) (λv1=>(BA (Dh (Ck rfl)) (λv5=>(BA (Dt (s0:=v5) (B:=(λ(s37:Int)=>[.q (Gg W BR),.v (D.int Al),.v ((eT D.int) v1),.v (D.int s37),.u,.u])) (Lx (AM rfl)) DV (.refl _) (λs7 x8=>(Ct (Dt (s0:=s7) (B:=(λ(s34:Int)=>[.q (Gg W BR),.v (D.int Al),.v ((eT D.int) v1),.v (D.int s34),.v (D.int x8),.u])) (Lx (HK (EZ P8 rfl) (AM rfl))) DV (.refl _) (λϞ xj=>(Ct (Gb (B:=(λ(s31:Int)=>[.q (Gg W BR),.v (D.int Al),.v ((eT D.int) v1),.v (D.int s31),.v (D.int x8),.v (D.int xj)])) (JP (WX E8 (AM rfl) (AM rfl))) (Ct (QV rfl (Ou (Ck rfl) (fO (EZ aD rfl) (IH (KR (QW (Ba (CM (AM rfl) (CM (AM rfl) (CM (AM rfl) Bb))) (λCs=>X3 W Cs.1 Cs.2.1 Cs.2.2.1) (λ_=>rfl) Db))))))) (λϥ=>(.refl _))) (Ga (.refl _))) (λzc=>(.same (.same (.same (.same (.same (.drop .nil)))))))))) (λs33=>(.same (.same (.same (.same (.drop (.same .nil)))))))))) (λs36=>(Cr (AM rfl))))))))
def EI(BR:Fp)(Al:Int):Option (Fw Int Unit):=
 BH ((atI BR.ev Al).bind λx4=>some (.nx x4)) λv1=>BH (some (.nx (0:Int))) λv5=>BH (Eg (DG BR.pb) v5 λ(s8:Int) x9=>Ew (λs22=>s22) ((Qo BR.tk v1 x9.2).bind λxq=>if xq=true then Ew (λyj=>yj) ((Ox (1:Int) x9.1).bind λxo=>some (.nx (Ce s8 xo)))else some (.nx s8))) λzJ=>some (.rt zJ)
def EK(BR:Fp)(Al:Int):Option Int:=FC (EI BR Al)
theorem IB(W:Wd)(BR:Fp)(Al:Int):VF (DY W) [.q (Gg W BR),.v (D.int Al)] (rV D.int) (EK BR Al):=by
 refine Dr (n:=6) (b:=FP W) (p:=EI BR Al) (B:=λ_=>[]) ?_;show VS [.q (Gg W BR),.v (D.int Al),.u,.u,.u,.u] _ _ _ _;unfold FP EI;exact(BA (Dh (HK (EZ FH rfl) (AM rfl))) (λv1=>(BA (Dh (Ck rfl)) (λv5=>(BA (Dt (s0:=v5) (B:=(λ(s26:Int)=>[.q (Gg W BR),.v (D.int Al),.v ((eT D.int) v1),.v (D.int s26),.u,.u])) (kG Oo rfl) WO (.refl _) (λs8 x9=>(Ct (Gb (B:=(λ(xn:Int)=>[.q (Gg W BR),.v (D.int Al),.v ((eT D.int) v1),.v (D.int xn),.v (D.int x9.1),.v (D.int x9.2)])) (QX (Ba (G5 (EZ P8 rfl) (CM (AM rfl) (CM (AM rfl) Bb))) (λxZ=>fX W xZ.1 xZ.2.1 xZ.2.2.1) (λ_=>rfl) Db)) (Ct (QV rfl (Ou (Ck rfl) (AM rfl))) (λyj=>(.refl _))) (Ga (.refl _))) (λs22=>(.same (.same (.same (.same (.drop (.drop .nil)))))))))) (λzJ=>(Cr (AM rfl))))))))
def Eb(BR:Fp)(Al:Int)(DO:Int)(Bf:Int):Option (Fw (Option (List Int)) Unit):=
 BH ((atI BR.ev Al).bind λx4=>some (.nx x4)) λv1=>BH (if (decide (BR.kd=("all" : Str)))=true then((((((G8 Bf).bind λl13=>Ep l13 (λwu=>some true) (λwu=>atI BR.pb wu)).bind λxD=>some (xD,())).bind λzL=>some (v1,zL)).bind λyN=>some (BR.tk,yN)).bind λyk=>JW yk.1 yk.2.1 yk.2.2.1).bind λxq=>some (.rt xq)else some (.nx ())) λ_=>BH (((some []).bind Mc).bind λzK=>some (.nx zK)) λv25=>BH ((G8 Bf).bind λl42=>Eg l42 v25 λ(zc:(List (List Int))) yO=>Ew (λϟ=>ϟ) ((Ep v1 (λzM=>some true) (λzM=>((atI BR.ev yO).bind λϦ=>some (decide (zM∈Ϧ))).bind λx40=>if x40=true then some zM else some DO)).bind λzd=>(Ue zc zd).bind λϡ=>some (.nx ϡ))) λϢ=>(((some Ϣ).bind Yu).bind λx45=>some (some x45)).bind λD'=>some (.rt D')
def Ec(BR:Fp)(Al:Int)(DO:Int)(Bf:Int):Option (Option (List Int)):=FC (Eb BR Al DO Bf)
theorem NS(W:Wd)(BR:Fp)(Al:Int)(DO:Int)(Bf:Int):VF (GB W) [.q (Gg W BR),.v (D.int Al),.v (D.int DO),.v (D.int Bf)] (rV (eO (eT D.int))) (Ec BR Al DO Bf):=by
 refine Dr (n:=7) (b:=GF W) (p:=Eb BR Al DO Bf) (B:=λ_=>[]) ?_;show VS [.q (Gg W BR),.v (D.int Al),.v (D.int DO),.v (D.int Bf),.u,.u,.u] _ _ _ _;unfold GF Eb;exact(BA (Dh (HK (EZ FH rfl) (AM rfl))) (λv1=>(BA (Gb (B:=(λ(_:Unit)=>[.q (Gg W BR),.v (D.int Al),.v (D.int DO),.v (D.int Bf),.v ((eT D.int) v1),.u,.u])) (JP (Oh bv iA (fR bm rfl) (Ck rfl))) (Cr (Ba (G5 (EZ P8 rfl) (CM (AM rfl) (G5 (KR (Du (Di (VI.k (Ks (Ba (CM (AM rfl) Bb) (λz9=>LS W z9.1) (λ_=>rfl) IC))) (λwu=>G1) (λwu=>(HK (EZ Oo rfl) (AM rfl)))))) Bb))) (λyk=>Wh W yk.1 yk.2.1 yk.2.2.1) (λ_=>rfl) Db)) (Ga (.refl _))) (λ_=>(BA (IX (Du (Ij JA))) (λv25=>(BA (Dt (s0:=v25) (B:=(λ(s44:(List (List Int)))=>[.q (Gg W BR),.v (D.int Al),.v (D.int DO),.v (D.int Bf),.v ((eT D.int) v1),.w 5 ((oL (eT D.int)) s44),.u])) (Ks (Ba (CM (AM rfl) Bb) (λz29=>LS W z29.1) (λ_=>rfl) IC)) DV (.refl _) (λzc yO=>(Ct (WS rfl (IH (KR (Du (Di (VI.k (Lx (AM rfl))) (λzM=>G1) (λzM=>(WY (JP (pQ E8 (AM rfl) (HK (EZ FH rfl) (AM rfl)))) (AM rfl) (AM rfl) Db)))))) rfl) (λϟ=>(.same (.same (.same (.same (.same (.same (.drop .nil))))))))))) (λϢ=>(Cr (WW (kJ (Ph rfl))))))))))))
def MN(f:Fp)(n:Int):Option Int:=if decide (f.kd = "one")=true then EJ f n else EK f n
def DQ(W:Wd)(f:Fp)(L:Nat->Option Ob)(d:D):Prop:=∃q m lk,d=.ref q/\Yz W f L q m/\L m=some (.mem lk)/\∀n z:Int,0<=n->n < 1000->MN f n=some z->lk (.inl n)=z
section
variable{W:Wd}{f:Fp}{x:Str}{L L':Nat->Option Ob}{qn m:Nat}
theorem DQ.q:∀L d,DQ W f L d->Gg W f L d:=λL d ⟨q,m,lk,e,h,_⟩=>⟨q,m,e,h⟩
theorem Gy:AtO (DQ W f) W.Field "everything" (oL (eT D.int) f.ev):=AtO.of DQ.q FH
theorem dh:AtO (DQ W f) W.Field "having" (oL D.int f.hv):=AtO.of DQ.q df
theorem Vw(hx:∀a b c h k m kd,(fdF a b c h k m kd).lookup x=none):AtN (DQ W f) W.Field x:=AtN.of DQ.q (iw hx)
theorem Yz.mono(h:∀n o,L n=some o->L' n=some o):Yz W f L qn m->Yz W f L' qn m:=λ⟨a,b,c,d,k,g0,g1,g2,g3,g4,g5⟩=>⟨a,b,c,d,k,h _ _ g0,h _ _ g1,h _ _ g2,h _ _ g3,h _ _ g4,h _ _ g5⟩
end
abbrev Z1(W:Wd):ME:=UC (mB (m2 (eqD false) (DC W.Field "kind" (AE 0)) (mC (.str "one")))) (Kf W.Field "linked_by_one" 2 (DX W) (AE 0) (AN (AE 1) BL)) (Kf W.Field "linked_by_all" 2 (DY W) (AE 0) (AN (AE 1) BL))
theorem fM(W:Wd)(f:Fp)(n:Int):VE [.q (Gg W f),.v (D.int n)] (Z1 W) (rV D.int) (MN f n):=
 WY (JP (Oh bv iA (fR bm rfl) (Ck rfl)))
  (KU (Pf:=Gg W) (Pg:=Gg W) (iw λ_ _ _ _ _ _ _=>rfl) (λ_ _ h=>h) rfl (CM (AM rfl) Bb) (λz=>IA W f z.1) (λ_=>rfl) Db)
  (KU (Pf:=Gg W) (Pg:=Gg W) (iw λ_ _ _ _ _ _ _=>rfl) (λ_ _ h=>h) rfl (CM (AM rfl) Bb) (λz=>IB W f z.1) (λ_=>rfl) Db) Db
def Fv(f:Fp)(n:Int):Option Int:=if 0<=n/\n < 1000 then MN f n else none
theorem kZ{κ α:Type}[DecidableEq κ]{l:List (κ×α)}{k:κ}{v:α}(h:Aj l k=some v):(k,v)∈l:=by
 unfold Aj at h
 cases hf:l.find? λkv=>decide (kv.1=k)with
 | none=>rw[hf]at h;cases h
 | some x=>
  rw[hf]at h;cases h
  have h1:x.1=k:=by have:=jx hf;exact of_decide_eq_true this
  subst h1;exact WJ hf
theorem Z4{W:Wd}{f:Fp}{n z:Int}{S:Sto}{q m:Nat}{lk:Key->Int}(Κ:0<=n)(Φ:n < 1000)(hz:MN f n=some z)(hl:lk (.inl n)=z)(hC:Yz W f (λk=>S[k]?) q m)(hm:S[m]?=some (.mem lk)):og (JH W) [.ref q,.int n] S m lk z:=by
 intro f' hk;obtain⟨a,b,c,h,k,g0,g1,g2,g3,g4,g5⟩:=hC
 have ne:∀j o,S[j]?=some o->o≠Ob.mem lk->j≠m:=λj o h1 h2 e=>by
  subst e;rw[hm]at h1;cases h1;exact h2 rfl
 have ze:(S.set m (.dK f'))[m]?=some (.dK f'):=Aq (BW hm)
 have G':∀j o,S[j]?=some o->o≠Ob.mem lk->(S.set m (.dK f'))[j]?=some o:=λj o h1 h2=>by rw[Ab (Br (ne j o h1 h2))];exact h1
 have yw:=G' q _ g0 (λz=>nomatch z);have C1:Yz W f (λk=>(S.set m (.dK f'))[k]?) q m:=⟨a,b,c,h,k,yw,G' a _ g1 (λz=>nomatch z),G' b _ g2 (λz=>nomatch z),G' c _ g3 (λz=>nomatch z),G' h _ g4 (λz=>nomatch z),G' k _ g5 (λz=>nomatch z)⟩
 have st:∀j,j < S.length->j≠m->(S.set m (.dK f'))[j]?=S[j]?:=λj _ hj=>Ab (Br hj)
 generalize hS1:S.set m (.dK f')=S1 at ze yw C1 st
 have fk:∀S2:Sto,S2[q]?=some (.ins W.Field (fdF a b c h k m f.kd))->DC W.Field "known" (AE 0) [sR q,sI n] S2=.ok (.ref m) S2:=λS2 h2=>LB (n:=q) (by rfl) h2 rfl
 have sq:∀(S2:Sto) l,S2[m]?=some (.dK l)->HG (.ref m) S2=none:=λS2 l h2=>by unfold HG;dsimp only;rw[h2];try rfl
 have dg:∀(S2:Sto) l,S2[m]?=some (.dK l)->Oa (.ref m) (.int n) S2=some (Aj l (.inl n)):=λS2 l h2=>by unfold Oa;dsimp only;rw[h2];try rfl
 have wJ:mB (m2 (inA true) (AE 1) (DC W.Field "known" (AE 0))) [sR q,sI n] S1=.ok (!(Aj f' (.inl n)).isSome) S1:=
  Uh (Dc (x:=.int n) (S1:=S1) (by rfl) (fk S1 yw) (aG (sq S1 f' ze) (dg S1 f' ze) true))
 cases hv:Aj f' (.inl n)with
 | some d=>
  have hd:d=.int z:=by rw[<-hl];exact(hk.2 _ (kZ hv)).2
  subst hd;rw[hv]at wJ;refine⟨S1,f',?_,ze,hk,st⟩;refine _root_.M.Nb ?_;unfold J9;refine IV (B1 (e1:=[sR q,sI n]) (S1:=S1) (IV (HB wJ) rfl)) ?_;exact IK (Dc (fk S1 yw) (y:=.int n) (by rfl) (RB (sq S1 f' ze) (by rw[dg S1 f' ze,hv])))
 | none=>
  rw[hv]at wJ;have hQ:M2 S1 [.q (Gg W f),.v (D.int n)] [.ref q,.int n]:=⟨λL hL=>⟨q,m,rfl,C1.mono hL⟩,rfl,trivial⟩;obtain⟨d,S2,hE,kS,rfl⟩:=fM W f n z hz S1 _ _ S1 (Vs.start (n:=2) hQ);have w8:=kS.at ze;have hq2:=kS.at yw
  have hlen:f'.length < sizeLine:=by
   have h1:=HZ hk.1 (k:=W6) λx hx=>by
    obtain⟨y,hy,rfl⟩:=BD.mp hx;exact(hk.2 y hy).1
   rw[AF]at h1
   have h2:W6.length=1000:=by unfold W6;rw[AF,ee]
   rw[h2]at h1;exact Z3 (Au h1 (by decide))
  have nk:D2 n∉f'.map (·.1):=λhx=>by
   have:=(DB f' (.inl n)).mpr hx;rw[hv]at this;cases this
  have pe:CJ f' (.inl n) (D.int z)=f'++[(.inl n,D.int z)]:=by
   unfold CJ;rw[qY];intro c;obtain⟨y,hy,h2⟩:=Go.mp c;exact nk (BD.mpr ⟨y,hy,of_decide_eq_true h2⟩)
  have hk2:nU lk (f'++[(.inl n,D.int z)]):=by
   refine⟨?_,λx hx=>?_⟩
   ·rw[CS]
    exact Em.mpr ⟨hk.1,(Bh.mpr ⟨Gm,EM⟩),λx hx y hy=>by
     rw[AU.mp hy];intro e;subst e
     exact nk hx⟩
   ·rcases Ax.mp hx with h1 | h1
    ·exact hk.2 x h1
    ·rw[AU.mp h1]
     refine⟨?_,by rw[hl]⟩;unfold W6;exact BD.mpr ⟨n.toNat,Oe.mpr (by omega),by show D2 ((n.toNat:Nat):Int)=_;rw[As Κ]⟩
  have xT:DE (DC W.Field "known" (AE 0)) (AE 1) (Z1 W) [sR q,sI n] S1=oN [sR q,sI n] (S2.set m (.dK (f'++[(.inl n,D.int z)]))):=by
   unfold DE;rw[show Z1 W [sR q,sI n] S1=.ok (.int z) S2 from hE];dsimp only[Res.lift];rw[fk S2 hq2];dsimp only;rw[show AE 1 [sR q,sI n] S2=.ok (.int n) S2 from rfl];dsimp only
   rw[show R7 (.ref m) (.int n) (.int z) S2=some (S2.set m (.dK (f'++[(.inl n,D.int z)]))) by
    unfold R7;dsimp only;rw[w8];show(if f'.length < sizeLine then some (S2.set m (.dK (CJ f' (D2 n) (D.int z))))else none)=_
    rw[qX hlen,pe]]
  have hm3:(S2.set m (.dK (f'++[(.inl n,D.int z)])))[m]?=some (.dK (f'++[(.inl n,D.int z)])):=Aq (BW w8)
  have zE:(S2.set m (.dK (f'++[(.inl n,D.int z)])))[q]?=some (.ins W.Field (fdF a b c h k m f.kd)):=by
   rw[Ab]
   ·exact hq2
   ·intro e
    subst e;rw[ze]at yw;cases yw
  have yB:∀j,j < S.length->j≠m->(S2.set m (.dK (f'++[(.inl n,D.int z)])))[j]?=S[j]?:=λj hj wg=>by
   rw[Ab (Br wg),kS.2 j (by rw[<-hS1,D3];exact hj)];exact st j hj wg
  refine⟨_,f'++[(.inl n,D.int z)],?_,hm3,hk2,yB⟩;refine Nb ?_;unfold J9;refine IV (B1 (e1:=[sR q,sI n]) (IV (HB wJ) xT)) ?_;refine IK (Dc (fk _ zE) (y:=.int n) (by rfl) (RB (sq _ _ hm3) ?_));rw[dg _ _ hm3,<-pe,Cc,qX rfl]
theorem TM(W:Wd)(f:Fp)(n:Int):VF (Hm W) [.q (DQ W f),.v (D.int n)] (rV D.int) (Fv f n):=λz hz S ds ha=>by
 match ds,ha with
 | [d,x],⟨h1,h2,_⟩=>
  cases h2
  obtain⟨q,m,lk,rfl,hC,hm,hlk⟩:=h1 (λk=>S[k]?) λ_ _ h=>h
  unfold Fv at hz;split at hz
  ·rename_i hn
   have key:=Z4 hn.1 hn.2 hz (hlk n z hn.1 hn.2 hz) hC hm;refine⟨.int z,S,?_,Keeps.refl S,rfl⟩;unfold Hm nR
   rw[show Vq "known" [.ref q,.int n] S=some m by
    obtain⟨a,b,c,h,k,g0,_⟩:=hC;unfold Vq;dsimp only;rw[show S[q]?=_ from g0]
    rfl]
   dsimp only;rw[show S[m]?=_ from hm];dsimp only;obtain⟨S0,k0,e0,_⟩:=key [] ⟨EM,λ_ hx=>nomatch hx⟩;rw[e0];dsimp only;rw[qX key]
  ·cases hz
def nuS(l:List (List Int×Int))(x:Int×List Int):List (List Int×Int):=CJ l x.2 x.1
def hvP(k:Int)(h:List Int)(p:Int):List Int:=h.set p.toNat (Ce (h.getD p.toNat 0) (1 * 2 ^ k.toNat))
def hvS(h:List Int)(x:Int×List Int):List Int:=x.2.foldl (hvP x.1) h
def nuF(ev:List (List Int)):List (List Int×Int):=(DG ev).foldl nuS []
def hv0(n:Nat):List Int:=(DF 0 n).map λ_=>0
def hvF(n:Nat)(ev:List (List Int)):List Int:=(DG ev).foldl hvS (hv0 n)
def Kd(w:Nat×List (Int×Int))(g:Int)(kd:Str):Option Fp:=
 (Fs w g).bind λev=>(MM w).bind λtk=>(Ep ev (λ_=>some true) G9).bind λpb=>
  if ev.length<=1000/\w.1<=1000/\∀r∈ev,∀x∈r,0<=x/\x < (w.1:Int)then some ⟨ev,kd,tk,nuF ev,hvF w.1 ev,pb⟩else none
structure Fc(W:Wd)(S1:Sto)(fs:List (Str×D))(T:Sto):Prop where
 kp:Keeps S1 T
 at':T[S1.length]?=some (.ins W.Field fs)
section
variable{W:Wd}{S1 T T':Sto}{fs:List (Str×D)}{x:Str}{d:D}{e:Lo}{m:ME}{j:Nat}{o:Ob}
theorem Fc.put(h:Fc W S1 fs T)(k:Keeps T T'):Fc W S1 (KO x d fs) (T'.set S1.length (.ins W.Field (KO x d fs))):=⟨(h.kp.trans k).set (AO _) _,Aq (BW (k.at h.at'))⟩
theorem Fc.set(h:Fc W S1 fs T)(hj:S1.length < j):Fc W S1 fs (T.set j o):=⟨h.kp.set (NM hj) _,by rw[Ab (Er hj)];exact h.at'⟩
theorem Fc.step(h:Fc W S1 fs T)(he:e[0]?=some (some (.ref S1.length)))(hm:m e T=.ok d T')(k:Keeps T T')(hl:fs.length < 1000):KW W.Field x (AE 0) m e T=.ok (.nx e) (T'.set S1.length (.ins W.Field (KO x d fs))):=SI hm (G4 he) (k.at h.at') hl
theorem FV(h:T[j]?=some o)(hq:q < j):(T.set q o')[j]?=some o:=by rw[Ab (BE hq)];exact h
theorem Vs.all(h:∀(i:Nat) (a:Sl),A[i]?=some a->∃x,e[i]?=some x/\a.ok T (Lg T) T x):Vs T A e (Lg T) T:=by
 refine⟨Keeps.refl T,λn o q=>?_,λn i q=>?_,λn hn=>by unfold Lg;rw[CB hn],h⟩
 ·unfold Lg at q
  split at q
  ·rename_i o' ho;cases q;exact ho
  ·cases q
 ·unfold Lg at q
  split at q <;> cases q
theorem aS(h:T[j]?=some o):Lg T j=.fz o:=by unfold Lg;rw[h]
theorem nJ(ho:mo e T=.ok (.ref n) T)(hi:mi e T=.ok (.int p) T)(hv:mv e T=.ok (.int y) T)(hn:T[n]?=some (.lst xs))(hp:0<=p)(hx:xs[p.toNat]?=some (.int z)):YG g mo mi mv e T=.ok (.nx e) (T.set n (.lst (xs.set p.toNat (.int (g z y))))):=by
 have ha:atL (.ref n) T=some (n,xs):=by unfold atL;dsimp only;rw[hn]
 unfold YG;rw[ho];dsimp only[Res.lift];rw[hi];dsimp only;rw[ha];dsimp only;rw[qX hp,hx];dsimp only;rw[hv];dsimp only;rw[ha];dsimp only;rw[qX (AD.mp hx).1]
end
theorem XD(k:Int):∀(r h:List Int),(r.foldl (hvP k) h).length=h.length
 | [],h=>rfl
 | p :: r,h=>by
  show(r.foldl (hvP k) (hvP k h p)).length=_;rw[XD k r];exact D3
theorem iZ:∀(l:List (Int×List Int)) (h:List Int),(l.foldl hvS h).length=h.length
 | [],h=>rfl
 | x :: l,h=>by
  show(l.foldl hvS (hvS h x)).length=_;rw[iZ l];exact XD _ _ _
theorem g9:∀(l:List (Int×List Int)) (h:List (List Int×Int)),(l.foldl nuS h).length<=h.length+l.length
 | [],h=>AO _
 | x :: l,h=>by
  have h1:=g9 l (nuS h x)
  have h2:(nuS h x).length<=h.length+1:=by
   unfold nuS CJ;split
   ·rw[AF];exact JN _
   ·rw[AY];exact AO _
  show(l.foldl nuS (nuS h x)).length<=_;rw[Av];omega
theorem dn(ev:List α)(i:Nat):(DG ev)[i]?=(ev[i]?).map λr=>((i:Int),r):=by
 unfold DG;rw[AZ,En]
 cases ev[i]? <;> simp
abbrev eF7(q wn:Nat)(g:Int)(kd:Str)(a b c:Option D):Lo:=[sR q,sR wn,sI g,some (.str kd),a,b,c]
abbrev nlA(W:Wd):MS:=YG (λa b=>Ce a b) (DC W.Field "having" (AE 0)) (AE 6) (m2 Qe (mC (.int 1)) (AE 4))
abbrev nlB(W:Wd):MS:=BK (DE (DC W.Field "numbers" (AE 0)) (AE 5) (AE 4)) (Ez (D0 (AE 5)) (tgN 6) (nlA W))
abbrev nlG:MG:=JK 2 (DL (tgN 4) (DL (tgN 5) Jh))
abbrev eF8(q wn:Nat)(g:Int)(kd:Str)(i:Nat)(r:List Int)(z:Option D):Lo:=eF7 q wn g kd (some (.int (i:Int))) (some (eT D.int r)) z
theorem YX(W:Wd)(hF:Fc W S1 fs T)(fa:fs.lookup ("everything" : Str)=some (.ref a)) (fc:fs.lookup ("numbers" : Str)=some (.ref c)) (fh:fs.lookup ("having" : Str)=some (.ref h)) (ha:S1.length < a) (hac:a < c) (xX:c < h) (Ta:T[a]?=some (oL (eT D.int) ev)) (Tc:T[c]?=some (oDR D.int ([]:List (List Int×Int)))) (Th:T[h]?=some (oL D.int (hv0 n))) (hev:ev.length<=1000) (hr:∀r∈ev,∀x∈r,0<=x/\x < (n:Int)) :
  ∃e4 e5 e6 T',Ez (Jy (DC W.Field "everything" (AE 0))) nlG (nlB W) (eF7 S1.length wn g kd none none none) T=.ok (.nx (eF7 S1.length wn g kd e4 e5 e6)) T' /\
   Fc W S1 fs T'/\T'[c]?=some (oDR D.int (nuF ev))/\T'[h]?=some (oL D.int (hvF n ev))/\∀j,j≠c->j≠h->T'[j]?=T[j]?:=by
 have hi:Jy (DC W.Field "everything" (AE 0)) (eF7 S1.length wn g kd none none none) T=.ok (Og (FT (.ref a))) T:=by
  unfold Jy;rw[LB (C:=W.Field) (f:="everything") (m:=AE 0) (n:=S1.length) (by rfl) hF.at' fa];dsimp only[Res.bind];rw[Da Ta]
 have ϧ:(hv0 n).length=n:=by unfold hv0;rw[AF,Bo]
 obtain⟨f,T',h1,h2⟩:=Nv (v:=Og (FT (.ref a))) (g:=nlG) (b:=nlB W) (xs:=(DG ev).map (eP D.int (eT D.int))) (e:=eF7 S1.length wn g kd none none none) (S:=T)
  (λi e S=>(∃e4 e5 e6,e=eF7 S1.length wn g kd e4 e5 e6)/\Fc W S1 fs S/\S[c]?=some (oDR D.int (((DG ev).take i).foldl nuS []))/\S[h]?=some (oL D.int (((DG ev).take i).foldl hvS (hv0 n)))/\∀j,j≠c->j≠h->S[j]?=T[j]?)
  (λf S=>∃e4 e5 e6,f=.nx (eF7 S1.length wn g kd e4 e5 e6)/\Fc W S1 fs S/\S[c]?=some (oDR D.int (nuF ev))/\S[h]?=some (oL D.int (hvF n ev))/\∀j,j≠c->j≠h->S[j]?=T[j]?)
  ⟨⟨_,_,_,rfl⟩,hF,Tc,Th,λ_ _ _=>rfl⟩
  (λi e S hI=>by
   obtain⟨_,_,_,_,h5⟩:=hI;unfold Og;rw[Da (xs:=ev.map (eT D.int)) (show S[a]?=_ from(h5 a (by omega) (by omega)).trans Ta)]
   exact congrArg some (RA ev))
  (λi d e S hd hI=>by
   obtain⟨⟨e4,e5,e6,rfl⟩,hS,Sc,Sh,So⟩:=hI;rw[AZ]at hd;obtain⟨⟨k,r⟩,hx,rfl⟩:=FA.mp hd;have zA:=hx;rw[dn]at zA;obtain⟨r0,hr',hr2⟩:=FA.mp zA;cases hr2;have hrm:r∈ev:=BB hr';have yq:i < ev.length:=(AD.mp hr').1
   have tk:(DG ev).take (i+1)=(DG ev).take i++[((i:Int),r)]:=by
    rw[Hx,hx];rfl
   refine⟨eF8 S1.length wn g kd i r e6,S,rfl,?_⟩
   have hp:DE (DC W.Field "numbers" (AE 0)) (AE 5) (AE 4) (eF8 S1.length wn g kd i r e6) S=.ok (.nx (eF8 S1.length wn g kd i r e6)) (S.set c (oDR D.int (CJ (((DG ev).take i).foldl nuS []) r (i:Int)))):=by
    unfold DE;rw[show AE 4 (eF8 S1.length wn g kd i r e6) S=.ok (.int (i:Int)) S from rfl];dsimp only[Res.lift];rw[LB (C:=W.Field) (f:="numbers") (m:=AE 0) (n:=S1.length) (by rfl) hS.at' fc];dsimp only;rw[show AE 5 (eF8 S1.length wn g kd i r e6) S=.ok (eT D.int r) S from rfl];dsimp only
    rw[sH (enc:=D.int) _ r (i:Int) S c Sc (by
     have:=g9 ((DG ev).take i) [];rw[EE]at this;show(((DG ev).take i).foldl nuS []).length < _;have h0:([]:List (List Int×Int)).length=0:=rfl
     omega)]
   have hS2:Fc W S1 fs (S.set c (oDR D.int (CJ (((DG ev).take i).foldl nuS []) r (i:Int)))):=hS.set (by omega);have Sh2:(S.set c (oDR D.int (CJ (((DG ev).take i).foldl nuS []) r (i:Int))))[h]?=some (oL D.int (((DG ev).take i).foldl hvS (hv0 n))):=FV Sh xX;have Sc2:(S.set c (oDR D.int (CJ (((DG ev).take i).foldl nuS []) r (i:Int))))[c]?=some (oDR D.int (CJ (((DG ev).take i).foldl nuS []) r (i:Int))):=Aq (BW Sc)
   have So2:∀j,j≠c->j≠h->(S.set c (oDR D.int (CJ (((DG ev).take i).foldl nuS []) r (i:Int))))[j]?=T[j]?:=λj h1 h2=>by rw[Ab (Br h1)];exact So j h1 h2
   generalize S.set c (oDR D.int (CJ (((DG ev).take i).foldl nuS []) r (i:Int)))=S2 at hp hS2 Sh2 Sc2 So2;generalize hH:((DG ev).take i).foldl hvS (hv0 n)=H at Sh2
   have hHl:H.length=n:=by rw[<-hH,iZ,ϧ]
   obtain⟨f,S3,q1,q2⟩:=Nv (v:=FT (eT D.int r)) (g:=tgN 6) (b:=nlA W) (xs:=r.map D.int) (e:=eF8 S1.length wn g kd i r e6) (S:=S2)
    (λj e S=>(∃z,e=eF8 S1.length wn g kd i r z)/\Fc W S1 fs S/\S[h]?=some (oL D.int ((r.take j).foldl (hvP (i:Int)) H))/\∀j,j≠h->S[j]?=S2[j]?)
    (λf S=>∃z,f=.nx (eF8 S1.length wn g kd i r z)/\Fc W S1 fs S/\S[h]?=some (oL D.int (r.foldl (hvP (i:Int)) H))/\∀j,j≠h->S[j]?=S2[j]?)
    ⟨⟨_,rfl⟩,hS2,Sh2,λ_ _=>rfl⟩ (λ_ _ _ _=>rfl)
    (λj d e S hd hJ=>by
     obtain⟨⟨z,rfl⟩,hS3,Sh3,So3⟩:=hJ;rw[AZ]at hd;obtain⟨p,hp,rfl⟩:=FA.mp hd;have hpr:=hr r hrm p (BB hp);refine⟨eF8 S1.length wn g kd i r (some (.int p)),S,rfl,?_⟩
     have hlp:p.toNat < ((r.take j).foldl (hvP (i:Int)) H).length:=by rw[XD,hHl];omega
     have hsh:m2 Qe (mC (.int 1)) (AE 4) (eF8 S1.length wn g kd i r (some (.int p))) S=.ok (.int (1 * 2 ^ (i:Int).toNat)) S:=by
      refine Dc (x:=.int 1) (y:=.int (i:Int)) rfl rfl ?_;unfold Qe L2.intOp;dsimp only;rw[qX (show jY 1 (i:Int)from⟨by omega,by omega,by decide⟩)]
     have ha:=nJ (g:=λa b=>Ce a b) (mo:=DC W.Field "having" (AE 0)) (mi:=AE 6) (p:=p) (z:=((r.take j).foldl (hvP (i:Int)) H).getD p.toNat 0) (LB (C:=W.Field) (f:="having") (m:=AE 0) (n:=S1.length) (e:=eF8 S1.length wn g kd i r (some (.int p))) (by rfl) hS3.at' fh) (by rfl) hsh Sh3 hpr.1 (by
      rw[AZ,EN,Af hlp]
      rfl)
     refine⟨_,_,ha,⟨_,rfl⟩,hS3.set (by omega),?_,λk hk=>by rw[Ab (Br hk)];exact So3 k hk⟩;rw[Aq (BW Sh3),Hx,hp];show some (Ob.lst _)=some (Ob.lst _);rw[show(some p).toList=[p]from rfl,Hy,List.foldl_cons,VY];unfold hvP
     rw[List.map_set])
    (λe S hJ=>by
     obtain⟨⟨z,rfl⟩,hS3,Sh3,So3⟩:=hJ;rw[AF,Iq]at Sh3
     exact⟨z,rfl,hS3,Sh3,So3⟩)
   obtain⟨z,rfl,hS4,Sh4,So4⟩:=q2;refine⟨_,S3,(B1 hp).trans (IV (LA (v:=FT (eT D.int r)) (S1:=S2) (by rfl)) q1),⟨_,_,_,rfl⟩,hS4,?_,?_,λj h1 h2=>(So4 j h2).trans (So2 j h1 h2)⟩
   ·rw[So4 c (by omega),Sc2,tk,Hy]
    rfl
   ·rw[Sh4,tk,Hy,hH]
    rfl)
  (λe S hI=>by
   obtain⟨⟨e4,e5,e6,rfl⟩,hS,Sc,Sh,So⟩:=hI;rw[AF,Iq]at Sc Sh
   exact⟨e4,e5,e6,rfl,hS,Sc,Sh,So⟩)
 obtain⟨e4,e5,e6,rfl,h3⟩:=h2;exact⟨e4,e5,e6,T',(LA hi).trans h1,h3⟩
abbrev y1(a:Nat):List (Str×D):=KO "everything" (.ref a) []
abbrev y2(a:Nat)(kd:Str):List (Str×D):=KO "kind" (.str kd) (y1 a)
abbrev y3(a:Nat)(kd:Str)(b:Nat):List (Str×D):=KO "takes" (.ref b) (y2 a kd)
abbrev y4(a:Nat)(kd:Str)(b c:Nat):List (Str×D):=KO "numbers" (.ref c) (y3 a kd b)
abbrev y5(a:Nat)(kd:Str)(b c h:Nat):List (Str×D):=KO "having" (.ref h) (y4 a kd b c)
abbrev y6(a:Nat)(kd:Str)(b c h k:Nat):List (Str×D):=KO "place_bits" (.ref k) (y5 a kd b c h)
abbrev y7(a:Nat)(kd:Str)(b c h k m:Nat):List (Str×D):=KO "known" (.ref m) (y6 a kd b c h k)
abbrev eF9(S1:Sto)(wn:Nat)(g:Int)(kd:Str):Lo:=eF7 S1.length wn g kd none none none
theorem i3(W:Wd)(hp:Kd w g kd=some f)(hw:S1[wn]?=some (DU W w)) :
  ∃S',E7 W [.ref S1.length,.ref wn,.int g,.str kd] (S1++[.ins W.Field []])=.ok .non S'/\Keeps S1 S'/\∀L:Nat->Option Ob,(∀n o,S1.length<=n->S'[n]?=some o->L n=some o)->DQ W f L (.ref S1.length):=by
 unfold Kd at hp;obtain⟨ev,hev,hp⟩:=Aw hp;obtain⟨tk,htk,hp⟩:=Aw hp;obtain⟨pb,hpb,hp⟩:=Aw hp;split at hp
 case isFalse=>cases hp
 rename_i hg;obtain⟨hg1,hg2,hg3⟩:=hg;cases hp;have F0:Fc W S1 [] (S1++[.ins W.Field []]):=⟨Keeps.app _ _,FQ _ _⟩
 have l0:(S1++[Ob.ins W.Field []]).length=S1.length+1:=by rw[AY];rfl
 generalize S1++[Ob.ins W.Field []]=T0 at F0 l0;obtain⟨d,U1,c1,k1,a,rfl,ha,hA⟩:=X4 W w g ev hev T0 [.ref wn,.int g] ⟨⟨wn,rfl,F0.kp.at hw⟩,rfl,trivial⟩;have m1:Bp 2 (Ki W) (AN (AE 1) (AN (AE 2) BL)) (eF9 S1 wn g kd) T0=.ok (.ref a) U1:=(Mp (ds:=[.ref wn,.int g]) (S1:=T0) rfl rfl).trans c1;have s1:=F0.step (x:="everything") (e:=eF9 S1 wn g kd) rfl m1 k1 (by decide);have F1:=F0.put (x:="everything") (d:=.ref a) k1
 have qa:S1.length < a:=by omega
 have A1:(U1.set S1.length (.ins W.Field (y1 a)))[a]?=some (oL (eT D.int) ev):=FV hA qa;generalize U1.set S1.length (.ins W.Field (y1 a))=T1 at s1 F1 A1;have s2:=F1.step (x:="kind") (m:=AE 3) (e:=eF9 S1 wn g kd) (d:=.str kd) rfl rfl (Keeps.refl T1) (Au (AO 1) (by decide));have F2:=F1.put (x:="kind") (d:=.str kd) (Keeps.refl T1);have A2:(T1.set S1.length (.ins W.Field (y2 a kd)))[a]?=some (oL (eT D.int) ev):=FV A1 qa;generalize T1.set S1.length (.ins W.Field (y2 a kd))=T2 at s2 F2 A2;obtain⟨d,U3,c3,k3,b,rfl,hb,hB⟩:=ZT W w tk htk T2 [.ref wn] ⟨⟨wn,rfl,F2.kp.at hw⟩,trivial⟩;have ab:a < b:=AT (BW A2) hb;have m3:Bp 1 (Md W) (AN (AE 1) BL) (eF9 S1 wn g kd) T2=.ok (.ref b) U3:=(Mp (ds:=[.ref wn]) (S1:=T2) rfl rfl).trans c3;have s3:=F2.step (x:="takes") (e:=eF9 S1 wn g kd) rfl m3 k3 (Au (AO 2) (by decide));have F3:=F2.put (x:="takes") (d:=.ref b) k3;have A3:(U3.set S1.length (.ins W.Field (y3 a kd b)))[a]?=some (oL (eT D.int) ev):=FV (k3.at A2) qa;have B3:(U3.set S1.length (.ins W.Field (y3 a kd b)))[b]?=some (oL (eT D.int) tk):=FV hB (by omega);generalize U3.set S1.length (.ins W.Field (y3 a kd b))=T3 at s3 F3 A3 B3;have bc:b < T3.length:=BW B3;have m4:W7 (eF9 S1 wn g kd) T3=.ok (.ref T3.length) (T3++[oDR D.int ([]:List (List Int×Int))]):=rfl;have k4:=Keeps.app T3 [oDR D.int ([]:List (List Int×Int))];have s4:=F3.step (x:="numbers") (e:=eF9 S1 wn g kd) rfl m4 k4 (Au (AO 3) (by decide));have F4:=F3.put (x:="numbers") (d:=.ref T3.length) k4;have C3:(T3++[oDR D.int ([]:List (List Int×Int))])[T3.length]?=some (oDR D.int ([]:List (List Int×Int))):=FQ _ _;generalize hc:T3.length=c at bc s4 F4 C3;generalize T3++[oDR D.int ([]:List (List Int×Int))]=U4 at k4 s4 F4 C3;have A4:=FV (o':=.ins W.Field (y4 a kd b c)) (k4.at A3) qa;have B4:=FV (o':=.ins W.Field (y4 a kd b c)) (k4.at B3) (show S1.length < b by omega);have C4:=FV (o':=.ins W.Field (y4 a kd b c)) C3 (show S1.length < c by omega);generalize U4.set S1.length (.ins W.Field (y4 a kd b c))=T4 at s4 F4 A4 B4 C4
 have v5:((((some w).bind λx2=>some (x2.1:Int)).bind Ql).bind λl=>Ep l (λ_=>some true) (λ_=>some (0:Int)))=some (hv0 w.1):=by
  show((Ql (w.1:Int)).bind λl=>Ep l (λ_=>some true) (λ_=>some (0:Int)))=_;rw[MF (by omega) (by omega)];show Ep (DF 0 (w.1:Int).toNat) _ _=_;rw[An,EX (f:=λ_=>(0:Int)) (by rw[Bo];omega) λ_ _=>rfl];rfl
 obtain⟨d,U5,m5,k5,h,rfl,hh,hH⟩:=(Du (Di (VI.k (GP (EV (Bs (A:=[.u,.z (DU W w),.u,.u,.u,.u,.u]) (i:=1) rfl)))) (λ_=>G1) (λ_=>Ck (enc:=D.int) (v:=0) (d:=.int 0) rfl))) _ v5 T4 (eF9 S1 wn g kd) _ T4 (Vs.all λi x hx=>by
  match i,hx with
  | 0,hx=>cases hx;exact⟨_,rfl,trivial⟩
  | 1,hx=>cases hx;exact⟨_,rfl,wn,rfl,aS (F4.kp.at hw)⟩
  | 2,hx=>cases hx;exact⟨_,rfl,trivial⟩
  | 3,hx=>cases hx;exact⟨_,rfl,trivial⟩
  | 4,hx=>cases hx;exact⟨_,rfl,trivial⟩
  | 5,hx=>cases hx;exact⟨_,rfl,trivial⟩
  | 6,hx=>cases hx;exact⟨_,rfl,trivial⟩
  | n+7,hx=>cases hx)
 have s5:=F4.step (x:="having") (e:=eF9 S1 wn g kd) rfl m5 k5 (Au (AO 4) (by decide));have F5:=F4.put (x:="having") (d:=.ref h) k5;have ch:c < h:=AT (BW C4) hh;have A5:=FV (o':=.ins W.Field (y5 a kd b c h)) (k5.at A4) qa;have B5:=FV (o':=.ins W.Field (y5 a kd b c h)) (k5.at B4) (show S1.length < b by omega);have C5:=FV (o':=.ins W.Field (y5 a kd b c h)) (k5.at C4) (show S1.length < c by omega);have H5:=FV (o':=.ins W.Field (y5 a kd b c h)) hH (show S1.length < h by omega);generalize U5.set S1.length (.ins W.Field (y5 a kd b c h))=T5 at s5 F5 A5 B5 C5 H5;obtain⟨e4,e5,e6,T6,s6,F6,C6,H6,O6⟩:=YX W (wn:=wn) (g:=g) (kd:=kd) (n:=w.1) F5 rfl rfl rfl qa (by omega) ch A5 C5 H5 hg1 hg3;have A6:=(O6 a (by omega) (by omega)).trans A5;have B6:=(O6 b (by omega) (by omega)).trans B5;have v7:((some ev).bind λl=>Ep l (λ_=>some true) (λx=>((some x).bind λx=>(some ()).bind λy=>some (x,y)).bind λz=>G9 z.1))=some pb:=hpb
 obtain⟨d,U7,m7,k7,k,rfl,hk,hK⟩:=(Du (Di (VI.k (pH (A:=[.q (λL d=>∃q fs n,d=.ref q/\L q=some (.ins W.Field fs)/\fs.lookup ("everything" : Str)=some (.ref n)/\L n=some (oL (eT D.int) ev)),.u,.u,.u,.u,.u,.u]) (i:=0) (l:=ev) (enc:=eT D.int) (C:=W.Field) (x:="everything") (λL d h=>h) rfl)) (λ_=>G1) (λx=>Ba (CM (AM (i:=0) rfl) Bb) (λz=>cZ W z.1) (λ_=>rfl) Db))) _ v7 T6 (eF7 S1.length wn g kd e4 e5 e6) _ T6 (Vs.all λi x hx=>by
  match i,hx with
  | 0,hx=>cases hx;exact⟨_,rfl,.ref S1.length,rfl,λL hL=>⟨S1.length,_,a,rfl,hL _ _ (aS F6.at'),rfl,hL _ _ (aS A6)⟩⟩
  | 1,hx=>cases hx;exact⟨_,rfl,trivial⟩
  | 2,hx=>cases hx;exact⟨_,rfl,trivial⟩
  | 3,hx=>cases hx;exact⟨_,rfl,trivial⟩
  | 4,hx=>cases hx;exact⟨_,rfl,trivial⟩
  | 5,hx=>cases hx;exact⟨_,rfl,trivial⟩
  | 6,hx=>cases hx;exact⟨_,rfl,trivial⟩
  | n+7,hx=>cases hx)
 have s7:=F6.step (x:="place_bits") (e:=eF7 S1.length wn g kd e4 e5 e6) rfl m7 k7 (Au (AO 5) (by decide));have F7:=F6.put (x:="place_bits") (d:=.ref k) k7;have wI:h < k:=AT (BW H6) hk
 have cell:∀{j:Nat} {o:Ob},U7[j]?=some o->S1.length < j->(U7.set S1.length (.ins W.Field (y6 a kd b c h k)))[j]?=some o:=λh1 h2=>FV h1 h2
 have A7:=cell (k7.at A6) qa;have B7:=cell (k7.at B6) (by omega);have C7:=cell (k7.at C6) (by omega);have H7:=cell (k7.at H6) (by omega);have K7:=cell hK (by omega);generalize U7.set S1.length (.ins W.Field (y6 a kd b c h k))=T7 at s7 F7 A7 B7 C7 H7 K7
 clear cell
 have m8:JF (eF7 S1.length wn g kd e4 e5 e6) T7=.ok (.ref T7.length) (T7++[.dK []]):=rfl;have k8:=Keeps.app T7 [Ob.dK []];have s8:=F7.step (x:="known") (e:=eF7 S1.length wn g kd e4 e5 e6) rfl m8 k8 (Au (AO 6) (by decide));have F8:=F7.put (x:="known") (d:=.ref T7.length) k8;have M7:(T7++[Ob.dK []])[T7.length]?=some (.dK []):=FQ _ _;have km:k < T7.length:=BW K7;generalize T7.length=m at s8 F8 M7 km;generalize T7++[Ob.dK []]=U8 at k8 s8 F8 M7
 have cell:∀{j:Nat} {o:Ob},U8[j]?=some o->S1.length < j->(U8.set S1.length (.ins W.Field (y7 a kd b c h k m)))[j]?=some o:=λh1 h2=>FV h1 h2
 have A8:=cell (k8.at A7) qa;have B8:=cell (k8.at B7) (by omega);have C8:=cell (k8.at C7) (by omega);have H8:=cell (k8.at H7) (by omega);have K8:=cell (k8.at K7) (by omega);have M8:=cell M7 (by omega);generalize U8.set S1.length (.ins W.Field (y7 a kd b c h k m))=T8 at s8 F8 A8 B8 C8 H8 K8 M8
 clear cell
 have Q8:T8[S1.length]?=some (.ins W.Field (fdF a b c h k m kd)):=F8.at'
 have run:LD W [.ref S1.length,.ref wn,.int g,.str kd] T0=.ok .non T8:=by
  refine Zo (e:=eF7 S1.length wn g kd e4 e5 e6) ?_;unfold QD;show(BK _ _) (eF9 S1 wn g kd) T0=_;rw[B1 s1,B1 s2,B1 s3,B1 s4,B1 s5,B1 s6,B1 s7];exact s8
 have C:Yz W ⟨ev,kd,tk,nuF ev,hvF w.1 ev,pb⟩ (λk=>T8[k]?) S1.length m:=⟨a,b,c,h,k,Q8,A8,B8,C8,H8,K8⟩
 have lkOk:∀n z:Int,0<=n->n < 1000->MN ⟨ev,kd,tk,nuF ev,hvF w.1 ev,pb⟩ n=some z->LM W [.ref S1.length,.ref wn,.int g,.str kd] T8 (.inl n)=z:=λn z _ _ hz=>by
  have hQ:M2 T8 [.q (Gg W ⟨ev,kd,tk,nuF ev,hvF w.1 ev,pb⟩),.v (D.int n)] [.ref S1.length,.int n]:=⟨λL hL=>⟨_,m,rfl,C.mono hL⟩,rfl,trivial⟩;unfold LM;dsimp only;rw[show sC "kind" S1.length T8=some kd by unfold sC;rw[Q8];rfl];unfold MN at hz;dsimp only at hz
  by_cases ck:kd = "one"
  ·rw[wX ck,qX rfl]at hz
   obtain⟨d,S',h1,_,rfl⟩:=IA W _ n z hz T8 _ hQ;rw[qX (congrArg some ck),h1];rfl
  ·rw[wY ck,qY AK]at hz
   obtain⟨d,S',h1,_,rfl⟩:=IB W _ n z hz T8 _ hQ;rw[qY (λe=>ck (Bw e)),h1];rfl
 refine⟨T8.set m (.mem (LM W [.ref S1.length,.ref wn,.int g,.str kd] T8)),?_,F8.kp.set (by omega) _,λL hL=>⟨S1.length,m,_,rfl,?_,hL m _ (by omega) (Aq (BW M8)),lkOk⟩⟩
 ·unfold E7 mK
  rw[run];dsimp only
  rw[show Vq "known" [.ref S1.length,.ref wn,.int g,.str kd] T8=some m by
   unfold Vq;dsimp only;rw[Q8]
   rfl]
  dsimp only;rw[M8]
 ·have up:∀{j:Nat} {o:Ob},T8[j]?=some o->S1.length<=j->j < m->L j=some o:=λh1 h2 h3=>hL _ _ h2 (by rw[Ab (Er h3)];exact h1)
  exact⟨a,b,c,h,k,up Q8 (AO _) (by omega),up A8 (by omega) (by omega),up B8 (by omega) (by omega),up C8 (by omega) (by omega),up H8 (by omega) (by omega),up K8 (by omega) (by omega)⟩
theorem S8{W:Wd}{A:List Sl}{ml:ML}{p:Option ((Nat×List (Int×Int))×Int×Str×Unit)}(ha:VA A ml p (λz=>[.z (DU W z.1),.v (D.int z.2.1),.v (D.str z.2.2.1)])):VE A (Ol W.Field 4 (E7 W) ml) (rQ (DQ W)) (p.bind λz=>Kd z.1 z.2.1 z.2.2.1):=λf hv S0 e F S hs=>by
 obtain⟨z,h1,h2⟩:=Aw hv;obtain⟨ds,S1,h3,h4,h5⟩:=ha z h1 S0 e F S hs
 match ds,h5 with
 | [d1,d2,d3],⟨⟨wn,q1,hw⟩,q2,q3,_⟩=>
  cases q1;cases q2;cases q3;obtain⟨S',r1,r2,r3⟩:=i3 W h2 hw;exact⟨_,S',bT h3 rfl r1,h4.trans r2,λL hL=>r3 L λn o hn=>hL n o (At h4.1 hn)⟩
def HW(BR:Fp)(Al:Int)(DO:Int):Option (Fw Int Unit):=
 ((Fv BR (Al,()).1).bind λx6=>(atI BR.hv DO).bind λx7=>some (BG x6 x7)).bind λx8=>some (.rt x8)
def Ev(BR:Fp)(Al:Int)(DO:Int):Option Int:=FC (HW BR Al DO)
theorem NT(W:Wd)(BR:Fp)(Al:Int)(DO:Int):VF (Hn W) [.q (DQ W BR),.v (D.int Al),.v (D.int DO)] (rV D.int) (Ev BR Al DO):=by
 refine Dr (n:=3) (b:=KA W) (p:=HW BR Al DO) (B:=λ_=>[]) ?_;show VS [.q (DQ W BR),.v (D.int Al),.v (D.int DO)] _ _ _ _;unfold KA HW;exact(Cr (OJ (KU (Pf:=DQ W) (Pg:=DQ W) (Vw λ_ _ _ _ _ _ _=>rfl) (λ_ _ h=>h) rfl (CM (AM rfl) Bb) (λz3=>TM W BR z3.1) (λ_=>rfl) Db) (HK (EZ dh rfl) (AM rfl))))
def Ib(BJ:Fp)(KG:Int):Option (Fw (List (Int×Int)) Unit):=
 BH (some (.nx [])) λv1=>BH ((G8 KG).bind λϡ=>Eg ϡ v1 λ(s6:(List (Int×Int))) x7=>BH (((FF BJ (x7,()).1).bind λl22=>Ep l22 (λxj=>(((some (x7,(xj,()))).bind λxE=>Ev BJ xE.1 xE.2.1).bind λxo=>some (BG xo KG)).bind λxU=>some (decide (xU=(0:Int)))) (λxj=>some xj)).bind λϨ=>some (.nx Ϩ)) λv8=>Ew (λs32=>s32) (if (!v8.isEmpty)=true then Ew (λϥ=>ϥ) ((atI v8 (0:Int)).bind λwH=>(KN s6 x7 wH).bind λl30=>some (.nx l30))else some (.nx s6))) λs35=>some (.rt s35)
def Ej(BJ:Fp)(KG:Int):Option (List (Int×Int)):=FC (Ib BJ KG)
theorem Oi(W:Wd)(BJ:Fp)(KG:Int):VF (Ig W) [.q (DQ W BJ),.v (D.int KG)] (rN (oDK D.int)) (Ej BJ KG):=by
 refine Dr (n:=5) (b:=LI W) (p:=Ib BJ KG) (B:=λ_=>[]) ?_;show VS [.q (DQ W BJ),.v (D.int KG),.u,.u,.u] _ _ _ _;unfold LI Ib;exact(BA (IX S7) (λv1=>(BA (Dt (s0:=v1) (B:=(λ(s36:(List (Int×Int)))=>[.q (DQ W BJ),.v (D.int KG),.w 2 ((oDK D.int) s36),.u,.u])) (Ks (Ba (CM (AM rfl) Bb) (λz5=>LS W z5.1) (λ_=>rfl) IC)) DV (.refl _) (λs6 x7=>(BA (JO (Du (Di (VI.k (Ks (KU (Pf:=DQ W) (Pg:=Gg W) (Vw λ_ _ _ _ _ _ _=>rfl) DQ.q rfl (CM (AM rfl) Bb) (λz11=>Oj W BJ z11.1) (λ_=>rfl) IC))) (λxj=>(JP (Oh E8 Nk (OJ (KU (Pf:=DQ W) (Pg:=DQ W) (Vw λ_ _ _ _ _ _ _=>rfl) (λ_ _ h=>h) rfl (CM (AM rfl) (CM (AM rfl) Bb)) (λxE=>NT W BJ xE.1 xE.2.1) (λ_=>rfl) Db) (AM rfl)) (Ck rfl)))) (λxj=>(AM rfl))))) (λv8=>(Ct (Gb (B:=(λ(s33:(List (Int×Int)))=>[.q (DQ W BJ),.v (D.int KG),.w 2 ((oDK D.int) s33),.v (D.int x7),.y ((oL D.int) v8)])) (ay (EY rfl)) (Ct (Pe rfl (AM rfl) (HK (EY rfl) (Ck rfl)) rfl) (λϥ=>(.refl _))) (Ga (.refl _))) (λs32=>(.same (.same (.same (.drop (.drop .nil))))))))))) (λs35=>(WQ rfl)))))
def Pt(BJ:Fp):Option (Fw (List (Int×(Int×Int))) Unit):=
 BH (some (.nx [])) λv1=>BH (((Ox (1:Int) (BJ.ev.length:Int)).bind λx8=>some (x8 - (1:Int))).bind λwu=>some (.nx wu)) λv3=>BH (some (.nx (1:Int))) λv11=>BH ((Ej BJ v3).bind λyN=>some (.nx yN)) λv13=>BH (whF (λ(xx:(List (Int×(Int×Int)))×Int×Int×(List (Int×Int)))=>some (!xx.2.2.2.isEmpty)) (λ(xx:(List (Int×(Int×Int)))×Int×Int×(List (Int×Int)))=>BH (Eg (xx.2.2.2.map (·.1)) (xx.1,xx.2.1) λ(xn:(List (Int×(Int×Int)))×Int) wL=>BH (((Aj xx.2.2.2 wL).bind λwH=>some (xx.2.2.1,wH)).bind λym=>(KN xn.1 wL ym).bind λyP=>some (.nx yP)) λzf=>Ew (λzg=>(zf,zg)) ((Ox (1:Int) wL).bind λyn=>some (.nx (CC xn.2 yn)))) λy8=>BH (some (.nx (xx.2.2.1+(1:Int)))) λJ'=>Ew (λyy=>(y8.1,y8.2,J',yy)) ((Ej BJ y8.2).bind λyQ=>some (.nx yQ))) wN (v1,v3,v11,v13)) λϤ=>some (.rt Ϥ.1)
def LY(BJ:Fp):Option (List (Int×(Int×Int))):=FC (Pt BJ)
theorem TJ(W:Wd)(BJ:Fp):VF (N0 W) [.q (DQ W BJ)] (rN (oDK (eP D.int D.int))) (LY BJ):=by
 refine Dr (n:=6) (b:=Ub W) (p:=Pt BJ) (B:=λ_=>[]) ?_;show VS [.q (DQ W BJ),.u,.u,.u,.u,.u] _ _ _ _;unfold Ub Pt;exact(BA (IX S7) (λv1=>(BA (Dh (Sz (Ou (Ck rfl) (Pi (EZ Gy rfl))) (Ck rfl))) (λv3=>(BA (Dh (Ck rfl)) (λv11=>(BA (IX (Ba (We (Pf:=DQ W) (Pg:=DQ W) (λ_ _ h=>h) rfl (CM (AM rfl) Bb)) (λxy=>Oi W xy.1 xy.2.1) (λ_=>rfl) IC)) (λv13=>(BA (Xz (s0:=(v1,v3,v11,v13)) (B:=(λ(s49:(List (Int×(Int×Int)))×Int×Int×(List (Int×Int)))=>[.q (DQ W BJ),.w 1 ((oDK (eP D.int D.int)) s49.1),.v (D.int s49.2.1),.v (D.int s49.2.2.1),.w 4 ((oDK D.int) s49.2.2.2),.u])) (.refl _) (λxx=>(fU (Ph rfl))) (λxx=>(BA (tu 4 rfl rfl (Dt (s0:=(xx.1,xx.2.1)) (B:=(λ(s39:(List (Int×(Int×Int)))×Int)=>[.q (DQ W BJ),.w 1 ((oDK (eP D.int D.int)) s39.1),.v (D.int s39.2),.v (D.int xx.2.2.1),.y ((oFK D.int) xx.2.2.2),.u])) (pG rfl) DV (.refl _) (λxn wL=>(BA (Pe rfl (AM rfl) (SG (AM rfl) (cX (EY rfl) (AM rfl))) rfl) (λzf=>(Ct (QV rfl (Ou (Ck rfl) (AM rfl))) (λzg=>(.same (.same (.same (.same (.same (.drop .nil))))))))))))) (λy8=>(BA (QV rfl (Ck rfl)) (λJ'=>(Ct (IX (Ba (We (Pf:=DQ W) (Pg:=DQ W) (λ_ _ h=>h) rfl (CM (AM rfl) Bb)) (λz47=>Oi W z47.1 z47.2.1) (λ_=>rfl) IC)) (λyy=>(.refl _))))))))) (λϤ=>(WQ rfl)))))))))))
def HR(BJ:Fp)(OB:(List (Int×(Int×Int)))):Option (Fw Int Unit):=
 ((((some (BJ.ev.length:Int)).bind Ql).bind λl7=>Ep l7 (λx2=>some (!(Aj OB x2).isSome)) (λx2=>Ox (1:Int) x2)).bind λx8=>some (Wl x8)).bind λx9=>some (.rt x9)
def Fu(BJ:Fp)(OB:(List (Int×(Int×Int)))):Option Int:=FC (HR BJ OB)
theorem NR(W:Wd)(BJ:Fp)(OB:(List (Int×(Int×Int)))):VF (Hj W) [.q (DQ W BJ),.z ((oDK (eP D.int D.int)) OB)] (rV D.int) (Fu BJ OB):=by
 refine Dr (n:=2) (b:=J5 W) (p:=HR BJ OB) (B:=λ_=>[]) ?_;show VS [.q (DQ W BJ),.z ((oDK (eP D.int D.int)) OB)] _ _ _ _;unfold J5 HR;exact(Cr (pJ (KR (Du (Di (VI.k (GP (Pi (EZ Gy rfl)))) (λx2=>(JP (S6 (AM rfl) (Bs rfl)))) (λx2=>(Ou (Ck rfl) (AM rfl))))))))
def OO(Ah:(Nat×List (Int×Int)))(Am:Int)(BI:Str):Option (Fw (List (List Int)) Unit):=
 BH (((some (Ah,(Am,(BI,())))).bind λz8=>Kd z8.1 z8.2.1 z8.2.2.1).bind λx9=>some (.nx x9)) λv1=>(((((((LY v1).bind λzN=>some (zN,())).bind λxD=>some (v1,xD)).bind λzh=>Fu zh.1 zh.2.1).bind λzL=>some (zL,())).bind λyk=>G8 yk.1).bind λl24=>Ep l24 (λxq=>some true) (λxq=>atI v1.ev xq)).bind λϩ=>some (.rt ϩ)
def GU(Ah:(Nat×List (Int×Int)))(Am:Int)(BI:Str):Option (List (List Int)):=FC (OO Ah Am BI)
theorem OK(W:Wd)(Ah:(Nat×List (Int×Int)))(Am:Int)(BI:Str):VF (Je W) [.z ((DU W) Ah),.v (D.int Am),.v (D.str BI)] (rN (oL (eT D.int))) (GU Ah Am BI):=by
 refine Dr (n:=4) (b:=RF W) (p:=OO Ah Am BI) (B:=λ_=>[]) ?_;show VS [.z ((DU W) Ah),.v (D.int Am),.v (D.str BI),.u] _ _ _ _;unfold RF OO;exact(BA (WP (S8 (G5 (Bs rfl) (CM (AM rfl) (CM (AM rfl) Bb))))) (λv1=>(Pd (Du (Di (VI.k (Ks (Ba (CM (Ba (We (Pf:=DQ W) (Pg:=DQ W) (λ_ _ h=>h) rfl (G5 (KR (Ba (We (Pf:=DQ W) (Pg:=DQ W) (λ_ _ h=>h) rfl Bb) (λϪ=>TJ W Ϫ.1) (λ_=>rfl) IC)) Bb)) (λzh=>NR W zh.1 zh.2.1) (λ_=>rfl) Db) Bb) (λyk=>LS W yk.1) (λ_=>rfl) IC))) (λxq=>G1) (λxq=>(HK (EZ Gy rfl) (AM rfl))))))))
def SL(Ah:(Nat×List (Int×Int)))(Am:Int)(BI:Str):Option (Fw (List ((List Int)×Int×Int)) Unit):=
 BH (((some (Ah,(Am,(BI,())))).bind λz8=>Kd z8.1 z8.2.1 z8.2.2.1).bind λx9=>some (.nx x9)) λv1=>BH ((LY v1).bind λzN=>some (.nx zN)) λv10=>((QA v10 (CF (v10.map (·.1)))).bind λl23=>Ep l23 (λxD=>some true) (λxD=>(atI v1.ev xD).bind λxq=>(Aj v10 xD).bind λyx=>some (xq,yx))).bind λwL=>some (.rt wL)
def SM(Ah:(Nat×List (Int×Int)))(Am:Int)(BI:Str):Option (List ((List Int)×Int×Int)):=FC (SL Ah Am BI)
theorem ka(W:Wd)(Ah:(Nat×List (Int×Int)))(Am:Int)(BI:Str):VF (XM W) [.z ((DU W) Ah),.v (D.int Am),.v (D.str BI)] (rN (oL (eP3 (eT D.int) D.int D.int))) (SM Ah Am BI):=by
 refine Dr (n:=5) (b:=XX W) (p:=SL Ah Am BI) (B:=λ_=>[]) ?_;show VS [.z ((DU W) Ah),.v (D.int Am),.v (D.str BI),.u,.u] _ _ _ _;unfold XX SL;exact(BA (WP (S8 (G5 (Bs rfl) (CM (AM rfl) (CM (AM rfl) Bb))))) (λv1=>(BA (JO (Ba (We (Pf:=DQ W) (Pg:=DQ W) (λ_ _ h=>h) rfl Bb) (λxK=>TJ W xK.1) (λ_=>rfl) IC)) (λv10=>(Pd (Du (Di (VI.k (Ks (cW (EY rfl)))) (λxD=>G1) (λxD=>(fQ (HK (EZ Gy rfl) (AM rfl)) (fP (EY rfl) (AM rfl)))))))))))
def HS(BJ:Fp)(Al:Int)(DO:Int)(GH:Int):Option (Fw (Option (List Int)) Unit):=
 (((((((some (Al,(DO,()))).bind λz5=>Ev BJ z5.1 z5.2.1).bind λx6=>some (BG x6 GH)).bind λwu=>some (wu,())).bind λxj=>some (DO,xj)).bind λxU=>some (Al,xU)).bind λxV=>Ec BJ xV.1 xV.2.1 xV.2.2.1).bind λxc=>some (.rt xc)
def Eu(BJ:Fp)(Al:Int)(DO:Int)(GH:Int):Option (Option (List Int)):=FC (HS BJ Al DO GH)
theorem TH(W:Wd)(BJ:Fp)(Al:Int)(DO:Int)(GH:Int):VF (J2 W) [.q (DQ W BJ),.v (D.int Al),.v (D.int DO),.v (D.int GH)] (rV (eO (eT D.int))) (Eu BJ Al DO GH):=by
 refine Dr (n:=4) (b:=J6 W) (p:=HS BJ Al DO GH) (B:=λ_=>[]) ?_;show VS [.q (DQ W BJ),.v (D.int Al),.v (D.int DO),.v (D.int GH)] _ _ _ _;unfold J6 HS;exact(Cr (KU (Pf:=DQ W) (Pg:=Gg W) (Vw λ_ _ _ _ _ _ _=>rfl) DQ.q rfl (CM (AM rfl) (CM (AM rfl) (CM (OJ (KU (Pf:=DQ W) (Pg:=DQ W) (Vw λ_ _ _ _ _ _ _=>rfl) (λ_ _ h=>h) rfl (CM (AM rfl) (CM (AM rfl) Bb)) (λz5=>NT W BJ z5.1 z5.2.1) (λ_=>rfl) Db) (AM rfl)) Bb))) (λxV=>NS W BJ xV.1 xV.2.1 xV.2.2.1) (λ_=>rfl) Db))
def JR(BJ:Fp)(Al:Int)(GH:Int):Option (Fw (List (Int×(Option (List Int)))) Unit):=
 ((FF BJ (Al,()).1).bind λl16=>Ep l16 (λx4=>some true) (λx4=>(Eu BJ Al x4 GH).bind λxc=>some (x4,xc))).bind λxM=>some (.rt xM)
def E4(BJ:Fp)(Al:Int)(GH:Int):Option (List (Int×(Option (List Int)))):=FC (JR BJ Al GH)
theorem Wf(W:Wd)(BJ:Fp)(Al:Int)(GH:Int):VF (Mf W) [.q (DQ W BJ),.v (D.int Al),.v (D.int GH)] (rV (eT (eP D.int (eO (eT D.int))))) (E4 BJ Al GH):=by
 refine Dr (n:=3) (b:=Mq W) (p:=JR BJ Al GH) (B:=λ_=>[]) ?_;show VS [.q (DQ W BJ),.v (D.int Al),.v (D.int GH)] _ _ _ _;unfold Mq JR;exact(Cr (IH (KR (Du (Di (VI.k (Ks (KU (Pf:=DQ W) (Pg:=Gg W) (Vw λ_ _ _ _ _ _ _=>rfl) DQ.q rfl (CM (AM rfl) Bb) (λz3=>Oj W BJ z3.1) (λ_=>rfl) IC))) (λx4=>G1) (λx4=>(SG (AM rfl) (Ba (We (Pf:=DQ W) (Pg:=DQ W) (λ_ _ h=>h) rfl (CM (AM rfl) (CM (AM rfl) (CM (AM rfl) Bb)))) (λxK=>TH W xK.1 xK.2.1 xK.2.2.1 xK.2.2.2.1) (λ_=>rfl) Db))))))))
def Ia(Ah:(Nat×List (Int×Int)))(Am:Int)(BI:Str):Option (Fw (Option (List ((List Int)×(List (Int×(Option (List Int))))))) Unit):=
 BH (((some (Ah,(Am,(BI,())))).bind λz8=>Kd z8.1 z8.2.1 z8.2.2.1).bind λx9=>some (.nx x9)) λv1=>BH (((((LY v1).bind λxc=>some (xc,())).bind λxM=>some (v1,xM)).bind λxy=>Fu xy.1 xy.2.1).bind λyN=>some (.nx yN)) λv10=>BH (if (decide (v10=(0:Int)))=true then some (.rt none)else some (.nx ())) λ_=>((G8 v10).bind λl40=>Ep l40 (λwH=>some true) (λwH=>(atI v1.ev wH).bind λϠ=>(E4 v1 wH v10).bind λx39=>some (Ϡ,x39))).bind λx41=>some (.rt (some x41))
def Gv(Ah:(Nat×List (Int×Int)))(Am:Int)(BI:Str):Option (Option (List ((List Int)×(List (Int×(Option (List Int))))))):=FC (Ia Ah Am BI)
theorem Uv(W:Wd)(Ah:(Nat×List (Int×Int)))(Am:Int)(BI:Str):VF (LC W) [.z ((DU W) Ah),.v (D.int Am),.v (D.str BI)] (rOL (oL (eP (eT D.int) (eT (eP D.int (eO (eT D.int))))))) (Gv Ah Am BI):=by
 refine Dr (n:=5) (b:=LH W) (p:=Ia Ah Am BI) (B:=λ_=>[]) ?_;show VS [.z ((DU W) Ah),.v (D.int Am),.v (D.str BI),.u,.u] _ _ _ _;unfold LH Ia;exact(BA (WP (S8 (G5 (Bs rfl) (CM (AM rfl) (CM (AM rfl) Bb))))) (λv1=>(BA (Dh (Ba (We (Pf:=DQ W) (Pg:=DQ W) (λ_ _ h=>h) rfl (G5 (KR (Ba (We (Pf:=DQ W) (Pg:=DQ W) (λ_ _ h=>h) rfl Bb) (λxK=>TJ W xK.1) (λ_=>rfl) IC)) Bb)) (λxy=>NR W xy.1 xy.2.1) (λ_=>rfl) Db)) (λv10=>(BA (Gb (B:=(λ(_:Unit)=>[.z ((DU W) Ah),.v (D.int Am),.v (D.str BI),.q (DQ W v1),.v (D.int v10)])) (JP (Oh E8 Nk (AM rfl) (Ck rfl))) fC (Ga (.refl _))) (λ_=>(kA (Du (Di (VI.k (Ks (Ba (CM (AM rfl) Bb) (λxh=>LS W xh.1) (λ_=>rfl) IC))) (λwH=>G1) (λwH=>(SG (HK (EZ Gy rfl) (AM rfl)) (Ba (We (Pf:=DQ W) (Pg:=DQ W) (λ_ _ h=>h) rfl (CM (AM rfl) (CM (AM rfl) Bb))) (λz37=>Wf W z37.1 z37.2.1 z37.2.2.1) (λ_=>rfl) Db))))))))))))
def HU(Ah:(Nat×List (Int×Int)))(Am:Int)(BI:Str):Option (Fw (Option (List ((List Int)×Int×Int))) Unit):=
 BH ((SM Ah Am BI).bind λx9=>some (.nx x9)) λv1=>((G6 Ah Am).bind λx11=>some (decide ((v1.length:Int)=x11))).bind λzL=>some (.rt (if zL=true then some v1 else none))
def HY(Ah:(Nat×List (Int×Int)))(Am:Int)(BI:Str):Option (Option (List ((List Int)×Int×Int))):=FC (HU Ah Am BI)
theorem TK(W:Wd)(Ah:(Nat×List (Int×Int)))(Am:Int)(BI:Str):VF (J3 W) [.z ((DU W) Ah),.v (D.int Am),.v (D.str BI)] (rOL (oL (eP3 (eT D.int) D.int D.int))) (HY Ah Am BI):=by
 refine Dr (n:=4) (b:=J7 W) (p:=HU Ah Am BI) (B:=λ_=>[]) ?_;show VS [.z ((DU W) Ah),.v (D.int Am),.v (D.str BI),.u] _ _ _ _;unfold J7 HU;exact(BA (JO (Ba (G5 (Bs rfl) (CM (AM rfl) (CM (AM rfl) Bb))) (λz8=>ka W z8.1 z8.2.1 z8.2.2.1) (λ_=>rfl) IC)) (λv1=>(fD (JP (Oh E8 Nk (Pi (EY rfl)) (Ba (G5 (Bs rfl) (CM (AM rfl) Bb)) (λzh=>TF W zh.1 zh.2.1) (λ_=>rfl) Db))) rfl)))
def HQ(Ah:(Nat×List (Int×Int)))(BI:Str):Option (Fw Int Unit):=
 BH ((YL (1:Int) (Ah.1:Int)).bind λl18=>Eg l18 () λ(_:Unit) x5=>Ew (λ_=>()) (((GU Ah x5 BI).bind λxU=>some (!xU.isEmpty)).bind λxc=>if xc=true then some (.rt x5)else some (.nx ()))) λ_=>some (.rt (Ah.1:Int))
def Jv(Ah:(Nat×List (Int×Int)))(BI:Str):Option Int:=FC (HQ Ah BI)
theorem TD(W:Wd)(Ah:(Nat×List (Int×Int)))(BI:Str):VF (J1 W) [.z ((DU W) Ah),.v (D.str BI)] (rV D.int) (Jv Ah BI):=by
 refine Dr (n:=3) (b:=J4 W) (p:=HQ Ah BI) (B:=λ_=>[]) ?_;show VS [.z ((DU W) Ah),.v (D.str BI),.u] _ _ _ _;unfold J4 HQ;exact(BA (Dt (s0:=()) (B:=(λ(_:Unit)=>[.z ((DU W) Ah),.v (D.str BI),.u])) (LR (Ck rfl) (EV (Bs rfl))) DV (.refl _) (λ_ x5=>(Ct (Gb (B:=(λ(_:Unit)=>[.z ((DU W) Ah),.v (D.str BI),.v (D.int x5)])) (ay (KR (Ba (G5 (Bs rfl) (CM (AM rfl) (CM (AM rfl) Bb))) (λϪ=>OK W Ϫ.1 Ϫ.2.1 Ϫ.2.2.1) (λ_=>rfl) IC))) (Cr (AM rfl)) (Ga (.refl _))) (λ_=>(.same (.same (.drop .nil))))))) (λ_=>(Cr (EV (Bs rfl)))))
def Ea(Ah:(Nat×List (Int×Int))):Option (Fw Unit Unit):=
 if (decide ((8:Int) < (Ah.1:Int)))=true then none else some (.nx ())
def Ft(Ah:(Nat×List (Int×Int))):Option Unit:=gu (Ea Ah)
theorem NQ(W:Wd)(Ah:(Nat×List (Int×Int))):VF (Fy W) [.z ((DU W) Ah)] (rV eU) (Ft Ah):=by
 refine fI (n:=1) (b:=GD W) (p:=Ea Ah) (B:=λ_=>[.z ((DU W) Ah)]) ?_;show VS [.z ((DU W) Ah)] _ _ _ _;unfold GD Ea;exact(Gb (B:=(λ(_:Unit)=>[.z ((DU W) Ah)])) (JP (n9 (EV (Bs rfl)) (Ck rfl))) WR (Ga (.refl _)))
def Ps(Ah:(Nat×List (Int×Int)))(BI:Str):Option (Fw Int Unit):=
 BH ((Ft Ah).bind λ_=>some (.nx ())) λ_=>(Jv Ah BI).bind λx9=>some (.rt x9)
def Pw(Ah:(Nat×List (Int×Int)))(BI:Str):Option Int:=FC (Ps Ah BI)
theorem fY(W:Wd)(Ah:(Nat×List (Int×Int)))(BI:Str):VF (UR W) [.z ((DU W) Ah),.v (D.str BI)] (rV D.int) (Pw Ah BI):=by
 refine Dr (n:=2) (b:=Ua W) (p:=Ps Ah BI) (B:=λ_=>[]) ?_;show VS [.z ((DU W) Ah),.v (D.str BI)] _ _ _ _;unfold Ua Ps;exact(BA (ap (Ba (G5 (Bs rfl) Bb) (λz3=>NQ W z3.1) (λ_=>rfl) Db)) (λ_=>(Cr (Ba (G5 (Bs rfl) (CM (AM rfl) Bb)) (λz8=>TD W z8.1 z8.2.1) (λ_=>rfl) Db))))
open PySem L2
theorem hV(h:x.1 < x.2):nrm x=x:=by
 unfold nrm;rw[qY (by lia),qX (by omega)]
theorem hX(x:Int×Int):nrm (x.2,x.1)=nrm x:=by
 unfold nrm;dsimp only
 congr 1
 ·split <;> split <;> lia
 ·split <;> split <;> lia
theorem gH(h:l.Perm l'):Pn l=Pn l':=Ve ((Ji l).trans (h.trans (Ji l').symm)) (TV l) (TV l')
theorem kc(h:(ps.map nrm).Perm (qs.map nrm)):JQ ps=JQ qs:=by
 unfold JQ Lz;have:=h.map Ww;rw[BF,BF]at this;rw[show(λx=>Ww (nrm x))=Ww∘nrm from rfl,gH this]
theorem GJ.of(h:(ps.map nrm).Perm (qs.map nrm))(f:GJ p qs):GJ p ps:=by
 refine⟨λx hx=>?_,h.nodup_iff.mpr f.2⟩;obtain⟨y,hy,e⟩:=BD.mp (h.mem_iff.mp (cN hx));have:=f.1 y hy;unfold Fit at this ⊢;rw[<-e];exact this
theorem gF(h:l.Perm l'):CF l=CF l':=
 (((Dv l).trans h).trans (Dv l').symm).eq_of_pairwise (λa b _ _ h1 h2=>nq h1 h2) (NW l) (NW l')
def nr(ts:List (Int×Int))(x:Nat):List Int:=CF (DN ts x)
theorem hZ:z∈nr ts x↔((x:Int),z)∈ts∨(z,(x:Int))∈ts:=by
 unfold nr;rw[(Dv _).mem_iff];unfold DN;rw[List.mem_flatMap]
 constructor
 ·rintro⟨t,ht,h⟩
  rcases Ax.mp h with h | h
  ·split at h
   ·rename_i e
    rw[AU.mp h,<-e];exact .inl ht
   ·cases h
  ·split at h
   ·rename_i e
    rw[AU.mp h,<-e];exact .inr ht
   ·cases h
 ·rintro(h | h)
  ·exact⟨_,h,BN _ (by simp)⟩
  ·exact⟨_,h,BV _ (by simp)⟩
open PySem L2 L4
theorem iC{o:Nat}{us:List (Int×Int)}{g:Int}(h0:0<=g)(h1:g < o):atI (Qt o us) g=some (nr us g.toNat):=by
 refine KB h0 ?_;unfold Qt;rw[AZ,DT (by omega)];rfl
theorem iE{o:Nat}{us:List (Int×Int)}{g:Int}(h0:0<=g)(h1:g < o):Tq (o,us) g=some (nr us g.toNat):=by
 unfold Tq Wx HX FW;simp only[AC];rw[wX h0,qX rfl,wX h1];simp only[AC];show FC (BH (((gu (some (Fw.nx ()))).bind λ_=>some (.nx ()))) λ_=>_)=_;simp only[bH,AC,BQ];rw[iC h0 h1];rfl
theorem Bz:x∈CF l↔x∈l:=(Dv l).mem_iff
theorem gx:∀n:Nat,n < 128->∀x:Nat,x < 7->Ce (n:Int) (1 * 2 ^ x)=((n ||| 2 ^ x:Nat):Int)/\(n ||| 2 ^ x) < 128/\∀y:Nat,y < 7->(n ||| 2 ^ x).testBit y=(n.testBit y||decide (x=y)):=by decide +kernel
theorem cu:∀x:Nat,x < 8->Ox 1 (x:Int)=some (1 * 2 ^ x):=by decide +kernel
theorem sO(h:∀x∈l,0<=x/\x < 7):Ok (G9 l) λr=>∃n:Nat,r=n/\n < 128/\∀y:Nat,y < 7->(n.testBit y=true↔(y:Int)∈l):=by
 unfold G9 OP;simp only[AC,BQ];refine OkF.out (OkF.seq (OkF.for (λpre (s:Int)=>∃n:Nat,s=n/\n < 128/\∀y:Nat,y < 7->(n.testBit y=true↔(y:Int)∈pre)) ⟨0,rfl,by decide,λy _=>by simp⟩ ?_) ?_)
 ·rintro pre x s hx hp ⟨n,rfl,hn,wc⟩
  obtain⟨x0,x7⟩:=h x hx
  obtain⟨k,rfl⟩:∃k:Nat,x=k:=⟨x.toNat,by omega⟩
  rw[cu k (by omega)];obtain⟨o1,o2,o3⟩:=gx n hn k (by omega);refine .nx ⟨n ||| 2 ^ k,o1,o2,λy hy=>?_⟩;rw[o3 y hy,Jc,wc y hy,Ax,AU,decide_eq_true_eq];refine⟨λq=>q.elim .inl λq=>.inr (by rw[q]),λq=>q.elim .inl λq=>.inr (by omega)⟩
 ·rintro s ⟨n,rfl,h1,h2⟩
  exact .rt ⟨n,rfl,h1,h2⟩
def Tg(us:List (Int×Int))(g:Int):List Int:=CF ([g]++nr us g.toNat)
def tkl(o:Nat)(us:List (Int×Int)):List (List Int):=(DF 0 o).map (Tg us)
theorem ff{o:Nat}{us:List (Int×Int)}{g:Int}(h0:0<=g)(h1:g < o):atI (tkl o us) g=some (Tg us g):=by
 refine KB h0 ?_;unfold tkl DF;rw[AZ,AZ,DT (by omega)];show some (Tg us (0+(g.toNat:Int)))=_;rw[show(0:Int)+(g.toNat:Int)=g by omega]
theorem fg{o:Nat}{us:List (Int×Int)}{g:Int}(h0:0<=g)(h1:g < o):Tk (tkl o us) g=Tg us g:=by
 unfold Tk;rw[ff h0 h1];rfl
structure E9(o:Nat)(us:List (Int×Int)):Prop where
 sm:o < 8
 len:∀g:Int,0<=g->g < o->(nr us g.toNat).length<=6
 rg:∀g:Int,0<=g->g < o->∀x∈nr us g.toNat,0<=x/\x < o/\x≠g
 nd:∀g:Int,0<=g->g < o->(nr us g.toNat).Nodup
section
variable{o:Nat}{us:List (Int×Int)}
theorem KH:x∈Tg us g↔x=g∨x∈nr us g.toNat:=by
 unfold Tg;rw[Bz];simp
theorem E9.tg(h:E9 o us){g:Int}(h0:0<=g)(h1:g < o):(Tg us g).length<=7/\(∀x∈Tg us g,0<=x/\x < o)/\(Tg us g).Pairwise (· < ·):=by
 refine⟨?_,λx hx=>?_,?_⟩
 ·unfold Tg
  rw[(Dv _).length_eq,AY,Ai];have:=h.len g h0 h1;omega
 ·rcases KH.mp hx with rfl | hx
  ·exact⟨h0,h1⟩
  ·exact⟨(h.rg g h0 h1 x hx).1,(h.rg g h0 h1 x hx).2.1⟩
 ·have nd:(Tg us g).Nodup:=by
   unfold Tg;rw[(Dv _).nodup_iff];show(g :: nr us g.toNat).Nodup;rw[Bh];exact⟨λz=>(h.rg g h0 h1 g z).2.2 rfl,h.nd g h0 h1⟩
  have:=(NW ([g]++nr us g.toNat))
  exact(VZ this nd).imp λ⟨a,b⟩=>by omega
theorem kf(h:E9 o us):MM (o,us)=some (tkl o us):=by
 unfold MM MH;simp only[AC];rw[MF (by omega) (by have:=h.sm;omega),An];simp only[AC]
 rw[EX (f:=Tg us) (by rw[Bo];have:=h.sm;omega) λx hx=>by
  obtain⟨x0,x1⟩:=B9.mp hx;rw[iE x0 (by omega),vL];simp only[AC];have hx6:=h.len x x0 (by omega);rw[bp (by rw[Ai];omega)];simp only[AC];rw[P9 (by rw[AY,Ai];omega)]
  rfl]
 rfl
theorem Pc(f:Int->Int):∀l:List Int,l.zip (l.map f)=l.map λg=>(g,f g)
 | []=>rfl
 | x :: l=>by rw[BC,FD,Pc f l];rfl
theorem aj{a b:List Int}{x y z:Int}(hn:b.Nodup)(h1:(x,z)∈a.zip b)(h2:(y,z)∈a.zip b):x=y:=by
 obtain⟨i,hi,e1⟩:=CW h1;obtain⟨j,hj,e2⟩:=CW h2;rw[HF]at hi hj;rw[Ir]at e1 e2;have f1:=(na e1);have f2:=(na e2);have:i=j:=(jd hn).mp (f1.2.trans f2.2.symm);subst this;exact f1.1.symm.trans f2.1
end
open PySem L2 L4
open Srt (ltL)
theorem Yd:∀a:List Int,ltL a a=false
 | []=>rfl
 | x :: a=>by unfold ltL;rw[qX rfl];exact Yd a
section
variable{o:Nat}{us:List (Int×Int)}
def nW(us:List (Int×Int))(gs:List Int)(c:Int)(r:List Int):Prop:=r.length=gs.length/\r.Nodup/\(∀y∈gs.zip r,y.2∈Tg us y.1)/\c∈r
theorem dq{gs:List Int}{pre:List (Int×Int)}{x:Int×Int}(h:pre++[x] <+: N4 gs):∃g,gs[pre.length]?=some g/\x=(((pre.length+1:Nat):Int),g):=by
 obtain⟨r,hr⟩:=h;have h1:=congrArg (λz=>z[pre.length]?) hr;simp only[Dz,Be (AO _),tT]at h1;rw[show([x]++r)[0]?=some x from rfl]at h1;unfold N4 at h1;rw[AZ,En]at h1
 cases q:gs[pre.length]? with
 | none=>rw[q]at h1;cases h1
 | some g=>rw[q]at h1;simp at h1;exact⟨g,rfl,by rw[h1];simp⟩
theorem OI{gs a b:List Int}(h:a.length<=gs.length)(y:Int×Int):y∈gs.zip (a++b)↔y∈gs.zip a∨y∈(gs.drop a.length).zip b:=by
 have h1:gs.zip (a++b)=(gs.take a.length).zip a++(gs.drop a.length).zip b:=by
  conv=>lhs;rw[<-ZL a.length gs]
  exact jr (by rw[EE];omega)
 have h2:gs.zip a=(gs.take a.length).zip a:=by
  have:gs.zip (a++[])=(gs.take a.length).zip a++(gs.drop a.length).zip []:=by
   conv=>lhs;rw[<-ZL a.length gs]
   exact jr (by rw[EE];omega)
  rw[Bq,HI,Bq]at this;exact this
 rw[h1,h2,Ax]
theorem nW.rg(h:E9 o us){gs r:List Int}{c:Int}(hg:∀g∈gs,0<=g/\g < o)(hr:nW us gs c r):∀x∈r,0<=x/\x < o:=λx hx=>by
 obtain⟨i,hi,rfl⟩:=CW hx
 have yY:i < gs.length:=by rw[<-hr.1];exact hi
 have m:(gs[i],r[i])∈gs.zip r:=by
  have:(gs.zip r)[i]'(by rw[HF];omega)=(gs[i],r[i]):=Ir;rw[<-this];exact Df _
 have:=hg gs[i] (Df _);exact(h.tg this.1 this.2).2.1 _ (hr.2.2.1 _ m)
end
theorem nO:∀n:Nat,n < 128->∀x:Nat,x < 7->(BG (n:Int) (1 * 2 ^ x) != 0)=n.testBit x:=by decide +kernel
theorem WM:∀n:Nat,n < 128->∀x:Nat,x < 7->CC (n:Int) (1 * 2 ^ x)=((n ^^^ 2 ^ x:Nat):Int)/\(n ^^^ 2 ^ x) < 128/\∀y:Nat,y < 7->(n ^^^ 2 ^ x).testBit y=(n.testBit y != decide (x=y)):=by decide +kernel
theorem rX:∀n:Nat,n < 128->∀x:Nat,x < 7->hb (n:Int) (x:Int)=n.testBit x:=by decide +kernel
abbrev bit(n:Nat)(x:Int):Prop:=n.testBit x.toNat=true
def InS(us:List (Int×Int))(gs:List Int)(P:Int->Prop)(r:List Int):Prop:=r.length=gs.length/\r.Nodup/\(∀y∈gs.zip r,y.2∈Tg us y.1)/\∀x∈r,P x
def Pre(us:List (Int×Int))(gs:List Int)(P:Int->Prop)(t:List Int):Prop:=t.Nodup/\(∀y∈gs.zip t,y.2∈Tg us y.1)/\∀x∈t,P x
section
variable{o:Nat}{us:List (Int×Int)}{gs rest:List Int}{P Q:Int->Prop}{g:Int}{n:Nat}
theorem InS.rg(h:E9 o us)(hg:∀g∈gs,0<=g/\g < o)(hr:InS us gs P r):∀x∈r,0<=x/\x < o:=λx hx=>by
 obtain⟨i,hi,rfl⟩:=CW hx;have hl:=hr.1
 have m:(gs[i]'(by omega),r[i])∈gs.zip r:=by
  have:(gs.zip r)[i]'(by rw[HF];omega)=(gs[i]'(by omega),r[i]):=Ir;rw[<-this];exact Df _
 have g':=hg _ (Df (show i < gs.length by omega));exact(h.tg g'.1 g'.2).2.1 _ (hr.2.2.1 _ m)
theorem InS.imp(hr:InS us gs P r)(i:∀x∈r,P x->Q x):InS us gs Q r:=⟨hr.1,hr.2.1,hr.2.2.1,λx hx=>i x hx (hr.2.2.2 x hx)⟩
theorem InS.cut(ht:t.length<=gs.length):InS us gs P (t++l)↔Pre us gs P t/\InS us (gs.drop t.length) (λx=>P x/\x∉t) l:=by
 unfold InS Pre;rw[Em,AY,Gn]
 constructor
 ·rintro⟨a,⟨b1,b2,b3⟩,c,d⟩
  exact⟨⟨b1,λy hy=>c y ((OI ht y).mpr (.inl hy)),λx hx=>d x (BN _ hx)⟩,by omega,b2,λy hy=>c y ((OI ht y).mpr (.inr hy)),λx hx=>⟨d x (BV _ hx),λz=>b3 x z x hx rfl⟩⟩
 ·rintro⟨⟨a1,a2,a3⟩,b,c,d,e⟩
  refine⟨by omega,⟨a1,c,λx hx y hy q=>(e y hy).2 (q▸hx)⟩,λy hy=>?_,λx hx=>?_⟩
  ·rcases(OI ht y).mp hy with q | q
   ·exact a2 y q
   ·exact d y q
  ·rcases Ax.mp hx with q | q
   ·exact a3 x q
   ·exact(e x q).1
theorem am(hn:n < 128)(hx:0<=x/\x < 7)(hy:0<=y/\y < 7):bit (n ^^^ 2 ^ x.toNat) y↔n.testBit y.toNat≠decide (x=y):=by
 unfold bit;rw[(WM n hn x.toNat (by omega)).2.2 y.toNat (by omega)]
 have:(x.toNat=y.toNat)↔x=y:=by omega
 simp only[bne_iff_ne,this]
theorem InS.cons(h:E9 o us)(hn:n < 128)(hg:0<=g/\g < o)(hr:∀g∈rest,0<=g/\g < o):InS us (g :: rest) (bit n) (x :: l)↔x∈Tg us g/\bit n x/\InS us rest (bit (n ^^^ 2 ^ x.toNat)) l:=by
 have sm:=h.sm;have key:=InS.cut (us:=us) (gs:=g :: rest) (P:=bit n) (t:=[x]) (l:=l) (by simp);rw[List.singleton_append]at key;rw[key];have hd:(g :: rest).drop [x].length=rest:=rfl;rw[hd]
 constructor
 ·rintro⟨⟨-,a,b⟩,c⟩
  have xt:=a (g,x) (by simp);have xr:=(h.tg hg.1 hg.2).2.1 x xt;have rg:=c.rg h hr;refine⟨xt,b x (by simp),c.imp λy hy ⟨p1,p2⟩=>?_⟩;have yr:=rg y hy;rw[am hn (by omega) (by omega),p1,wY (λe=>p2 (by rw[e];simp))]
  decide
 ·rintro⟨a,b,c⟩
  have xr:=(h.tg hg.1 hg.2).2.1 x a;have rg:=c.rg h hr;refine⟨⟨by simp,λy hy=>?_,λy hy=>by rw[AU.mp hy];exact b⟩,c.imp λy hy q=>?_⟩
  ·rw[FD,HI,AU]at hy
   rw[hy];exact a
  ·have yr:=rg y hy
   rw[am hn (by omega) (by omega)]at q
   by_cases e:x=y
   ·subst e
    rw[b]at q;simp at q
   ·rw[wY e]at q
    exact⟨by simpa using q,λz=>e (AU.mp z).symm⟩
theorem qA(h:E9 o us)(hn:n < 128)(hr:∀g∈rest,0<=g/\g < o)(xw:rest.Nodup):Sdr (Tk (tkl o us)) (n:Int) rest↔∃r,InS us rest (bit n) r:=by
 have sm:=h.sm
 have hw:∀g∈rest,∀x,x∈w0 (Tk (tkl o us)) (n:Int) g↔x∈Tg us g/\bit n x:=λg hg x=>by
  unfold w0;rw[BM,fg (hr g hg).1 (hr g hg).2]
  refine and_congr_right λa=>?_
  have:=(h.tg (hr g hg).1 (hr g hg).2).2.1 x a
  obtain⟨k,rfl⟩:∃k:Nat,x=k:=⟨x.toNat,by omega⟩
  unfold bit;rw[rX n hn k (by omega),An]
 constructor
 ·rintro⟨f,f1,f2⟩
  refine⟨rest.map f,AF _,?_,λy hy=>?_,λx hx=>?_⟩
  ·unfold Iv
   rw[Ca]
   exact xw.imp_of_mem λ{a b} ha wc ne e=>ne (f2 a ha b wc e)
  ·rw[Pc]at hy
   obtain⟨g,hg,rfl⟩:=BD.mp hy;exact((hw g hg _).mp (f1 g hg)).1
  ·obtain⟨g,hg,rfl⟩:=BD.mp hx
   exact((hw g hg _).mp (f1 g hg)).2
 ·rintro⟨l,l1,ln,l3,l4⟩
  have ex:∀a:Int,∃z:Int,a∈rest->(a,z)∈rest.zip l:=λa=>by
   by_cases q:a∈rest
   ·obtain⟨i,hi,e⟩:=CW q
    refine⟨l[i]'(by omega),λ_=>?_⟩
    have:(rest.zip l)[i]'(by rw[HF];omega)=(a,l[i]'(by omega)):=by rw[Ir,e]
    rw[<-this];exact Df _
   ·exact⟨0,λz=>zX z q⟩
  have hs:=λa=>D9 (ex a)
  refine⟨λa=>DA (ex a),λg hg=>(hw g hg _).mpr ⟨l3 _ (hs g hg),l4 _ (Jb (hs g hg)).2⟩,λa ha b wc e=>?_⟩;have e:DA (ex a)=DA (ex b):=e;have h1:=hs a ha;rw[e]at h1;exact aj ln h1 (hs b wc)
theorem iz(h:E9 o us)(hn:n < 128)(hr:∀g∈rest,0<=g/\g < o)(xw:rest.Nodup):Ok (Qo (tkl o us) rest (n:Int)) λb=>b=true↔∃r,InS us rest (bit n) r:=by
 have sm:=h.sm
 have hlen:((tkl o us).length:Int)=o:=by unfold tkl;rw[AF,Bo]
 have hT:(∀t∈tkl o us,t.length<=1000/\∀x∈t,0<=x)/\∀g∈rest,0<=g/\g < ((tkl o us).length:Int):=by
  refine⟨λt htm=>?_,λg hg=>by rw[hlen];exact hr g hg⟩;obtain⟨g,hg,rfl⟩:=BD.mp htm;obtain⟨g0,g1⟩:=B9.mp hg;have:=h.tg g0 (by omega);exact⟨by omega,λx hx=>(this.2.1 x hx).1⟩
 have fs:=di (T:=Tk (tkl o us)) (bits:=(n:Int)) (U:=DF 0 o) (Gd:=λg=>0<=g/\g < o) (n:=9) (gs:=rest) (λg hg x hx=>by
  rw[fg hg.1 hg.2]at hx;have:=(h.tg hg.1 hg.2).2.1 x hx
  exact B9.mpr ⟨this.1,by omega⟩) (by rw[Bo];omega) (by rw[Bo];omega) (λg hg=>⟨hr g hg,by rw[fg (hr g hg).1 (hr g hg).2];exact KH.mpr (.inl rfl)⟩) xw
 have pf:Qo (tkl o us) rest (n:Int)=Vx (Tk (tkl o us)) (n:Int) 9 rest:=qX hT;rw[pf]
 exact fs.imp λb hb=>hb.trans (qA h hn hr xw)
end
open PySem L2 L4
theorem aK(ns:List Int)(k:Nat):DM ns (k:Int)=some (ns.getD k 0):=by
 unfold DM HV
 by_cases c:k < ns.length
 ·rw[wX (show(k:Int) < (ns.length:Int) by omega),qX rfl,KB (x:=ns[k]) (by omega) (by rw[An];exact Af c)]
  simp only[AC,jQ,bI];rw[EN,Af c];rfl
 ·rw[wY (show ¬(k:Int) < (ns.length:Int) by omega),qY AK]
  simp only[BQ,bI];rw[EN,CB (by omega)];rfl
theorem RQ[DecidableEq κ](f':List (κ×β))(k:κ)(v:β):(CJ f' k v).length<=f'.length+1:=by
 unfold CJ;split
 ·rw[AF];omega
 ·rw[AY];simp
def prU(l:List Int):List (Int×Int):=l.flatMap λy=>(DF 0 y.toNat).map λx=>(x,y)
theorem lM:∀o:Nat,o < 8->(∀x∈prU (DF 1 (o - 1)),0<=x.1/\x.1 < x.2/\x.2 < o)/\(prU (DF 1 (o - 1))).Nodup/\(prU (DF 1 (o - 1))).length<=21:=by decide +kernel
structure Uf(o:Nat)(ts:List (Int×Int)):Prop where
 rg:∀x∈ts,0<=x.1/\x.1 < x.2/\x.2 < o
 nd:ts.Nodup
 ln:ts.length<=21
theorem bP{x y:Int}(h0:-2000000000 < x)(h1:x < 2000000000):dR x y=some (x * y):=qX (.inl ⟨ZN (by decide) h0,ZN h1 (by decide)⟩)
theorem i5{x y:Int}(h0:0 < y)(h1:y < 1000):Vy x y=some (x / y):=qX ⟨h0,ZN h1 (by decide)⟩
theorem kn(ns:List Int){m:Int}(hm:m=5∨m=6):Ok (IN ns m) λv=>∃o:Nat,v.1=o/\1<=o/\o<=6/\Uf o v.2:=by
 have hm0:0 < m:=by omega
 refine OkF.out ?_;unfold GR;rw[show DM ns 0=some (ns.getD 0 0)from aK ns 0,show DM ns 1=some (ns.getD 1 0)from aK ns 1];generalize ns.getD 0 0=h;generalize ns.getD 1 0=b;simp only[AC,BQ];rw[mI hm0];simp only[AC,BQ,i4];rw[i5 hm0 (by omega)];simp only[AC]
 obtain⟨o,ho⟩:∃o:Nat,(o:Int)=1+h % m:=⟨(1+h % m).toNat,As (by have:=nv h (show m≠0 by omega);omega)⟩
 have h0:=nv h (show m≠0 by omega);have h1:=Int.emod_lt_of_pos h hm0;rw[<-ho]
 refine OkF.seq (N:=λ_=>True) ((OkF.for (λ_ _=>True) trivial λpre x s hx hp _=>.nx trivial).imp (λ_ h=>h) λ_ h=>h) λd _=>?_
 simp only[BQ];rw[SK (by omega) (by omega) (by omega) (by omega),show((o:Int) - 1).toNat=o - 1 by omega];simp only[AC];refine OkF.seq (OkF.for (λpre (s:Int×Int×List (Int×Int))=>(0<=s.1/\s.1<=1000000100)/\s.2.2.length<=6 * pre.length/\s.2.2.Sublist (prU pre)) ⟨⟨by dsimp only;omega,by dsimp only;omega⟩,AO _,List.nil_sublist _⟩ ?_) ?_
 ·rintro pre x s hx hp ⟨hb,hl,hs⟩
  obtain⟨x0,x1⟩:=B9.mp hx;have wD:=hp.length_le;rw[AY,Ai,Bo]at wD;rw[MF (by omega) (by omega)];simp only[AC];refine OkF.map (OkF.for (λwW (t:Int×Int×List (Int×Int))=>(0<=t.1/\t.1<=1000000100)/\t.2.2.length<=6 * pre.length+wW.length/\t.2.2.Sublist (prU pre++wW.map λy=>(y,x))) ⟨hb,hl,by rw[NG,Bq];exact hs⟩ ?_) ?_
  ·rintro wW y t hy xQ ⟨tb,tl,tS⟩
   obtain⟨y0,y1⟩:=B9.mp hy;have zO:=xQ.length_le;rw[AY,Ai,Bo]at zO;rw[bP (by omega) (by omega),bP (by omega) (by omega)];simp only[AC,BQ]
   refine OkF.seq (N:=λ_=>True) (by split <;> exact .nx trivial) λz _=>?_
   have hz:0<=t.1 * t.1 % 1000000007+12 * x+y+1/\t.1 * t.1 % 1000000007+12 * x+y+1<=1000000100:=by
    generalize t.1 * t.1=k;omega
   cases z.1 with
   | true=>
    rw[qX rfl,SY (by omega)];refine .nx ⟨hz,?_,?_⟩
    ·show(t.2.2++[(y,x)]).length<=_
     rw[AY,AY,Ai,Ai];omega
    ·show(t.2.2++[(y,x)]).Sublist _
     rw[CS,<-Dz];exact tS.append (vy _)
   | false=>
    rw[qY AK];refine .nx ⟨hz,?_,?_⟩
    ·show t.2.2.length<=_
     rw[AY];omega
    ·show t.2.2.Sublist _
     rw[CS,<-Dz];exact tS.trans (Xj _ _)
  ·rintro t ⟨tb,tl,tS⟩
   rw[Bo]at tl;refine⟨tb,?_,?_⟩
   ·show t.2.2.length<=_
    rw[AY,Ai];omega
   ·show t.2.2.Sublist _
    unfold prU at tS ⊢;rw[cQ,RK,List.flatMap_nil,Bq];exact tS
 ·rintro s ⟨-,-,hs⟩
  obtain⟨p1,p2,p3⟩:=lM o (by omega);exact .rt ⟨o,rfl,by omega,by omega,λx hx=>p1 x (hs.subset hx),hs.nodup p2,At hs.length_le p3⟩
theorem Uf.nrm(h:Uf o ts):ts.map nrm=ts:=by
 conv=>rhs;rw[<-Sm ts]
 exact DS λx hx=>hV (h.rg x hx).2.1
theorem Uf.fit(h:Uf o ts):GJ o ts:=by
 refine⟨λx hx=>?_,by rw[h.nrm];exact h.nd⟩;have:=h.rg x hx;unfold Fit;rw[hV this.2.1];omega
theorem Uf.mem(h:Uf o ts):t∈JQ ts↔t∈ts:=by
 rw[(Qb ts).mem_iff,h.nrm]
theorem Uf.web(h:Uf o ts)(h1:1<=o)(ho:o<=60)(e:hs=ts∨hs=ts.reverse.map λx=>(x.2,x.1)):fA (o:Int) hs=some (o,JQ ts):=by
 have pm:(hs.map M.nrm).Perm (ts.map M.nrm):=by
  rcases e with rfl | rfl
  ·exact List.Perm.refl _
  ·rw[BF,show(M.nrm∘λx:Int×Int=>(x.2,x.1))=M.nrm from funext λx=>hX x,List.map_reverse]
   exact List.reverse_perm _
 have hl:hs.length=ts.length:=by have:=pm.length_eq;rwa [AF,AF]at this
 unfold fA;rw[qX ⟨by omega,by omega,GJ.of pm h.fit,by rw[hl];have:=h.ln;omega⟩,kc pm,An]
theorem T9:z∈DN us x↔((x:Int),z)∈us∨(z,(x:Int))∈us:=by
 rw[<-hZ];exact Bz.symm
theorem Vn:∀{us:List (Int×Int)},us.Nodup->(∀t∈us,t.1 < t.2)->(DN us x).Nodup
 | [],_,_=>EM
 | t :: us,h,h1=>by
  have ih:=Vn (x:=x) (Bh.mp h).2 λs hs=>h1 s (AS _ hs)
  have nt:=(Bh.mp h).1;have lt:=h1 t AV
  have e:DN (t :: us) x=((if t.1=(x:Int)then[t.2]else[])++(if t.2=(x:Int)then[t.1]else[]))++DN us x:=by
   unfold DN;rw[RK]
  rw[e]
  have lt':∀a b:Int,(a,b)∈us->a < b:=λa b hm=>h1 _ (AS _ hm)
  by_cases c1:t.1=(x:Int)
  ·rw[qX c1,qY (by omega),Bq]
   show(t.2 :: DN us x).Nodup;rw[Bh];refine⟨λz=>?_,ih⟩
   rcases T9.mp z with z | z
   ·rw[<-c1]at z;exact nt z
   ·have:=lt' _ _ z;omega
  ·rw[qY c1,jv]
   by_cases c2:t.2=(x:Int)
   ·rw[qX c2]
    show(t.1 :: DN us x).Nodup;rw[Bh];refine⟨λz=>?_,ih⟩
    rcases T9.mp z with z | z
    ·have:=lt' _ _ z;omega
    ·rw[<-c2]at z;exact nt z
   ·rw[qY c2];exact ih
section
variable{o:Nat}{ts:List (Int×Int)}
theorem Uf.ties(h:Uf o ts)(ho:o < 8):E9 o (JQ ts):=by
 have rg:∀g:Int,0<=g->g < o->∀x∈nr (JQ ts) g.toNat,0<=x/\x < o/\x≠g:=λg h0 h1 x hx=>by
  rw[hZ,h.mem,h.mem,As h0]at hx
  rcases hx with hx | hx
  ·have:0<=g/\g < x/\x < o:=h.rg _ hx;omega
  ·have:0<=x/\x < g/\g < o:=h.rg _ hx;omega
 have nd:∀g:Int,0<=g->g < o->(nr (JQ ts) g.toNat).Nodup:=λg _ _=>by
  refine(Dv _).nodup_iff.mpr (Vn ?_ λt ht=>?_)
  ·rw[(Qb ts).nodup_iff,h.nrm];exact h.nd
  ·exact(h.rg t (h.mem.mp ht)).2.1
 refine⟨ho,λg h0 h1=>?_,rg,nd⟩;have n2:(g :: nr (JQ ts) g.toNat).Nodup:=Bh.mpr ⟨λz=>(rg g h0 h1 g z).2.2 rfl,nd g h0 h1⟩
 have:=HZ (k:=DF 0 o) n2 λx hx=>by
  rw[B9]
  rcases Ae.mp hx with rfl | hx
  ·omega
  ·have:=rg g h0 h1 x hx;omega
 rw[Bo,Av]at this;omega
end
end M
namespace L4
theorem ZQ{ρ σ:Type}{c:σ->Option Bool}{q:σ->Option (Fw ρ σ)}(I:σ->Prop)(μ:σ->Nat)(h:∀s,I s->c s=some false∨(c s=some true/\∃s',q s=some (.nx s')/\I s'/\μ s' < μ s)) :
  ∀(n:Nat) (s:σ),I s->μ s < n->∃s',whF c q n s=some (.nx s')/\I s'/\c s'=some false
 | 0,s,_,hn=>zX hn (OF _)
 | n+1,s,hI,hn=>by
  unfold whF
  rcases h s hI with hc | ⟨hc,s',hq,h2,h3⟩
  ·rw[hc]
   exact⟨s,rfl,hI,hc⟩
  ·rw[hc]
   simp only[AC,if_true];rw[hq];exact ZQ I μ h n s' h2 (by lia)
end L4
namespace M
open PySem L2 L4
theorem QG(a b:Nat):BG (a:Int) (b:Int)=((a &&& b:Nat):Int):=by
 unfold BG;rw[wX (Kr a),wX (Kr b)];rfl
theorem Wz(a b:Nat):Ce (a:Int) (b:Int)=((a ||| b:Nat):Int):=by
 unfold Ce BG et;rw[wY (show ¬0<=-(a:Int) - 1 by omega),wY (show ¬0<=-(b:Int) - 1 by omega)];show -(-((((-(-(a:Int) - 1) - 1).toNat ||| (-(-(b:Int) - 1) - 1).toNat:Nat):Nat):Int) - 1) - 1=_;rw[show(-(-(a:Int) - 1) - 1).toNat=a by omega,show(-(-(b:Int) - 1) - 1).toNat=b by omega];omega
theorem gw:∀a b:Nat,(a ||| b)=(a ^^^ b)+(a &&& b):=by
 intro a
 induction a using nh with
 | ind a ih=>
  intro b
  by_cases h:a=0
  ·subst h
   simp
  ·have e:=ih (a / 2) (by omega) (b / 2)
   have h1:=Nat.or_div_two (a:=a) (b:=b);have h2:=Nat.xor_div_two (a:=a) (b:=b);have h3:=Ur (a:=a) (b:=b);have m1:(a ||| b) % 2=(a % 2 ||| b % 2):=Nat.or_mod_two_pow (a:=a) (b:=b) (n:=1);have m2:(a ^^^ b) % 2=(a % 2 ^^^ b % 2):=Nat.xor_mod_two_pow (a:=a) (b:=b) (n:=1);have m3:(a &&& b) % 2=(a % 2 &&& b % 2):=PZ (a:=a) (b:=b) (n:=1)
   rcases Kq a with ha | ha <;> rcases Kq b with hb | hb <;> rw[ha,hb]at m1 m2 m3 <;> simp only[Nat.reduceOr,Nat.reduceXor,Nat.reduceAnd]at m1 m2 m3 <;> omega
theorem ak(a b:Nat):CC (a:Int) (b:Int)=((a ^^^ b:Nat):Int):=by
 unfold CC;rw[Wz,QG,gw];omega
theorem bX:∀b:Nat,0 < b->∃i:Nat,b.testBit i=true/\(∀j,j < i->b.testBit j=false)/\b=(b &&& (b - 1))+2 ^ i/\∀j,(b &&& (b - 1)).testBit j=(b.testBit j&&!decide (i=j)):=by
 intro b
 induction b using nh with
 | ind b ih=>
  intro hb
  rcases Kq b with h | h
  ·obtain⟨i,h1,h2,h3,h4⟩:=ih (b / 2) (by omega) (by omega)
   have d:=Ur (a:=b) (b:=b - 1);rw[show(b - 1) / 2=b / 2 - 1 by omega]at d;have m3:(b &&& (b - 1)) % 2=(b % 2 &&& (b - 1) % 2):=PZ (a:=b) (b:=b - 1) (n:=1);rw[h]at m3;simp at m3;refine⟨i+1,by rw[Gr];exact h1,λj hj=>?_,?_,λj=>?_⟩
   ·cases j with
    | zero=>rw[Gq];exact wY (by omega)
    | succ j=>rw[Gr];exact h2 j (by omega)
   ·rw[ZK];omega
   ·cases j with
    | zero=>
     rw[Gq,Gq,wY (show ¬(b &&& (b - 1)) % 2=1 by omega),wY (show ¬b % 2=1 by omega)];rfl
    | succ j=>
     rw[Gr,Gr,d,h4 j]
     congr 2
     exact decide_eq_decide.mpr (by omega)
  ·have d:=Ur (a:=b) (b:=b - 1)
   rw[show(b - 1) / 2=b / 2 by omega,Nat.and_self]at d;have m3:(b &&& (b - 1)) % 2=(b % 2 &&& (b - 1) % 2):=PZ (a:=b) (b:=b - 1) (n:=1);rw[h,show(b - 1) % 2=0 by omega]at m3;simp at m3;refine⟨0,by rw[Gq];exact wX h,λj hj=>zX hj (OF _),by rw[Nat.pow_zero];omega,λj=>?_⟩
   cases j with
   | zero=>
    rw[Gq,Gq,wY (show ¬(b &&& (b - 1)) % 2=1 by omega),wX h];rfl
   | succ j=>
    rw[Gr,Gr,d];simp
theorem dP{b i:Nat}(h:b=(b &&& (b - 1))+2 ^ i)(hb:0 < b):BG (b:Int) (-(b:Int))=((2 ^ i:Nat):Int):=by
 unfold BG et;rw[wX (Kr b),wY (show ¬0<=-(b:Int) by omega)];show(b:Int) - ((((b:Int).toNat &&& (- -(b:Int) - 1).toNat:Nat)):Int)=_;rw[show(- -(b:Int) - 1).toNat=b - 1 by omega,An];omega
theorem jN(i:Nat):Dp ((2 ^ i:Nat):Int)=i+1:=by
 unfold Dp;have h:(2 ^ i:Nat)≠0:=Er (nc i);rw[qY (by rw[beq_iff_eq];omega),Int.natAbs_natCast,Nat.log2_two_pow]
def Bm(b:Nat)(l:List Int):Prop:=l.Pairwise (· < ·)/\∀x:Int,x∈l↔0<=x/\b.testBit x.toNat=true
theorem OQ{b N:Nat}(hb:b < 2 ^ N)(hN:N<=1000):Ok (G8 (b:Int)) (Bm b):=by
 unfold G8 ON;simp only[AC,i4,BQ]
 obtain⟨⟨t,l⟩,e,hI,hc⟩:=ZQ (ρ:=List Int) (c:=λs:List Int×Int=>some (s.2 != 0)) (q:=λs:List Int×Int=>BH ((Ue s.1 ((Dp (BG s.2 (-s.2)):Int) - 1)).bind λl=>some (.nx l)) λv=>Ew (λw=>(v,w)) (some (.nx (BG s.2 (s.2 - 1)))))
  (λs=>∃c:Nat,s.2=c/\s.1.Pairwise (· < ·)/\(∀x∈s.1,0<=x/\x < N/\b.testBit x.toNat=true/\∀j:Nat,c.testBit j=true->x < j)/\(∀j:Nat,b.testBit j=true->(j:Int)∈s.1∨c.testBit j=true)/\(∀j:Nat,c.testBit j=true->b.testBit j=true))
  (λs=>N - s.1.length) (λs ⟨c,hc,h1,h2,h3,h4⟩=>by
   by_cases c0:c=0
   ·left
    rw[hc,c0];rfl
   ·right
    obtain⟨i,q1,q2,q3,q4⟩:=bX c (by omega)
    have hi:i < N:=by
     have:=h4 i q1
     refine jq λhle=>?_
     have h0:b.testBit i=false:=ZJ (AT hb (cL (by decide) hle));rw[h0]at this;cases this
    have hlen:s.1.length < N:=by
     have xw:(s.1++[(i:Int)]).Nodup:=by
      refine Em.mpr ⟨h1.imp λh=>by omega,by simp,λx hx y hy=>?_⟩;rw[AU.mp hy];have:=(h2 x hx).2.2.2 i q1;omega
     have:=HZ (k:=DF 0 N) xw λx hx=>by
      rw[B9]
      rcases Ax.mp hx with hx | hx
      ·have:=h2 x hx;omega
      ·rw[AU.mp hx];omega
     rw[Bo,AY,Ai]at this;exact this
    refine⟨by rw[hc];exact congrArg some (bne_iff_ne.mpr (by omega)),(s.1++[(i:Int)],((c &&& (c - 1):Nat):Int)),?_,⟨_,rfl,?_,λx hx=>?_,λj hj=>?_,λj hj=>?_⟩,?_⟩
    ·rw[hc,dP q3 (by omega),jN,SY (by omega),show(c:Int) - 1=((c - 1:Nat):Int) by omega,QG]
     simp only[AC,BQ,mL];rw[show((i+1:Nat):Int) - 1=(i:Int) by omega]
    ·refine GZ.mpr ⟨h1,Xq _ _,λx hx y hy=>?_⟩
     rw[AU.mp hy];exact(h2 x hx).2.2.2 i q1
    ·rcases Ax.mp hx with hx | hx
     ·obtain⟨a1,a2,a3,a4⟩:=h2 x hx
      refine⟨a1,a2,a3,λj hj=>a4 j ?_⟩;rw[q4 j,CU]at hj;exact hj.1
     ·rw[AU.mp hx]
      refine⟨by omega,by omega,by rw[An];exact h4 i q1,λj hj=>?_⟩;rw[q4 j,CU]at hj
      have wg:i≠j:=by simpa using hj.2
      have:¬j < i:=λz=>by rw[q2 j z]at hj;exact zX hj.1 AK
      omega
    ·rcases h3 j hj with h | h
     ·exact .inl (BN _ h)
     ·by_cases e:i=j
      ·subst e;exact .inl (by simp)
      ·right
       rw[q4 j,h,wY e];rfl
    ·rw[q4 j,CU]at hj
     exact h4 j hj.1
    ·show N - (s.1++[(i:Int)]).length < N - s.1.length
     rw[AY,Ai]
     omega) wN ([],(b:Int)) ⟨b,rfl,.nil,λ_ h=>(nomatch h),λj hj=>.inr hj,λ_ h=>h⟩ (by show N - 0 < wN;unfold wN;omega)
 refine⟨t,?_,?_⟩
 ·rw[e]
  rfl
 ·obtain⟨c,wM,h1,h2,h3,h4⟩:=hI
  have c0:c=0:=by
   have hc:=Bw hc
   have:(c:Int)=0:=by rw[<-wM];simpa using hc
   omega
  subst c0;refine⟨h1,λx=>⟨λhx=>⟨(h2 x hx).1,(h2 x hx).2.2.1⟩,λ⟨x0,hx⟩=>?_⟩⟩
  rcases h3 x.toNat hx with h | h
  ·rwa [As x0]at h
  ·simp at h
open PySem L2 L4
open Srt (ltL)
theorem Im:∀{l k:List Int},l.Pairwise (· < ·)->k.Pairwise (· < ·)->(∀x,x∈l↔x∈k)->l=k
 | [],[],_,_,_=>rfl
 | [],y :: k,_,_,h=>zX ((h y).mpr (AV ..)) Gm
 | x :: l,[],_,_,h=>zX ((h x).mp (AV ..)) Gm
 | x :: l,y :: k,hl,hk,h=>by
  have h1:=QI.mp hl;have h2:=QI.mp hk
  have e:x=y:=by
   rcases Ae.mp ((h x).mp (AV ..))with a | a
   ·exact a
   ·rcases Ae.mp ((h y).mpr (AV ..))with b | b
    ·exact b.symm
    ·have:=h2.1 x a
     have:=h1.1 y b;omega
  subst e
  congr 1
  refine Im h1.2 h2.2 λz=>⟨λhz=>?_,λhz=>?_⟩
  ·rcases Ae.mp ((h z).mp (AS _ hz))with a | a
   ·have:=h1.1 z hz;omega
   ·exact a
  ·rcases Ae.mp ((h z).mpr (AS _ hz))with a | a
   ·have:=h2.1 z hz;omega
   ·exact a
def Zc:List Int->List (List Int)
 | []=>[[]]
 | x :: l=>(Zc l).map (x :: ·)++Zc l
theorem Nx(P:Int->Bool):∀l:List Int,l.filter P∈Zc l
 | []=>by simp[Zc]
 | x :: l=>by
  unfold Zc;rw[List.filter_cons];split
  ·exact BN _ (BD.mpr ⟨_,Nx P l,rfl⟩)
  ·exact BV _ (Nx P l)
def sts(o g:Nat):List (List Int):=(Qn o g).getD []
def Stg(o g:Nat)(r:List Int):Prop:=r.length=g/\(∀x∈r,0<=x/\x < (o:Int))/\r.Pairwise (· < ·)
theorem pz:∀o:Nat,o < 8->∀g:Nat,g < 8->g<=o->1<=g->decide (Fs (o,[]) g=some (sts o g)/\sts o g≠[]/\(sts o g).length<=35)=true:=by decide +kernel
theorem NU(o:Nat)(ho:o < 8)(g:Nat)(h8:g < 8)(hg:g<=o)(h1:1<=g):Fs (o,[]) g=some (sts o g)/\sts o g≠[]/\(sts o g).length<=35:=of_decide_eq_true (pz o ho g h8 hg h1)
theorem px:∀o:Nat,o < 8->∀g:Nat,g < 8->g<=o->1<=g->decide (∀r∈sts o g,r.length=g/\(∀x∈r,0<=x/\x < (o:Int))/\r.Pairwise (· < ·))=true:=by decide +kernel
theorem uK(o:Nat)(ho:o < 8)(g:Nat)(h8:g < 8)(hg:g<=o)(h1:1<=g):∀r∈sts o g,r.length=g/\(∀x∈r,0<=x/\x < (o:Int))/\r.Pairwise (· < ·):=of_decide_eq_true (px o ho g h8 hg h1)
theorem pw:∀o:Nat,o < 8->∀g:Nat,g < 8->g<=o->1<=g->decide ((sts o g).Pairwise (λa b=>ltL a b=true)/\∀l∈Zc (DF 0 o),l.length=g->l∈sts o g)=true:=by decide +kernel
theorem oC(o:Nat)(ho:o < 8)(g:Nat)(h8:g < 8)(hg:g<=o)(h1:1<=g):(sts o g).Pairwise (λa b=>ltL a b=true)/\∀l∈Zc (DF 0 o),l.length=g->l∈sts o g:=of_decide_eq_true (pw o ho g h8 hg h1)
section
variable{o g:Nat}{us:List (Int×Int)}{r:List Int}
theorem ci(ho:o < 8)(hg:g<=o)(h1:1<=g):Fs (o,us) g=some (sts o g):=(show Fs (o,us) g=Fs (o,[]) g from rfl).trans (NU o ho g (by omega) hg h1).1
theorem FU(ho:o < 8)(hg:g<=o)(h1:1<=g):r∈sts o g↔Stg o g r:=by
 have a:=uK o ho g (by omega) hg h1;have b:=(oC o ho g (by omega) hg h1).2;refine⟨a r,λ⟨l,q,p⟩=>?_⟩
 have e:r=(DF 0 o).filter λx=>decide (x∈r):=Im p ((MD 0 o).filter _) λx=>by
  rw[BM,B9,decide_eq_true_eq];exact⟨λh=>⟨⟨(q x h).1,by have:=(q x h).2;omega⟩,h⟩,λh=>h.2⟩
 have:=b _ (Nx (λx=>decide (x∈r)) (DF 0 o)) (by rw[<-e];exact l);rwa [<-e]at this
theorem fv(ho:o < 8)(hg:g<=o)(h1:1<=g):(sts o g).Nodup:=by
 have a:=(oC o ho g (by omega) hg h1).1
 exact a.imp λ{a b} ab e=>by
  subst e;rw[Yd]at ab;cases ab
end
theorem V0(h:ev[i]?=some r):(DG ev).take (i+1)=(DG ev).take i++[((i:Int),r)]:=by
 rw[Hx]
 congr 1
 unfold DG;rw[AZ,En,h];simp
theorem uk{ev:List (List Int)}(hn:ev.Nodup){i:Nat}{r:List Int}(h:ev[i]?=some r):Aj (nuF ev) r=some (i:Int):=by
 have key:∀k:Nat,k<=ev.length->∀(j:Nat) (s:List Int),j < k->ev[j]?=some s->Aj (((DG ev).take k).foldl nuS []) s=some (j:Int):=by
  intro k
  induction k with
  | zero=>intro _ j s hj;exact zX hj (OF _)
  | succ k ih=>
   intro hk j s hj hs;have wI:ev[k]?=some (ev[k]'(by omega)):=Af (by omega);rw[V0 wI,Hy];show Aj (CJ _ _ _) s=_;rw[Cc]
   by_cases e:j=k
   ·subst e
    rw[wI]at hs;cases hs;rw[qX rfl]
   ·rw[qY,ih (by omega) j s (by omega) hs]
    intro c;obtain⟨yf,e2⟩:=AD.mp hs;rw[<-e2]at c;exact WI.mp hn j k yf (by omega) (by omega) c
 have:=key ev.length (AO _) i r (AD.mp h).1 h;rwa [Hw (by unfold DG;simp)]at this
def Hb(H:List Int)(n:Nat)(P:Nat->Nat->Prop):Prop:=H.length=n/\∀p:Nat,p < n->∃h:Nat,H[p]?=some (h:Int)/\∀j,h.testBit j=true↔P p j
theorem ia{n k:Nat}:∀(r:List Int) {H:List Int} {P:Nat->Nat->Prop},(∀x∈r,0<=x/\x < (n:Int))->Hb H n P->Hb (r.foldl (hvP (k:Int)) H) n (λp j=>P p j∨((p:Int)∈r/\j=k))
 | [],H,P,_,h=>⟨h.1,λp hp=>by
  obtain⟨b,h1,h2⟩:=h.2 p hp
  exact⟨b,h1,λj=>by rw[h2];simp⟩⟩
 | x :: r,H,P,hr,h=>by
  obtain⟨x0,x1⟩:=hr x (AV ..)
  have h1:Hb (hvP (k:Int) H x) n (λp j=>P p j∨((p:Int)=x/\j=k)):=by
   refine⟨by unfold hvP;rw[D3];exact h.1,λp hp=>?_⟩;obtain⟨b,b1,b2⟩:=h.2 p hp;unfold hvP;rw[Dx]
   by_cases c:x.toNat=p
   ·rw[qX c,qX (by rw[h.1];omega)]
    refine⟨b ||| 2 ^ k,?_,λj=>?_⟩
    ·rw[EN,c,b1,RJ,An,show(1:Int) * 2 ^ k=((2 ^ k:Nat):Int) by rw[cR];norm_cast,Wz]
    ·rw[WH,Jc,b2,KI]
     rw[decide_eq_true_eq]
     have:(p:Int)=x:=by omega
     exact or_congr_right ⟨λe=>⟨this,e.symm⟩,λe=>e.2.symm⟩
   ·rw[qY c]
    refine⟨b,b1,λj=>?_⟩;rw[b2]
    have:¬(p:Int)=x:=by omega
    exact⟨.inl,λz=>z.elim id λz=>zX z.1 this⟩
  have h2:=ia (k:=k) r (λy hy=>hr y (AS _ hy)) h1;refine⟨h2.1,λp hp=>?_⟩;obtain⟨b,b1,b2⟩:=h2.2 p hp;refine⟨b,b1,λj=>(b2 j).trans ?_⟩;dsimp only;rw[Ae]
  constructor
  ·rintro((a | ⟨a,e⟩) | ⟨a,e⟩)
   ·exact .inl a
   ·exact .inr ⟨.inl a,e⟩
   ·exact .inr ⟨.inr a,e⟩
  ·rintro(a | ⟨a | a,e⟩)
   ·exact .inl (.inl a)
   ·exact .inl (.inr ⟨a,e⟩)
   ·exact .inr ⟨a,e⟩
theorem vD{n:Nat}{ev:List (List Int)}(hr:∀r∈ev,∀x∈r,0<=x/\x < (n:Int)):Hb (hvF n ev) n (λp j=>∃r,ev[j]?=some r/\(p:Int)∈r):=by
 have key:∀k:Nat,k<=ev.length->Hb (((DG ev).take k).foldl hvS (hv0 n)) n (λp j=>j < k/\∃r,ev[j]?=some r/\(p:Int)∈r):=by
  intro k
  induction k with
  | zero=>
   intro _;refine⟨by unfold hv0;rw[nj,VY,AF,Bo],λp hp=>⟨0,?_,λj=>by simp⟩⟩;unfold hv0;rw[nj,VY,AZ,Af (by rw[Bo];exact hp)];rfl
  | succ k ih=>
   intro hk;have wI:ev[k]?=some (ev[k]'(by omega)):=Af (by omega);rw[V0 wI,Hy];have h1:=ia (k:=k) ev[k] (hr _ (Df _)) (ih (by omega));refine⟨h1.1,λp hp=>?_⟩;obtain⟨b,b1,b2⟩:=h1.2 p hp;refine⟨b,b1,λj=>(b2 j).trans ?_⟩
   constructor
   ·rintro(⟨a,q⟩ | ⟨a,rfl⟩)
    ·exact⟨by omega,q⟩
    ·exact⟨by omega,_,wI,a⟩
   ·rintro⟨a,r,q1,q2⟩
    by_cases e:j=k
    ·subst e
     rw[wI]at q1;cases q1;exact .inr ⟨q2,rfl⟩
    ·exact .inl ⟨by omega,r,q1,q2⟩
 have:=key ev.length (AO _);rw[Hw (by unfold DG;simp)]at this;refine⟨this.1,λp hp=>?_⟩;obtain⟨b,b1,b2⟩:=this.2 p hp;refine⟨b,b1,λj=>(b2 j).trans ?_⟩;exact⟨λh=>h.2,λ⟨r,h1,h2⟩=>⟨(AD.mp h1).1,r,h1,h2⟩⟩
theorem Ik(h:l.Nodup):(CF l).Pairwise (· < ·):=(VZ (NW l) ((Dv l).nodup_iff.mpr h)).imp λ⟨a,b⟩=>by omega
theorem LU{s:List Int}(h:s.Pairwise (· < ·)):s.Nodup:=h.imp λh=>by omega
def wst(r:List Int)(a b:Int):List Int:=r.map λx=>if x=a then b else x
theorem tt(hl:r.length<=1000)(a b:Int):Kb r a b=some (wst r a b):=by
 unfold Kb KY
 rw[EX (f:=λx=>if x=a then b else x) (by omega) λx _=>by
  by_cases c:x=a
  ·rw[wX c,qX rfl,qX c]
  ·rw[wY c,qY AK,qY c]]
 rfl
theorem IW(ha:a∈r):x∈wst r a b↔x=b∨(x∈r/\x≠a):=by
 unfold wst;rw[BD]
 constructor
 ·rintro⟨y,hy,rfl⟩
  split
  ·exact .inl rfl
  ·rename_i c;exact .inr ⟨hy,c⟩
 ·rintro(rfl | ⟨h,c⟩)
  ·exact⟨a,ha,qX rfl⟩
  ·exact⟨x,h,qY c⟩
theorem ZO(hn:r.Nodup)(hb:b∉r):(wst r a b).Nodup:=by
 unfold wst Iv;rw[Ca]
 refine hn.imp_of_mem λ{x y} hx hy ne=>?_
 split <;> split
 ·rename_i c d;exact zX (c.trans d.symm) ne
 ·intro e;exact hb (by rw[e];exact hy)
 ·intro e;exact hb (by rw[<-e];exact hx)
 ·exact ne
structure Fk(o g:Nat)(us:List (Int×Int))(kd:Str)(f:Fp):Prop where
 ev:f.ev=sts o g
 kd:f.kd=kd
 tk:f.tk=tkl o us
 nu:f.nu=nuF (sts o g)
 hv:f.hv=hvF o (sts o g)
 pl:f.pb.length=(sts o g).length
 pb:∀(i:Nat) (r:List Int),(sts o g)[i]?=some r->∃n:Nat,f.pb[i]?=some (n:Int)/\n < 128/\∀x:Int,0<=x->x < 7->(n.testBit x.toNat=true↔x∈r)
section
variable{o g:Nat}{us:List (Int×Int)}{kd:Str}{f:Fp}{r r':List Int}{i:Nat}
theorem bn(h:E9 o us)(hg:g<=o)(h1:1<=g):Ok (Kd (o,us) g kd) (Fk o g us kd):=by
 have sm:=h.sm
 have hb:∀r∈sts o g,∃n:Nat,G9 r=some (n:Int)/\n < 128/\∀x:Int,0<=x->x < 7->(n.testBit x.toNat=true↔x∈r):=λr hr=>by
  obtain⟨-,q,-⟩:=(FU sm hg h1).mp hr
  obtain⟨v,e,n,rfl,b1,b2⟩:=sO (l:=r) λx hx=>by have:=q x hx;omega
  exact⟨n,e,b1,λx x0 x7=>by rw[b2 x.toNat (by omega),As x0]⟩
 obtain⟨-,-,hl⟩:=NU o sm g (by omega) hg h1;unfold Kd;rw[ci sm hg h1,kf h];simp only[AC]
 rw[EX (f:=λr=>(G9 r).getD 0) (by omega) λr hr=>by
  obtain⟨n,e,-⟩:=hb r hr;rw[e]
  rfl]
 simp only[AC];rw[qX ⟨by omega,by show o<=1000;omega,λr hr x hx=>((FU sm hg h1).mp hr).2.1 x hx⟩];refine⟨_,rfl,rfl,rfl,rfl,rfl,rfl,AF _,λi r hr=>?_⟩;obtain⟨n,e,b1,b2⟩:=hb r (BB hr);refine⟨n,?_,b1,b2⟩;show((sts o g).map _)[i]?=_;rw[AZ,hr];show some ((G9 r).getD 0)=_;rw[e];rfl
def Lk1(us:List (Int×Int))(r r':List Int):Prop:=∃a∈r,∃b∈Tg us a,b∉r/\CF (wst r a b)=r'
def LkA(us:List (Int×Int))(r r':List Int):Prop:=∃s,InS us r (·∈r') s
theorem ao(h:E9 o us){a b:Int}(hr:Stg o g r)(ha:a∈r)(hb:b∈Tg us a)(ϫ:b∉r):Stg o g (CF (wst r a b)):=by
 obtain⟨l,q,p⟩:=hr;have qa:=q a ha;have qb:=(h.tg qa.1 qa.2).2.1 b hb;refine⟨by rw[(Dv _).length_eq];unfold wst;rw[AF];exact l,λx hx=>?_,Ik (ZO (LU p) ϫ)⟩
 rcases(IW ha).mp (Bz.mp hx)with rfl | ⟨h,_⟩
 ·exact qb
 ·exact q x h
theorem QE(h:l[i]?=some x):atI l (i:Int)=some x:=KB (by omega) (by rw[An];exact h)
theorem jO{b n:Nat}{P:Nat->Prop}(hb:∀j,b.testBit j=true↔P j)(j:Nat):(b ||| 2 ^ n).testBit j=true↔P j∨n=j:=by
 rw[WH,Jc,hb,KI,decide_eq_true_eq]
theorem OM{n:Nat}(h:n<=1000000):Ox 1 (n:Int)=some ((2 ^ n:Nat):Int):=by
 unfold Ox;rw[qX ⟨by omega,by omega,by decide⟩,An,cR]
 norm_cast
theorem uh(h:E9 o us)(hg:g<=o)(h1:1<=g)(F:Fk o g us kd f)(hr:(sts o g)[i]?=some r):Ok (EJ f i) λv=>∃l:Nat,v=l/\∀j,l.testBit j=true↔∃r',(sts o g)[j]?=some r'/\Lk1 us r r':=by
 have sm:=h.sm;have hS:=(FU sm hg h1).mp (BB hr);obtain⟨-,-,hl⟩:=NU o sm g (by omega) hg h1;unfold EJ EG;rw[F.ev,QE hr];simp only[AC,BQ];refine OkF.out (OkF.seq (OkF.for (λpre (s:Int)=>∃l:Nat,s=l/\∀j,l.testBit j=true↔∃r',(sts o g)[j]?=some r'/\∃a∈pre,∃b∈Tg us a,b∉r/\CF (wst r a b)=r') ⟨0,rfl,λj=>by simp⟩ ?_) ?_)
 ·rintro pre a s ha hp ⟨l,rfl,hl1⟩
  have qa:=hS.2.1 a ha;rw[F.tk,ff qa.1 qa.2];simp only[AC];refine OkF.map (N:=λs:Int=>∃l:Nat,s=l/\∀j,l.testBit j=true↔∃r',(sts o g)[j]?=some r'/\((∃a∈pre,∃b∈Tg us a,b∉r/\CF (wst r a b)=r')∨∃b∈Tg us a,b∉r/\CF (wst r a b)=r')) (OkF.for (λwW (s:Int)=>∃l:Nat,s=l/\∀j,l.testBit j=true↔∃r',(sts o g)[j]?=some r'/\((∃a∈pre,∃b∈Tg us a,b∉r/\CF (wst r a b)=r')∨∃b∈wW,b∉r/\CF (wst r a b)=r')) ⟨l,rfl,λj=>by rw[hl1];simp⟩ ?_) ?_
  ·rintro wW b s hb xQ ⟨l,rfl,xC⟩
   by_cases c:b∈r
   ·rw[wX c]
    refine .nx ⟨l,rfl,λj=>(xC j).trans ⟨λ⟨r',e,z⟩=>⟨r',e,z.imp id λ⟨b,hb,z⟩=>⟨b,BN _ hb,z⟩⟩,λ⟨r',e,z⟩=>⟨r',e,z.imp id λ⟨b',wc,z⟩=>?_⟩⟩⟩
    rcases Ax.mp wc with q | q
    ·exact⟨b',q,z⟩
    ·rw[AU.mp q]at z
     exact zX c z.1
   ·rw[wY c]
    have hw:=ao h hS ha hb c;obtain⟨k,hk,ek⟩:=CW ((FU sm hg h1).mpr hw)
    have ek':(sts o g)[k]?=some (CF (wst r a b)):=by rw[Af hk,ek]
    simp only[ny,if_true];rw[tt (by rw[hS.1];omega)];simp only[AC];rw[P9 (by unfold wst;rw[AF,hS.1];omega)];simp only[AC];rw[F.nu,uk (fv sm hg h1) ek'];simp only[AC];rw[OM (by omega)];simp only[AC];rw[Wz];refine .nx ⟨_,rfl,λj=>(jO xC j).trans ⟨?_,?_⟩⟩
    ·rintro(⟨r',e,z⟩ | rfl)
     ·exact⟨r',e,z.imp id λ⟨b,hb,z⟩=>⟨b,BN _ hb,z⟩⟩
     ·exact⟨_,ek',.inr ⟨b,by simp,c,rfl⟩⟩
    ·rintro⟨r',e,z | ⟨b',wc,z1,z2⟩⟩
     ·exact .inl ⟨r',e,.inl z⟩
     ·rcases Ax.mp wc with q | q
      ·exact .inl ⟨r',e,.inr ⟨b',q,z1,z2⟩⟩
      ·right
       rw[AU.mp q]at z2;rw[<-z2,<-ek']at e;exact(List.getElem?_inj hk (fv sm hg h1)).mp e.symm
  ·rintro s ⟨l,rfl,xC⟩
   refine⟨l,rfl,λj=>(xC j).trans ⟨λ⟨r',e,z⟩=>⟨r',e,?_⟩,λ⟨r',e,a',ϐ,z⟩=>⟨r',e,?_⟩⟩⟩
   ·rcases z with⟨a',ϐ,z⟩ | z
    ·exact⟨a',BN _ ϐ,z⟩
    ·exact⟨a,by simp,z⟩
   ·rcases Ax.mp ϐ with q | q
    ·exact .inl ⟨a',q,z⟩
    ·rw[AU.mp q]at z
     exact .inr z
 ·rintro s ⟨l,rfl,hl1⟩
  exact .rt ⟨l,rfl,hl1⟩
theorem V1{α:Type}{ev:List α}{pre:List (Int×α)}{x:Int×α}(h:pre++[x] <+: DG ev):∃r,ev[pre.length]?=some r/\x=((pre.length:Int),r):=by
 obtain⟨t,ht⟩:=h
 have hx:(DG ev)[pre.length]?=some x:=by rw[<-ht,Dz];simp
 unfold DG at hx;rw[AZ,En]at hx
 cases hr:ev[pre.length]? with
 | none=>rw[hr]at hx;cases hx
 | some r=>rw[hr]at hx;exact⟨r,rfl,by have:=Bw hx;rw[<-this];simp⟩
theorem vT(h:E9 o us)(hg:g<=o)(h1:1<=g)(F:Fk o g us kd f)(hr:(sts o g)[i]?=some r):Ok (EK f i) λv=>∃l:Nat,v=l/\∀j,l.testBit j=true↔∃r',(sts o g)[j]?=some r'/\LkA us r r':=by
 have sm:=h.sm;have hS:=(FU sm hg h1).mp (BB hr);obtain⟨-,-,hl⟩:=NU o sm g (by omega) hg h1;unfold EK EI;rw[F.ev,QE hr];simp only[AC,BQ];refine OkF.out (OkF.seq (OkF.for (λpre (s:Int)=>∃l:Nat,s=l/\∀j,l.testBit j=true↔j < pre.length/\∃r',(sts o g)[j]?=some r'/\LkA us r r') ⟨0,rfl,λj=>by simp⟩ ?_) ?_)
 ·rintro pre x s hx hp ⟨l,rfl,hl1⟩
  obtain⟨n',e1,rfl⟩:=V1 hp
  have wo:pre.length < (sts o g).length:=by rw[<-F.pl];exact(AD.mp e1).1
  have er:(sts o g)[pre.length]?=some ((sts o g)[pre.length]):=Af wo;generalize (sts o g)[pre.length]=r' at er;have yR:=(FU sm hg h1).mp (BB er);obtain⟨n,e2,n1,n2⟩:=F.pb _ _ er;rw[e1]at e2;cases e2;obtain⟨b,eb,hb⟩:=iz h n1 (rest:=r) hS.2.1 (LU hS.2.2);rw[F.tk];dsimp only;rw[eb];simp only[AC]
  have wc:b=true↔LkA us r r':=by
   rw[hb]
   refine exists_congr λs=>⟨λq=>q.imp λx hx=>?_,λq=>?_⟩
   ·intro z
    have:=InS.rg h hS.2.1 q x hx;exact(n2 x this.1 (by omega)).mp z
   ·refine q.imp λx _ z=>?_
    have:=yR.2.1 x z;exact(n2 x this.1 (by omega)).mpr z
  have up:∀j,(j < (pre++[((pre.length:Int),(n:Int))]).length/\∃r',(sts o g)[j]?=some r'/\LkA us r r')↔(j < pre.length/\∃r',(sts o g)[j]?=some r'/\LkA us r r')∨(pre.length=j/\LkA us r r'):=λj=>by
   rw[AY,Ai]
   constructor
   ·rintro⟨a,s,q1,q2⟩
    by_cases e:pre.length=j
    ·subst e
     rw[er]at q1;cases q1;exact .inr ⟨rfl,q2⟩
    ·exact .inl ⟨by omega,s,q1,q2⟩
   ·rintro(⟨a,q⟩ | ⟨rfl,q⟩)
    ·exact⟨by omega,q⟩
    ·exact⟨by omega,r',er,q⟩
  cases b with
  | true=>
   have hL:=wc.mp rfl;rw[qX rfl,OM (by omega)];simp only[AC];rw[Wz];exact .nx ⟨_,rfl,λj=>(jO hl1 j).trans (Iff.trans ⟨λz=>z.imp id λe=>⟨e,hL⟩,λz=>z.imp id λe=>e.1⟩ (up j).symm)⟩
  | false=>
   have hL:¬LkA us r r':=λz=>by cases wc.mpr z
   exact .nx ⟨l,rfl,λj=>(hl1 j).trans (Iff.trans ⟨.inl,λz=>z.elim id λe=>zX e.2 hL⟩ (up j).symm)⟩
 ·rintro s ⟨l,rfl,hl1⟩
  refine .rt ⟨l,rfl,λj=>(hl1 j).trans ⟨λz=>z.2,λ⟨r',e,z⟩=>⟨?_,r',e,z⟩⟩⟩;rw[show(DG f.pb).length=f.pb.length by unfold DG;simp,F.pl];exact(AD.mp e).1
def Lk(kd:Str)(us:List (Int×Int))(r r':List Int):Prop:=if kd = "one" then Lk1 us r r' else LkA us r r'
theorem iM(h:E9 o us)(hg:g<=o)(h1:1<=g)(F:Fk o g us kd f)(hr:(sts o g)[i]?=some r):Ok (Fv f i) λv=>∃l:Nat,v=l/\∀j,l.testBit j=true↔∃r',(sts o g)[j]?=some r'/\Lk kd us r r':=by
 have sm:=h.sm;obtain⟨-,-,hl⟩:=NU o sm g (by omega) hg h1;have hi:=(AD.mp hr).1;unfold Fv MN;rw[qX ⟨by omega,by omega⟩,F.kd]
 by_cases c:kd = "one"
 ·rw[wX c,qX rfl,show Lk kd us r=Lk1 us r from funext λ_=>qX c]
  exact uh h hg h1 F hr
 ·rw[wY c,qY AK,show Lk kd us r=LkA us r from funext λ_=>qY c]
  exact vT h hg h1 F hr
theorem jR(h:E9 o us)(hg:g<=o)(h1:1<=g)(F:Fk o g us kd f)(hr:(sts o g)[i]?=some r){c:Int}(hc:0<=c/\c < o):Ok (Ev f i c) λv=>∃l:Nat,v=l/\∀j,l.testBit j=true↔∃r',(sts o g)[j]?=some r'/\Lk kd us r r'/\c∈r':=by
 obtain⟨v,e,l,rfl,hl⟩:=iM h hg h1 F hr
 obtain⟨-,hv⟩:=vD (n:=o) (ev:=sts o g) λr hr x hx=>((FU h.sm hg h1).mp hr).2.1 x hx
 obtain⟨b,b1,b2⟩:=hv c.toNat (by omega);unfold Ev HW;dsimp only;rw[e,F.hv,KB hc.1 b1];simp only[AC];rw[QG];refine⟨_,rfl,_,rfl,λj=>?_⟩;rw[HH,CU,hl,b2];dsimp only;rw[As hc.1];exact⟨λ⟨⟨r',e1,q1⟩,r'',e2,q2⟩=>by rw[e1]at e2;cases e2;exact⟨r',e1,q1,q2⟩,λ⟨r',e1,q1,q2⟩=>⟨⟨r',e1,q1⟩,r',e1,q2⟩⟩
theorem nF(h:E9 o us)(F:Fk o g us kd f)(hr:(sts o g)[i]?=some r):FF f i=some ((DF 0 o).filter λc=>!decide (c∈r)):=by
 have sm:=h.sm;unfold FF Ic;rw[F.ev,QE hr,F.tk,show(tkl o us).length=o by unfold tkl;rw[AF,Bo]];simp only[AC,BQ];rw[MF (by omega) (by omega),An];simp only[AC];rw[PD (P:=λc=>!decide (c∈r)) (by rw[Bo];omega) λ_ _=>rfl];rfl
end
open PySem L2 L4
structure Dl(f:Fp)(N:Nat)(cl:Nat->List Int)(B:Nat->Int->Nat->Prop):Prop where
 ln:f.ev.length=N
 sm:N<=400
 cs:∀n,n < N->FF f n=some (cl n)/\(cl n).length<=1000/\(cl n).Pairwise (· < ·)
 bh:∀n,n < N->∀c∈cl n,Ok (Ev f n c) λv=>∃l:Nat,v=l/\∀j,l.testBit j=true↔B n c j
 rg:∀n c j,B n c j->j < N
abbrev TL:=List (Int×(Int×Int))
structure Fa(N:Nat)(cl:Nat->List Int)(B:Nat->Int->Nat->Prop)(T:TL):Prop where
 nd:(T.map (·.1)).Nodup
 rg:∀n∈T.map (·.1),0<=n/\n < (N:Int)
 ok:∀(m:Nat) z,Aj T (m:Int)=some z->1<=z.1/\z.2∈cl m/\(∀j,B m z.2 j->∃y,Aj T (j:Int)=some y/\y.1 < z.1)/\(∀c∈cl m,c < z.2->∃j,B m c j/\∀y,Aj T (j:Int)=some y->z.1<=y.1)/\(2<=z.1->∀c∈cl m,∃j,B m c j/\∀y,Aj T (j:Int)=some y->z.1<=y.1+1)
 no:∀m:Nat,m < N->Aj T (m:Int)=none->∀c∈cl m,∃j,B m c j/\Aj T (j:Int)=none
 hi:∀(m:Nat) z,Aj T (m:Int)=some z->z.1<=N
section
variable{f:Fp}{N:Nat}{cl:Nat->List Int}{B:Nat->Int->Nat->Prop}{b:Nat}
def SB(B:Nat->Int->Nat->Prop)(b m:Nat)(c:Int):Prop:=∀j,B m c j->b.testBit j=false
def Fst(cl:Nat->List Int)(B:Nat->Int->Nat->Prop)(b m:Nat)(c:Int):Prop:=c∈cl m/\SB B b m c/\∀c'∈cl m,c' < c->¬SB B b m c'
theorem Tx(h:¬SB B b m c):∃j,B m c j/\b.testBit j=true:=DR λz=>h λj hj=>by
 cases hb:b.testBit j with
 | false=>rfl
 | true=>exact zX ⟨j,hj,hb⟩ z
theorem jV:(a &&& b)=0↔∀j,a.testBit j=true->b.testBit j=false:=by
 constructor
 ·intro h j hj
  have:vx (a &&& b) j=vx 0 j:=by rw[h]
  rw[HH,hj,Bool.true_and,Si]at this;exact this
 ·intro h
  refine Nat.eq_of_testBit_eq λj=>?_
  rw[HH,Si]
  cases ha:a.testBit j with
  | false=>rfl
  | true=>rw[h j ha];rfl
def FN(cl:Nat->List Int)(B:Nat->Int->Nat->Prop)(b:Nat)(K:List (Int×Int)):Prop:=(K.map (·.1)).Nodup/\(∀n∈K.map (·.1),0<=n/\b.testBit n.toNat=true)/\∀(m:Nat) c,Aj K (m:Int)=some c↔b.testBit m=true/\Fst cl B b m c
theorem XW(hb:b < 2 ^ N)(h:b.testBit i=true):i < N:=jq λhle=>by
 have h0:b.testBit i=false:=ZJ (AT hb (cL (by decide) hle));rw[h0]at h;cases h
theorem P3{α:Type}{K:List (Int×α)}(h1:(K.map (·.1)).Nodup)(h2:∀n∈K.map (·.1),0<=n/\n < (N:Int)):K.length<=N:=by
 have:=HZ (k:=DF 0 N) h1 λx hx=>by rw[B9];have:=h2 x hx;omega
 rwa [Bo,AF]at this
open Classical in
theorem Vz(D:Dl f N cl B)(hb:b < 2 ^ N):Ok (Ej f (b:Int)) (FN cl B b):=by
 obtain⟨l,e,lu,lm⟩:=OQ hb (by have:=D.sm;omega)
 have hlN:∀x∈l,0<=x/\x < (N:Int):=λx hx=>by
  obtain⟨x0,hx⟩:=(lm x).mp hx;have:=XW hb hx;omega
 unfold Ej Ib;rw[e];simp only[AC,BQ];refine OkF.out (OkF.seq (OkF.for (λpre (s:List (Int×Int))=>(s.map (·.1)).Nodup/\(∀n∈s.map (·.1),n∈pre)/\∀(m:Nat) c,Aj s (m:Int)=some c↔(m:Int)∈pre/\Fst cl B b m c) ⟨by simp,λ_ h=>h,λm c=>⟨λh=>(nomatch h),λh=>(nomatch h.1)⟩⟩ ?_) ?_)
 ·rintro pre x s hx hp ⟨s1,s2,s3⟩
  obtain⟨x0,hxb⟩:=(lm x).mp hx
  obtain⟨m,rfl⟩:∃m:Nat,x=m:=⟨x.toNat,by omega⟩
  rw[An]at hxb;have hm:=XW hb hxb;obtain⟨c1,c2,c3⟩:=D.cs m hm
  have hxp:(m:Int)∉pre:=by
   have:=lu.sublist hp.sublist;rw[GZ]at this;intro z;have:=this.2.2 _ z _ (Xs _);omega
  rw[c1];simp only[AC]
  rw[PD (P:=λc=>decide (SB B b m c)) (by omega) λc hc=>by
   obtain⟨v,e1,q,rfl,hq⟩:=D.bh m hm c hc;rw[e1];simp only[AC];rw[QG]
   congr 1
   refine decide_eq_decide.mpr ?_;rw[show((q &&& b:Nat):Int)=0↔(q &&& b)=0 by omega,jV]
   exact forall_congr' λj=>imp_congr_left (hq j)]
  simp only[AC,BQ]
  have fl:∀c,c∈(cl m).filter (λc=>decide (SB B b m c))↔c∈cl m/\SB B b m c:=λc=>by rw[BM,decide_eq_true_eq]
  have fu:((cl m).filter λc=>decide (SB B b m c)).Pairwise (· < ·):=c3.filter _;generalize (cl m).filter (λc=>decide (SB B b m c))=lost at fl fu
  cases lost with
  | nil=>
   have nf:∀c,¬Fst cl B b m c:=λc ⟨h1,h2,_⟩=>nomatch (fl c).mpr ⟨h1,h2⟩
   refine .nx ⟨s1,λn hn=>BN _ (s2 n hn),λk c=>(s3 k c).trans ⟨λ⟨a,q⟩=>⟨BN _ a,q⟩,λ⟨a,q⟩=>⟨?_,q⟩⟩⟩
   rcases Ax.mp a with a | a
   ·exact a
   ·have e:k=m:=by have:=AU.mp a;omega
    subst e;exact zX q (nf c)
  | cons c0 lost=>
   have f0:Fst cl B b m c0:=by
    obtain⟨h1,h2⟩:=(fl c0).mp (AV ..);refine⟨h1,h2,λc' h3 h4 h5=>?_⟩
    rcases Ae.mp ((fl c').mpr ⟨h3,h5⟩)with h | h
    ·omega
    ·have:=(QI.mp fu).1 c' h;omega
   have f1:∀c,Fst cl B b m c↔c=c0:=λc=>⟨λ⟨h1,h2,h3⟩=>by
    rcases Int.lt_trichotomy c c0 with h | h | h
    ·exact zX h2 (f0.2.2 c h1 h)
    ·exact h
    ·exact zX f0.2.1 (h3 c0 f0.1 h),λh=>by rw[h];exact f0⟩
   have hsl:s.length<=N:=P3 s1 λn hn=>hlN n ((Xj pre [(m:Int)]).trans hp.sublist |>.subset (s2 n hn))
   have hN:=D.sm;rw[show(!(c0 :: lost).isEmpty)=true from rfl,qX rfl,show atI (c0 :: lost) 0=some c0 from KB (by decide) rfl];simp only[AC];rw[show KN s (m:Int) c0=some (CJ s (m:Int) c0)from qX (by omega)];refine .nx ⟨?_,λn hn=>?_,λk c=>?_⟩
   ·rw[Hd]
    split
    ·exact s1
    ·rename_i hk
     exact Em.mpr ⟨s1,by simp,λy hy z hz=>by rw[AU.mp hz];intro e;subst e;exact hk hy⟩
   ·rw[Hd]at hn
    split at hn
    ·exact BN _ (s2 n hn)
    ·rcases Ax.mp hn with h | h
     ·exact BN _ (s2 n h)
     ·exact BV _ h
   ·rw[Cc]
    by_cases e:(k:Int)=m
    ·have e':k=m:=by omega
     subst e';rw[qX rfl,f1];exact⟨λh=>⟨by simp,(Bw h).symm⟩,λh=>by rw[h.2]⟩
    ·rw[qY e,s3]
     refine and_congr_left λ_=>⟨BN _,λh=>?_⟩
     rcases Ax.mp h with h | h
     ·exact h
     ·exact zX (AU.mp h) e
 ·rintro s ⟨s1,s2,s3⟩
  refine .rt ⟨s1,λn hn=>(lm n).mp (s2 n hn),λm c=>(s3 m c).trans (and_congr_left λ_=>?_)⟩;rw[lm];exact⟨λh=>by rw[An]at h;exact h.2,λh=>⟨by omega,by rw[An];exact h⟩⟩
structure Rnd(N:Nat)(cl:Nat->List Int)(B:Nat->Int->Nat->Prop)(s:TL×Int×Int×List (Int×Int))(b:Nat):Prop where
 lf:s.2.1=b
 lt:b < 2 ^ N
 bt:∀j,b.testBit j=true↔j < N/\Aj s.1 (j:Int)=none
 st:1<=s.2.2.1
 nd:(s.1.map (·.1)).Nodup
 rg:∀n∈s.1.map (·.1),0<=n/\n < (N:Int)
 ok:∀(m:Nat) z,Aj s.1 (m:Int)=some z->z.1 < s.2.2.1/\1<=z.1/\z.2∈cl m/\(∀j,B m z.2 j->∃y,Aj s.1 (j:Int)=some y/\y.1 < z.1)/\(∀c∈cl m,c < z.2->∃j,B m c j/\∀y,Aj s.1 (j:Int)=some y->z.1<=y.1)/\(2<=z.1->∀c∈cl m,∃j,B m c j/\∀y,Aj s.1 (j:Int)=some y->z.1<=y.1+1)
 mn:2<=s.2.2.1->∀m:Nat,m < N->Aj s.1 (m:Int)=none->∀c∈cl m,∃j,B m c j/\∀y,Aj s.1 (j:Int)=some y->s.2.2.1<=y.1+1
 fn:FN cl B b s.2.2.2
 sl:s.2.2.1<=s.1.length+1
theorem Ye{l:List Int}{P:Int->Prop}(h:∃c∈l,P c):∃c∈l,P c/\∀c'∈l,c' < c->¬P c':=by
 induction l with
 | nil=>obtain⟨c,h,_⟩:=h;cases h
 | cons x l ih=>
  by_cases hl:∃c∈l,P c
  ·obtain⟨c,h1,h2,h3⟩:=ih hl
   by_cases hx:P x/\x < c
   ·exact⟨x,AV ..,hx.1,λc' h4 h5 h6=>by
     rcases Ae.mp h4 with h | h
     ·omega
     ·exact h3 c' h (by omega) h6⟩
   ·exact⟨c,AS _ h1,h2,λc' h4 h5 h6=>by
     rcases Ae.mp h4 with h | h
     ·exact hx ⟨by rw[<-h];exact h6,by omega⟩
     ·exact h3 c' h h5 h6⟩
  ·obtain⟨c,h1,h2⟩:=h
   rcases Ae.mp h1 with h | h
   ·subst h
    exact⟨c,AV ..,h2,λc' h4 h5 h6=>by
     rcases Ae.mp h4 with h | h
     ·omega
     ·exact hl ⟨c',h,h6⟩⟩
   ·exact zX ⟨c,h,h2⟩ hl
theorem lA(D:Dl f N cl B)(h:Rnd N cl B s b)(wg:s.2.2.2≠[]) :
  ∃s' b',BH (Eg (s.2.2.2.map (·.1)) (s.1,s.2.1) λ(xn:TL×Int) wL=>BH (((Aj s.2.2.2 wL).bind λwH=>some (s.2.2.1,wH)).bind λym=>(KN xn.1 wL ym).bind λyP=>some (.nx yP)) λzf=>Ew (λzg=>(zf,zg)) ((Ox (1:Int) wL).bind λyn=>some (.nx (CC xn.2 yn)))) (λy8=>BH (some (.nx (s.2.2.1+(1:Int)))) λJ'=>Ew (λyy=>(y8.1,y8.2,J',yy)) ((Ej f y8.2).bind λyQ=>some (.nx yQ)))=some (.nx (ρ:=TL) s')/\Rnd N cl B s' b'/\s.1.length < s'.1.length:=by
 obtain⟨T,left,wC,K⟩:=s;obtain⟨lf,lt,bt,st,nd,rg,ok,mn,fn,sl⟩:=h;dsimp only at lf bt st nd rg ok mn fn wg sl ⊢;subst lf;have hN:=D.sm;obtain⟨k1,k2,k3⟩:=fn
 have kN:∀n∈K.map (·.1),0<=n/\n < (N:Int):=λn hn=>by
  obtain⟨a,q⟩:=k2 n hn;have:=XW lt q;omega
 have kT:∀n∈K.map (·.1),Aj T n=none:=λn hn=>by
  obtain⟨a,q⟩:=k2 n hn;have:=((bt _).mp q).2;rwa [As a]at this
 obtain⟨⟨T',left'⟩,e,t1,t2,t3,b',rfl,b1,b2⟩:=mq (ρ:=TL) (l:=K.map (·.1)) (s0:=(T,(b:Int))) (q:=λ(xn:TL×Int) wL=>BH (((Aj K wL).bind λwH=>some (wC,wH)).bind λym=>(KN xn.1 wL ym).bind λyP=>some (.nx yP)) λzf=>Ew (λzg=>(zf,zg)) ((Ox (1:Int) wL).bind λyn=>some (.nx (CC xn.2 yn))))
  (λpre s=>(s.1.map (·.1)).Nodup/\(∀n∈s.1.map (·.1),0<=n/\n < (N:Int))/\(∀n,Aj s.1 n=if n∈pre then(Aj K n).map λc=>(wC,c)else Aj T n)/\∃b':Nat,s.2=b'/\b' < 2 ^ N/\∀j:Nat,b'.testBit j=true↔b.testBit j=true/\(j:Int)∉pre)
  ⟨nd,rg,λn=>by simp,b,rfl,lt,λj=>by simp⟩ (by
   rintro pre x ⟨T',left'⟩ hx hp ⟨t1,t2,t3,b',rfl,b1,b2⟩;dsimp only at t1 t2 t3 ⊢;obtain⟨x0,xN⟩:=kN x hx;obtain⟨-,xb⟩:=k2 x hx
   have xp:x∉pre:=by
    have:=k1.sublist hp.sublist;unfold Iv at this;rw[GZ]at this
    exact λz=>this.2.2 _ z _ (Xs _) rfl
   obtain⟨c,hc⟩:=Cv.mp ((DB K x).mpr hx);have hl:=P3 t1 t2;rw[hc];simp only[AC];rw[show KN T' x (wC,c)=some (CJ T' x (wC,c))from qX (by omega)];simp only[AC,BQ];rw[show x=((x.toNat:Nat):Int) by omega,OM (by omega)];simp only[AC];rw[ak,<-show x=((x.toNat:Nat):Int) by omega];refine⟨_,rfl,?_,λn hn=>?_,λn=>?_,_,rfl,Nat.xor_lt_two_pow b1 (Nat.pow_lt_pow_right (by decide) (by omega)),λj=>?_⟩
   ·rw[Hd]
    split
    ·exact t1
    ·rename_i hk
     exact Em.mpr ⟨t1,by simp,λy hy z hz=>by rw[AU.mp hz];intro e;subst e;exact hk hy⟩
   ·rw[Hd]at hn
    split at hn
    ·exact t2 n hn
    ·rcases Ax.mp hn with h | h
     ·exact t2 n h
     ·rw[AU.mp h];exact⟨x0,xN⟩
   ·rw[Cc]
    by_cases e:n=x
    ·subst e
     rw[qX rfl,qX (by simp),hc];rfl
    ·rw[qY e,t3]
     have:n∈pre++[x]↔n∈pre:=by rw[Ax,AU];exact⟨λz=>z.elim id λz=>zX z e,.inl⟩
     simp only[this]
   ·rw[Nat.testBit_xor,KI,bne_iff_ne,ne_eq,Ax,AU]
    have wc:=b2 j
    by_cases e:x.toNat=j
    ·subst e
     rw[wX rfl];have:b'.testBit x.toNat=true:=(b2 _).mpr ⟨xb,by rw[As x0];exact xp⟩;rw[this];refine⟨λz=>zX rfl z,λz=>zX (.inr (by omega)) z.2⟩
    ·rw[wY e]
     have:¬(j:Int)=x:=by omega
     rw[eu,wc]
     exact and_congr_right λ_=>⟨λz q=>q.elim z this,λz q=>z (.inl q)⟩)
 rw[e];simp only[BQ];dsimp only at t1 t2 t3;obtain⟨K',eK,hK⟩:=Vz D b1;rw[eK]
 have tv:∀n,Aj T' n=match Aj K n with | some c=>some (wC,c) | none=>Aj T n:=λn=>by
  rw[t3]
  by_cases h:n∈K.map (·.1)
  ·rw[qX h]
   obtain⟨c,hc⟩:=Cv.mp ((DB K n).mpr h);rw[hc];rfl
  ·rw[qY h]
   cases hc:Aj K n with
   | none=>rfl
   | some c=>exact zX ((DB K n).mp (by rw[hc];rfl)) h
 have told:∀n z,Aj T n=some z->Aj T' n=some z:=λn z hz=>by
  rw[tv]
  cases hc:Aj K n with
  | none=>exact hz
  | some c=>
   have:=kT n ((DB K n).mp (by rw[hc];rfl));rw[this]at hz;cases hz
 have yo:∀n z,Aj T' n=some z->Aj T n=some z∨(Aj T n=none/\z.1=wC):=λn z hz=>by
  rw[tv]at hz
  cases hc:Aj K n with
  | none=>rw[hc]at hz;exact .inl hz
  | some c=>
   rw[hc]at hz;cases hz;exact .inr ⟨kT n ((DB K n).mp (by rw[hc];rfl)),rfl⟩
 have bt':∀j,b'.testBit j=true↔j < N/\Aj T' (j:Int)=none:=λj=>by
  rw[b2,bt,tv]
  constructor
  ·rintro⟨⟨h1,h2⟩,h3⟩
   refine⟨h1,?_⟩
   cases hc:Aj K (j:Int)with
   | none=>exact h2
   | some c=>exact zX ((DB K _).mp (by rw[hc];rfl)) h3
  ·rintro⟨h1,h2⟩
   cases hc:Aj K (j:Int)with
   | none=>rw[hc]at h2;exact⟨⟨h1,h2⟩,λz=>by have:=(DB K _).mpr z;rw[hc]at this;cases this⟩
   | some c=>rw[hc]at h2;cases h2
 have up:∀(j:Nat) (r:Int),r<=wC->(∀y,Aj T (j:Int)=some y->r<=y.1)->∀y,Aj T' (j:Int)=some y->r<=y.1:=λj r hr h y hy=>by
  rcases yo _ _ hy with h1 | ⟨_,h2⟩
  ·exact h y h1
  ·omega
 have hlen:T.length < T'.length:=by
  cases K with
  | nil=>exact zX rfl wg
  | cons x K=>
   have hx:=kT x.1 (AV ..);have hn:((x.1:Int) :: T.map (·.1)).Nodup:=Bh.mpr ⟨λz=>AK (by have:=(DB T _).mpr z;rw[hx]at this;exact this),nd⟩
   have:=HZ (k:=T'.map (·.1)) hn λy hy=>by
    rw[<-DB]
    rcases Ae.mp hy with h | h
    ·subst h
     rw[tv];obtain⟨c,hc⟩:=Cv.mp ((DB (x :: K) x.1).mpr (AV ..));rw[hc];rfl
    ·obtain⟨z,hz⟩:=Cv.mp ((DB T y).mpr h)
     rw[told _ _ hz];rfl
   rw[Av,AF,AF]at this;omega
 refine⟨(T',(b':Int),wC+1,K'),b',rfl,⟨rfl,b1,bt',by show 1<=wC+1;omega,t1,t2,λm z hz=>?_,λ_ m hm hz c hc=>?_,hK,by show wC+1<=(T'.length:Int)+1;omega⟩,hlen⟩
 ·dsimp only at hz ⊢
  rcases yo _ _ hz with h1 | ⟨h1,h2⟩
  ·obtain⟨o1,o2,o3,o4,o5,o6⟩:=ok m z h1
   refine⟨by omega,o2,o3,λj hj=>?_,λc hc wo=>?_,λh2 c hc=>?_⟩
   ·obtain⟨y,y1,y2⟩:=o4 j hj
    exact⟨y,told _ _ y1,y2⟩
   ·obtain⟨j,j1,j2⟩:=o5 c hc wo
    exact⟨j,j1,up j z.1 (by omega) j2⟩
   ·obtain⟨j,j1,j2⟩:=o6 h2 c hc
    refine⟨j,j1,λy hy=>?_⟩;have:=up j (z.1 - 1) (by omega) (λy hy=>by have:=j2 y hy;omega) y hy;omega
  ·obtain⟨r,c⟩:=z
   have hc:Aj K (m:Int)=some c:=by
    have:=tv (m:Int);rw[hz]at this
    cases hc:Aj K (m:Int)with
    | none=>rw[hc,h1]at this;cases this
    | some c'=>rw[hc]at this;cases this;rfl
   dsimp only at h2;subst h2;obtain⟨f0,f1,f2,f3⟩:=(k3 m c).mp hc;refine⟨by dsimp only;omega,st,f1,λj hj=>?_,λc' wM wo=>?_,λh2 c' wM=>?_⟩
   ·have hjN:=D.rg _ _ _ hj
    cases hv:Aj T (j:Int)with
    | none=>
     have:=(bt j).mpr ⟨hjN,hv⟩;rw[f2 j hj]at this;cases this
    | some y=>exact⟨y,told _ _ hv,(ok j y hv).1⟩
   ·obtain⟨j,j1,j2⟩:=Tx (f3 c' wM wo)
    refine⟨j,j1,λy hy=>?_⟩
    rcases yo _ _ hy with q | ⟨_,q⟩
    ·rw[((bt j).mp j2).2]at q;cases q
    ·dsimp only;omega
   ·obtain⟨j,j1,j2⟩:=mn h2 m ((bt m).mp f0).1 h1 c' wM
    refine⟨j,j1,λy hy=>?_⟩
    rcases yo _ _ hy with q | ⟨_,q⟩
    ·exact j2 y q
    ·dsimp only;omega
 ·dsimp only at hz ⊢
  obtain⟨h1,h2⟩:=(b2 m).mp ((bt' m).mpr ⟨hm,hz⟩)
  have nl:¬SB B b m c:=λhl=>by
   obtain⟨c0,q1,q2,q3⟩:=Ye (P:=SB B b m) ⟨c,hc,hl⟩;have:=(k3 m c0).mpr ⟨h1,q1,q2,q3⟩;exact h2 ((DB K _).mp (by rw[this];rfl))
  obtain⟨j,j1,j2⟩:=Tx nl;refine⟨j,j1,λy hy=>?_⟩
  rcases yo _ _ hy with q | ⟨_,q⟩
  ·rw[((bt j).mp j2).2]at q;cases q
  ·omega
theorem Yn(D:Dl f N cl B):Ok (LY f) (Fa N cl B):=by
 have hN:=D.sm;unfold LY Pt;rw[D.ln,OM (by omega)];simp only[AC,BQ];have hp:0 < 2 ^ N:=nc N;rw[show((2 ^ N:Nat):Int) - 1=((2 ^ N - 1:Nat):Int) by omega]
 have lt:2 ^ N - 1 < 2 ^ N:=by omega
 obtain⟨K,eK,hK⟩:=Vz D lt;rw[eK];simp only[AC,BQ];have R0:Rnd N cl B ([],((2 ^ N - 1:Nat):Int),1,K) (2 ^ N - 1):=⟨rfl,lt,λj=>by rw[Nat.testBit_two_pow_sub_one,decide_eq_true_eq];exact⟨λh=>⟨h,rfl⟩,λh=>h.1⟩,vz 1,EM,λ_ h=>(nomatch h),λm z h=>(nomatch h),λh=>zX (show(2:Int)<=1 from h) (by decide),hK,vz 1⟩
 obtain⟨s',e,⟨b,h⟩,hc⟩:=ZQ (ρ:=TL) (c:=λ(xx:TL×Int×Int×(List (Int×Int)))=>some (!xx.2.2.2.isEmpty)) (q:=λ(s:TL×Int×Int×(List (Int×Int)))=>BH (Eg (s.2.2.2.map (·.1)) (s.1,s.2.1) λ(xn:TL×Int) wL=>BH (((Aj s.2.2.2 wL).bind λwH=>some (s.2.2.1,wH)).bind λym=>(KN xn.1 wL ym).bind λyP=>some (.nx yP)) λzf=>Ew (λzg=>(zf,zg)) ((Ox (1:Int) wL).bind λyn=>some (.nx (CC xn.2 yn)))) (λy8=>BH (some (.nx (s.2.2.1+(1:Int)))) λJ'=>Ew (λyy=>(y8.1,y8.2,J',yy)) ((Ej f y8.2).bind λyQ=>some (.nx yQ)))) (λs=>∃b,Rnd N cl B s b) (λs=>N - s.1.length) (λs ⟨b,h⟩=>by
   cases hk:s.2.2.2 with
   | nil=>left;rfl
   | cons x K=>
    right
    obtain⟨s',b',e1,e2,e3⟩:=lA D h (by rw[hk];exact λz=>nomatch z);rw[hk]at e1;refine⟨rfl,s',e1,⟨b',e2⟩,?_⟩;have:=P3 e2.nd e2.rg;show N - s'.1.length < N - s.1.length
    omega) wN _ ⟨_,R0⟩ (by show N - 0 < wN;unfold wN;omega)
 simp only[BQ]at e;rw[e];refine⟨s'.1,rfl,?_⟩
 have hk:s'.2.2.2=[]:=by
  have:=Bw hc
  cases hk:s'.2.2.2 with
  | nil=>rfl
  | cons x K=>rw[hk]at this;cases this
 obtain⟨lf,lt,bt,st,nd,rg,ok,mn,fn,sl⟩:=h;refine⟨nd,rg,λm z hz=>(ok m z hz).2,λm hm hz c hc=>?_,λm z hz=>by have:=(ok m z hz).1;have:=P3 nd rg;omega⟩;have hb:=(bt m).mpr ⟨hm,hz⟩
 have nl:¬SB B b m c:=λhl=>by
  obtain⟨c0,q1,q2,q3⟩:=Ye (P:=SB B b m) ⟨c,hc,hl⟩;have:=(fn.2.2 m c0).mpr ⟨hb,q1,q2,q3⟩;rw[hk]at this;cases this
 obtain⟨j,j1,j2⟩:=Tx nl;exact⟨j,j1,((bt j).mp j2).2⟩
end
theorem cg(l:List Int)(x:Int):Wl (l++[x])=Wl l+x:=by
 rw[Wj,Wj,List.sum_append];simp
theorem kj(P:Int->Bool):∀n:Nat,∃b:Nat,Wl (((DF 0 n).filter P).map λx=>((2 ^ x.toNat:Nat):Int))=b/\b < 2 ^ n/\∀j,b.testBit j=true↔j < n/\P (j:Int)=true:=by
 intro n
 induction n with
 | zero=>exact⟨0,rfl,by decide,λj=>by simp⟩
 | succ n ih=>
  obtain⟨b,h1,h2,h3⟩:=ih
  have e:DF 0 (n+1)=DF 0 n++[(n:Int)]:=by
   unfold DF;rw[NO,CS];simp
  rw[e,Ym]
  by_cases hp:P (n:Int)=true
  ·rw[qX hp,CS,List.map_singleton,cg,h1,An]
   refine⟨b+2 ^ n,by omega,by rw[ZK];omega,λj=>?_⟩;have ho:=Nat.two_pow_add_eq_or_of_lt h2 1;rw[Nat.mul_one]at ho;rw[Nat.add_comm,ho,WH,KI,Jc,decide_eq_true_eq,h3]
   constructor
   ·rintro(rfl | ⟨a,q⟩)
    ·exact⟨by omega,hp⟩
    ·exact⟨by omega,q⟩
   ·rintro⟨a,q⟩
    by_cases e:n=j
    ·exact .inl e
    ·exact .inr ⟨by omega,q⟩
  ·rw[qY hp]
   refine⟨b,h1,by rw[ZK];omega,λj=>(h3 j).trans ⟨λ⟨a,q⟩=>⟨by omega,q⟩,λ⟨a,q⟩=>⟨?_,q⟩⟩⟩
   by_cases e:j=n
   ·subst e;exact zX q hp
   ·omega
section
variable{f:Fp}{N:Nat}{cl:Nat->List Int}{B:Nat->Int->Nat->Prop}{T:TL}
theorem V3(D:Dl f N cl B):∃b:Nat,Fu f T=some (b:Int)/\b < 2 ^ N/\∀j,b.testBit j=true↔j < N/\Aj T (j:Int)=none:=by
 have hN:=D.sm;obtain⟨b,h1,h2,h3⟩:=kj (λx=>!(Aj T x).isSome) N;refine⟨b,?_,h2,λj=>(h3 j).trans (and_congr_right λ_=>by cases Aj T (j:Int) <;> simp)⟩;unfold Fu HR;rw[D.ln];simp only[AC];rw[MF (by omega) (by omega),An];simp only[AC]
 rw[QC (P:=λx=>!(Aj T x).isSome) (f:=λx=>((2 ^ x.toNat:Nat):Int)) (by rw[Bo];omega) (λ_ _=>rfl) λx hx _=>by
  obtain⟨x0,x1⟩:=B9.mp hx
  conv=>lhs;rw[show x=((x.toNat:Nat):Int) by omega]
  exact OM (by omega)]
 simp only[AC];rw[h1];rfl
theorem mR(F:Fa N cl B T):CF (T.map (·.1))=(DF 0 N).filter λn=>(Aj T n).isSome:=Im (Ik F.nd) ((MD 0 N).filter _) λx=>by
 rw[Bz,BM,DB,B9];exact⟨λh=>⟨by have:=F.rg x h;omega,h⟩,λh=>h.2⟩
end
def evN(o g:Nat)(n:Int):List Int:=(sts o g).getD n.toNat []
def clS(o g:Nat)(n:Nat):List Int:=(DF 0 o).filter λc=>!decide (c∈evN o g n)
def BS(o g:Nat)(us:List (Int×Int))(kd:Str)(n:Nat)(c:Int)(j:Nat):Prop:=∃r r',(sts o g)[n]?=some r/\(sts o g)[j]?=some r'/\Lk kd us r r'/\c∈r'
section
variable{o g:Nat}{us:List (Int×Int)}{kd:Str}{f:Fp}
theorem Mm{n:Nat}{r:List Int}(h:(sts o g)[n]?=some r):evN o g n=r:=by
 unfold evN;rw[An,EN,h];rfl
theorem jF(h:E9 o us)(hg:g<=o)(h1:1<=g)(F:Fk o g us kd f):Dl f (sts o g).length (clS o g) (BS o g us kd):=by
 have sm:=h.sm;obtain⟨-,-,hl⟩:=NU o sm g (by omega) hg h1;refine⟨by rw[F.ev],by omega,λn hn=>?_,λn hn c hc=>?_,λn c j ⟨r,r',_,e,_⟩=>(AD.mp e).1⟩
 ·have hr:=Af hn
  refine⟨?_,?_,(MD 0 o).filter _⟩
  ·rw[nF h F hr]
   unfold clS;rw[Mm hr]
  ·have:=ER (λc=>!decide (c∈evN o g n)) (DF 0 o)
   rw[Bo]at this;unfold clS;omega
 ·have hr:=Af hn
  unfold clS at hc;obtain⟨h2,-⟩:=BM.mp hc;obtain⟨c0,c1⟩:=B9.mp h2
  refine(jR h hg h1 F hr (c:=c) ⟨c0,by omega⟩).imp λv ⟨l,e,hl⟩=>⟨l,e,λj=>(hl j).trans ⟨λ⟨r',q⟩=>⟨_,r',hr,q⟩,λ⟨r,r',q1,q⟩=>?_⟩⟩
  rw[hr]at q1;cases q1;exact⟨r',q⟩
end
section
variable{o g:Nat}{us:List (Int×Int)}{kd:Str}{f:Fp}{T:TL}
theorem sG(h:E9 o us)(hg:g<=o)(h1:1<=g):∃T:TL,Fa (sts o g).length (clS o g) (BS o g us kd) T /\
  GU (o,us) g kd=some (((DF 0 (sts o g).length).filter λn=>!(Aj T n).isSome).map (evN o g)) /\
  SM (o,us) g kd=some (((DF 0 (sts o g).length).filter λn=>(Aj T n).isSome).map λn=>(evN o g n,(Aj T n).getD (0,0))):=by
 have sm:=h.sm;obtain⟨-,-,hl⟩:=NU o sm g (by omega) hg h1;obtain⟨f,ef,F⟩:=bn (kd:=kd) h hg h1;have D:=jF h hg h1 F;obtain⟨T,eT,hT⟩:=Yn D
 have at':∀n∈DF 0 (sts o g).length,atI f.ev n=some (evN o g n):=λn hn=>by
  obtain⟨n0,n1⟩:=B9.mp hn;have hr:=Af (l:=sts o g) (i:=n.toNat) (by omega);rw[F.ev,KB n0 hr]
  congr 1
  have:=Mm hr;rw[As n0]at this;exact this.symm
 refine⟨T,hT,?_,?_⟩
 ·obtain⟨b,e1,b1,b2⟩:=V3 (T:=T) D
  obtain⟨l,e2,l1,l2⟩:=OQ b1 (by omega)
  have el:l=(DF 0 (sts o g).length).filter λn=>!(Aj T n).isSome:=Im l1 ((MD 0 _).filter _) λx=>by
   rw[l2,BM,B9,b2]
   constructor
   ·rintro⟨x0,a,q⟩
    rw[As x0]at q;exact⟨⟨x0,by omega⟩,by rw[q];rfl⟩
   ·rintro⟨⟨x0,a⟩,q⟩
    refine⟨x0,by omega,?_⟩;rw[As x0]
    cases hv:Aj T x with
    | none=>rfl
    | some z=>rw[hv]at q;cases q
  unfold GU OO;simp only[AC];rw[ef];simp only[AC,BQ];rw[eT];simp only[AC];rw[e1];simp only[AC];rw[e2];simp only[AC];rw[el,EX (f:=evN o g) (by have:=ER (λn=>!(Aj T n).isSome) (DF 0 (sts o g).length);rw[Bo]at this;omega) λn hn=>at' n (BM.mp hn).1];rfl
 ·unfold SM SL
  simp only[AC];rw[ef];simp only[AC,BQ];rw[eT];simp only[AC,BQ]
  have hk:=HZ hT.nd (k:=DF 0 (sts o g).length) λx hx=>B9.mpr (by have:=hT.rg x hx;omega)
  rw[AF,Bo]at hk;rw[P9 (by omega)];simp only[AC]
  rw[mR hT,EX (f:=λn=>(evN o g n,(Aj T n).getD (0,0))) (by have:=ER (λn=>(Aj T n).isSome) (DF 0 (sts o g).length);rw[Bo]at this;omega) λn hn=>by
   obtain⟨h1,h2⟩:=BM.mp hn;rw[at' n h1];obtain⟨z,hz⟩:=Cv.mp h2;rw[hz]
   rfl]
  rfl
end
open PySem L2 L4
open Srt (ltL)
def Ans(kd:Str)(us:List (Int×Int))(r:List Int)(c:Int)(s:List Int):Prop:=if kd = "one" then ∃a∈r,c∈nr us a.toNat/\s=wst r a c else nW us r c s
theorem SH{s r:List Int}(hs:s.Nodup)(h:∀x∈s,x∈r)(hl:s.length=r.length):∀x∈r,x∈s:=λx hx=>DR λhn=>by
 have:=HZ (k:=r) (Bh.mpr ⟨hn,hs⟩) λy hy=>by
  rcases Ae.mp hy with rfl | hy
  ·exact hx
  ·exact h y hy
 rw[Av]at this;omega
section
variable{o g:Nat}{us:List (Int×Int)}{kd:Str}{r r':List Int}{c:Int}
theorem SZ(h:E9 o us)(hr:Stg o g r)(hc:c∉r):(∃s,Ans kd us r c s/\CF s=r')↔Stg o g r'/\Lk kd us r r'/\c∈r':=by
 unfold Ans Lk
 by_cases k:kd = "one"
 ·simp only[qX k]
  constructor
  ·rintro⟨s,⟨a,ha,hn,rfl⟩,rfl⟩
   have hb:c∈Tg us a:=KH.mpr (.inr hn);exact⟨ao h hr ha hb hc,⟨a,ha,c,hb,hc,rfl⟩,Bz.mpr ((IW ha).mpr (.inl rfl))⟩
  ·rintro⟨-,⟨a,ha,b,hb,ϫ,rfl⟩,h3⟩
   have e:c=b:=by
    rcases(IW ha).mp (Bz.mp h3)with e | e
    ·exact e
    ·exact zX e.1 hc
   subst e
   rcases KH.mp hb with e | e
   ·rw[e]at hc;exact zX ha hc
   ·exact⟨_,⟨a,ha,e,rfl⟩,rfl⟩
 ·simp only[qY k]
  constructor
  ·rintro⟨s,hs,rfl⟩
   have rg:=nW.rg h hr.2.1 hs;refine⟨⟨by rw[(Dv _).length_eq,hs.1,hr.1],λx hx=>rg x (Bz.mp hx),Ik hs.2.1⟩,⟨s,hs.1,hs.2.1,hs.2.2.1,λx hx=>Bz.mpr hx⟩,Bz.mpr hs.2.2.2⟩
  ·rintro⟨h1,⟨s,s1,s2,s3,s4⟩,h3⟩
   have all:=SH s2 s4 (by rw[s1,hr.1,h1.1]);exact⟨s,⟨s1,s2,s3,all c h3⟩,Im (Ik s2) h1.2.2 λx=>Bz.trans ⟨s4 x,all x⟩⟩
end
section
variable{o g:Nat}{kd:Str}{T:TL}
theorem fx(ho:o < 8)(hg:g<=o)(h1:1<=g)(h:Stg o g r):∃n:Nat,(sts o g)[n]?=some r/\n < (sts o g).length:=by
 obtain⟨n,hn,e⟩:=CW ((FU ho hg h1).mpr h);exact⟨n,by rw[Af hn,e],hn⟩
theorem aJ(h:(sts o g)[n]?=some r):c∈clS o g n↔(0<=c/\c < (o:Int))/\c∉r:=by
 unfold clS;rw[BM,B9,Mm h];simp
theorem jM(ht:E9 o us)(hg:g<=o)(h1:1<=g)(hn:(sts o g)[n]?=some r)(hc:c∉r):BS o g us kd n c j↔∃s,Ans kd us r c s/\(sts o g)[j]?=some (CF s):=by
 have hr:=(FU ht.sm hg h1).mp (BB hn)
 constructor
 ·rintro⟨r1,r',e1,e2,q⟩
  rw[hn]at e1;cases e1;obtain⟨s,h3,h4⟩:=(SZ (kd:=kd) ht hr hc).mpr ⟨(FU ht.sm hg h1).mp (BB e2),q⟩;exact⟨s,h3,by rw[h4];exact e2⟩
 ·rintro⟨s,h3,e2⟩
  exact⟨r,_,hn,e2,((SZ (kd:=kd) ht hr hc).mp ⟨s,h3,rfl⟩).2⟩
theorem iR(ho:o < 8)(hg:g<=o)(h1:1<=g):r∈((DF 0 (sts o g).length).filter λn=>!(Aj T n).isSome).map (evN o g)↔∃n:Nat,(sts o g)[n]?=some r/\Aj T (n:Int)=none:=by
 rw[BD]
 constructor
 ·rintro⟨x,hx,rfl⟩
  obtain⟨h2,h3⟩:=BM.mp hx;obtain⟨x0,x1⟩:=B9.mp h2;have hr:=Af (l:=sts o g) (i:=x.toNat) (by omega);have:=Mm hr;rw[As x0]at this;refine⟨x.toNat,by rw[this];exact hr,?_⟩;rw[As x0]
  cases hv:Aj T x with
  | none=>rfl
  | some z=>rw[hv]at h3;cases h3
 ·rintro⟨n,hn,hv⟩
  exact⟨(n:Int),BM.mpr ⟨B9.mpr ⟨by omega,by have:=(AD.mp hn).1;omega⟩,by rw[hv];rfl⟩,Mm hn⟩
end
def OE(o g:Nat)(us:List (Int×Int))(kd:Str)(P:List Int->Prop):Prop:=∀r,P r->Stg o g r/\∀c:Int,0<=c->c < o->c∉r->∃s,Ans kd us r c s/\P (CF s)
def La(o g:Nat)(T:TL)(r:List Int):Prop:=∃n:Nat,(sts o g)[n]?=some r/\Aj T (n:Int)=none
section
variable{o g:Nat}{us:List (Int×Int)}{kd:Str}{T:TL}{P:List Int->Prop}
theorem Qy(ht:E9 o us)(hg:g<=o)(h1:1<=g)(F:Fa (sts o g).length (clS o g) (BS o g us kd) T):OE o g us kd (La o g T):=λr ⟨n,hn,hv⟩=>by
 refine⟨(FU ht.sm hg h1).mp (BB hn),λc c0 c1 c2=>?_⟩;obtain⟨j,hj,hjv⟩:=F.no n (AD.mp hn).1 hv c ((aJ hn).mpr ⟨⟨c0,c1⟩,c2⟩);obtain⟨s,hs,ej⟩:=(jM ht hg h1 hn c2).mp hj;exact⟨s,hs,j,ej,hjv⟩
theorem RC(ht:E9 o us)(hg:g<=o)(h1:1<=g)(F:Fa (sts o g).length (clS o g) (BS o g us kd) T)(hP:OE o g us kd P)(hr:P r):La o g T r:=by
 have key:∀(k:Nat) (r:List Int) (n:Nat) (z:Int×Int),P r->(sts o g)[n]?=some r->Aj T (n:Int)=some z->z.1.toNat<=k->False:=by
  intro k
  induction k with
  | zero=>
   intro r n z _ _ hz hk;have:=(F.ok n z hz).1;omega
  | succ k ih=>
   intro r n z hr hn hz hk;obtain⟨z1,z2,z3,-⟩:=F.ok n z hz;obtain⟨c0,c1⟩:=(aJ hn).mp z2;obtain⟨s,hs,hp⟩:=(hP r hr).2 z.2 c0.1 c0.2 c1;obtain⟨j,ej,-⟩:=fx ht.sm hg h1 (hP _ hp).1;obtain⟨y,hy,wo⟩:=z3 j ((jM ht hg h1 hn c1).mpr ⟨s,hs,ej⟩);exact ih _ j y hp ej hy (by omega)
 obtain⟨n,hn,-⟩:=fx ht.sm hg h1 (hP r hr).1
 cases hv:Aj T (n:Int)with
 | none=>exact⟨n,hn,hv⟩
 | some z=>exact(key _ r n z hr hn hv (AO _)).elim
theorem vR:∀(k:Nat) (r r':List Int) (f:Int->Int) (x:Int),r.length=k->r.Nodup->r'.Nodup->r.length=r'.length->(∀a∈r,f a∈r')->(∀a∈r,∀b∈r,f a=f b->a=b)->x∉r ->
  ∃z,z∉r'/\z∈x :: r/\∃F:Int->Int,(∀a∈x :: r,(F a=a∨(a∈r/\F a=f a))/\F a∈z :: r')/\∀a∈x :: r,∀b∈x :: r,F a=F b->a=b:=by
 intro k
 induction k with
 | zero=>
  intro r r' f x hk _ _ hl _ _ _;have e:r=[]:=Sn hk;have e':r'=[]:=Sn (by rw[<-hl];exact hk);subst e e';exact⟨x,by simp,by simp,λa=>a,λa ha=>⟨.inl rfl,ha⟩,λ_ _ _ _ h=>h⟩
 | succ k ih=>
  intro r r' f x hk hn xg hl hf hi hx
  by_cases hxr:x∈r'
  ·have hm:(r.map f).Nodup:=by
    unfold Iv;rw[Ca]
    exact hn.imp_of_mem λ{a b} ha hb ne e=>ne (hi a ha b hb e)
   obtain⟨a,ha,fa⟩:=BD.mp (SH hm (λy hy=>by obtain⟨b,hb,rfl⟩:=BD.mp hy;exact hf b hb) (by rw[AF];exact hl) x hxr)
   have l1:(r.filter λy=>decide (y≠a)).length=k:=by
    have:=hn.erase_eq_filter a;have h2:=Lh ha;rw[this]at h2
    have e:(λy:Int=>y != a)=λy=>decide (y≠a):=by funext y;by_cases q:y=a <;> simp[q]
    rw[e]at h2;omega
   have l2:(r'.filter λy=>decide (y≠x)).length=k:=by
    have:=xg.erase_eq_filter x;have h2:=Lh hxr;rw[this]at h2
    have e:(λy:Int=>y != x)=λy=>decide (y≠x):=by funext y;by_cases q:y=x <;> simp[q]
    rw[e]at h2;omega
   have m1:∀y,y∈r.filter (λy=>decide (y≠a))↔y∈r/\y≠a:=λy=>by rw[BM,decide_eq_true_eq]
   have m2:∀y,y∈r'.filter (λy=>decide (y≠x))↔y∈r'/\y≠x:=λy=>by rw[BM,decide_eq_true_eq]
   obtain⟨z,z1,z2,F,F1,F2⟩:=ih _ _ f a l1 (hn.filter _) (xg.filter _) (l1.trans l2.symm)
    (λb hb=>(m2 _).mpr ⟨hf b ((m1 b).mp hb).1,λe=>((m1 b).mp hb).2 (hi b ((m1 b).mp hb).1 a ha (e.trans fa.symm))⟩)
    (λb hb c hc=>hi b ((m1 b).mp hb).1 c ((m1 c).mp hc).1) (λh=>((m1 a).mp h).2 rfl)
   have zr:z∈r:=by
    rcases Ae.mp z2 with h | h
    ·rw[h];exact ha
    ·exact((m1 z).mp h).1
   have zx:z≠x:=λe=>hx (by rw[<-e];exact zr)
   have inA:∀y∈r,y∈a :: r.filter (λy=>decide (y≠a)):=λy hy=>by
    by_cases q:y=a
    ·rw[q];exact AV ..
    ·exact AS _ ((m1 y).mpr ⟨hy,q⟩)
   have nx:∀y∈r,y≠x:=λy hy e=>hx (by rw[<-e];exact hy)
   have Fx:∀y∈r,F y≠x:=λy hy e=>by
    rcases Ae.mp (F1 y (inA y hy)).2 with h | h
    ·exact zx (h.symm.trans e)
    ·exact((m2 _).mp h).2 e
   refine⟨z,λh=>z1 ((m2 z).mpr ⟨h,zx⟩),AS _ zr,λy=>if y=x then x else F y,λy hy=>?_,λy hy w hw e=>?_⟩
   ·dsimp only
    rcases Ae.mp hy with h | h
    ·rw[qX h]
     exact⟨.inl h.symm,AS _ hxr⟩
    ·rw[qY (nx y h)]
     obtain⟨q1,q2⟩:=F1 y (inA y h);refine⟨q1.imp id λq=>⟨h,q.2⟩,?_⟩
     rcases Ae.mp q2 with q | q
     ·rw[q];exact AV ..
     ·exact AS _ ((m2 _).mp q).1
   ·dsimp only at e
    rcases Ae.mp hy with h | h <;> rcases Ae.mp hw with h' | h'
    ·rw[h,h']
    ·rw[qX h,qY (nx w h')]at e
     exact zX e.symm (Fx w h')
    ·rw[qY (nx y h),qX h']at e
     exact zX e (Fx y h)
    ·rw[qY (nx y h),qY (nx w h')]at e
     exact F2 y (inA y h) w (inA w h') e
  ·have nx:∀y∈r,y≠x:=λy hy e=>hx (by rw[<-e];exact hy)
   refine⟨x,hxr,AV ..,λy=>if y=x then x else f y,λy hy=>?_,λy hy w hw e=>?_⟩
   ·dsimp only
    rcases Ae.mp hy with h | h
    ·rw[qX h]
     exact⟨.inl h.symm,AV ..⟩
    ·rw[qY (nx y h)]
     exact⟨.inr ⟨h,rfl⟩,AS _ (hf y h)⟩
   ·dsimp only at e
    rcases Ae.mp hy with h | h <;> rcases Ae.mp hw with h' | h'
    ·rw[h,h']
    ·rw[qX h,qY (nx w h')]at e
     exact zX (hf w h') (by rw[<-e];exact hxr)
    ·rw[qY (nx y h),qX h']at e
     exact zX (hf y h) (by rw[e];exact hxr)
    ·rw[qY (nx y h),qY (nx w h')]at e
     exact hi y h w h' e
theorem bY(hn:r.Nodup):LkA us r r'↔∃f:Int->Int,(∀a∈r,f a∈Tg us a/\f a∈r')/\∀a∈r,∀b∈r,f a=f b->a=b:=by
 constructor
 ·rintro⟨l,l1,ln,l3,l4⟩
  have ex:∀a:Int,∃z:Int,a∈r->(a,z)∈r.zip l:=λa=>by
   by_cases q:a∈r
   ·obtain⟨i,hi,e⟩:=CW q
    refine⟨l[i]'(by omega),λ_=>?_⟩
    have:(r.zip l)[i]'(by rw[HF];omega)=(a,l[i]'(by omega)):=by rw[Ir,e]
    rw[<-this];exact Df _
   ·exact⟨0,λz=>zX z q⟩
  have hs:=λa=>D9 (ex a)
  refine⟨λa=>DA (ex a),λa ha=>⟨l3 _ (hs a ha),l4 _ (Jb (hs a ha)).2⟩,λa ha b hb e=>?_⟩;have e:DA (ex a)=DA (ex b):=e;have h1:=hs a ha;rw[e]at h1;exact aj ln h1 (hs b hb)
 ·rintro⟨f,f1,f2⟩
  refine⟨r.map f,AF _,?_,λy hy=>?_,λx hx=>?_⟩
  ·unfold Iv
   rw[Ca]
   exact hn.imp_of_mem λ{a b} ha hb ne e=>ne (f2 a ha b hb e)
  ·rw[Pc]at hy
   obtain⟨a,ha,rfl⟩:=BD.mp hy;exact(f1 a ha).1
  ·obtain⟨a,ha,rfl⟩:=BD.mp hx
   exact(f1 a ha).2
theorem X8(hr:Stg o g r)(hx:0<=x/\x < (o:Int))(hn:x∉r):Stg o (g+1) (CF (x :: r)):=by
 refine⟨by rw[(Dv _).length_eq,Av,hr.1],λy hy=>?_,Ik (Bh.mpr ⟨hn,LU hr.2.2⟩)⟩
 rcases Ae.mp (Bz.mp hy)with h | h
 ·rw[h];exact hx
 ·exact hr.2.1 y h
theorem grow(ht:E9 o us)(hP:OE o g us kd P):OE o (g+1) us kd (λR=>∃r x,P r/\(0<=x/\x < (o:Int))/\x∉r/\R=CF (x :: r)):=by
 rintro R ⟨r,x,hr,hx,hn,rfl⟩;obtain⟨hS,hA⟩:=hP r hr;have yR:=X8 hS hx hn;refine⟨yR,λc c0 c1 c2=>?_⟩
 have cm:∀y,y∈CF (x :: r)↔y=x∨y∈r:=λy=>by rw[Bz,Ae]
 have cx:c≠x:=λe=>c2 ((cm c).mpr (.inl e))
 have cr:c∉r:=λe=>c2 ((cm c).mpr (.inr e))
 obtain⟨s,hs,hp⟩:=hA c c0 c1 cr;obtain⟨q1,q2,q3⟩:=(SZ (kd:=kd) ht hS cr).mp ⟨s,hs,rfl⟩;generalize CF s=r' at hp q1 q2 q3
 have fin:∀z,(0<=z/\z < (o:Int))->z∉r'->Lk kd us (CF (x :: r)) (CF (z :: r'))->∃s,Ans kd us (CF (x :: r)) c s/\∃r x,P r/\(0<=x/\x < (o:Int))/\x∉r/\CF s=CF (x :: r):=λz hz hzn hl=>by
  obtain⟨S,h1,h2⟩:=(SZ (kd:=kd) ht yR c2).mpr ⟨X8 q1 hz hzn,hl,Bz.mpr (AS _ q3)⟩;exact⟨S,h1,r',z,hp,hz,hzn,h2⟩
 unfold Lk at q2 fin
 by_cases k:kd = "one"
 ·simp only[qX k]at q2 fin
  obtain⟨a,ha,b,hb,ϫ,e⟩:=q2
  have bx:b≠x:=λe2=>by
   have:c∈wst r a b:=Bz.mp (by rw[e];exact q3)
   rcases(IW ha).mp this with h | h
   ·exact cx (h.trans e2)
   ·exact cr h.1
  have xr':x∉r':=λh=>by
   rw[<-e]at h
   rcases(IW ha).mp (Bz.mp h)with h | h
   ·exact bx h.symm
   ·exact hn h.1
  refine fin x hx xr' ⟨a,(cm a).mpr (.inr ha),b,hb,λh=>((cm b).mp h).elim bx ϫ,?_⟩;have aR:=(cm a).mpr (.inr ha)
  have bR:b∉CF (x :: r):=λh=>((cm b).mp h).elim bx ϫ
  refine Im (Ik (ZO (LU yR.2.2) bR)) (Ik (Bh.mpr ⟨xr',LU q1.2.2⟩)) λy=>?_
  rw[Bz,Bz,IW aR,cm,Ae,<-e,Bz,IW ha]
  have xa:x≠a:=λe=>hn (by rw[e];exact ha)
  constructor
  ·rintro(h | ⟨h | h,h2⟩)
   ·exact .inr (.inl h)
   ·exact .inl h
   ·exact .inr (.inr ⟨h,h2⟩)
  ·rintro(h | h | ⟨h,h2⟩)
   ·exact .inr ⟨.inl h,by rw[h];exact xa⟩
   ·exact .inl h
   ·exact .inr ⟨.inr h,h2⟩
 ·simp only[qY k]at q2 fin
  obtain⟨f,f1,f2⟩:=(bY (LU hS.2.2)).mp q2;obtain⟨z,z1,z2,F,F1,F2⟩:=vR _ r r' f x rfl (LU hS.2.2) (LU q1.2.2) (by rw[hS.1,q1.1]) (λa ha=>(f1 a ha).2) f2 hn;refine fin z ?_ z1 ((bY (LU yR.2.2)).mpr ⟨F,λa ha=>?_,λa ha b hb=>F2 a (Bz.mp ha) b (Bz.mp hb)⟩)
  ·rcases Ae.mp z2 with h | h
   ·rw[h];exact hx
   ·exact hS.2.1 z h
  ·obtain⟨w1,w2⟩:=F1 a (Bz.mp ha)
   refine⟨?_,Bz.mpr w2⟩
   rcases w1 with h | ⟨h,e⟩
   ·rw[h];exact KH.mpr (.inl rfl)
   ·rw[e];exact(f1 a h).1
end
open PySem L2 L4
abbrev cz(l:Nat):Int:=l
theorem dQ:(t++[p]).Nodup↔t.Nodup/\p∉t:=by
 unfold Iv;rw[GZ]
 constructor
 ·rintro⟨a,-,c⟩
  exact⟨a,λz=>c p z p (by simp) rfl⟩
 ·rintro⟨a,b⟩
  exact⟨a,by simp,λx hx y hy e=>b (by rw[AU.mp hy]at e;rw[<-e];exact hx)⟩
section
variable{o:Nat}{us:List (Int×Int)}{gs rest:List Int}{g:Int}
def vV(us:List (Int×Int))(g:Int)(rest:List Int)(L:List Nat)(v:Option (Int×List Int)):Prop:=match v with
 | none=>∀n∈L,∀x∈Tg us g,bit n x->¬ ∃r,InS us rest (bit (n ^^^ 2 ^ x.toNat)) r
 | some z=>z.1∈Tg us g/\∃L':List Nat,z.2=L'.map cz/\L'.length<=L.length/\(∀l∈L',∃n∈L,bit n z.1/\l=n ^^^ 2 ^ z.1.toNat)/\∃l∈L',∃r,InS us rest (bit l) r
theorem p0(h:E9 o us)(hg:0<=g/\g < o)(hr:∀g∈rest,0<=g/\g < o)(xw:rest.Nodup)(hL:∀n∈L,n < 128)(hl:L.length<=1000):Ok (JV (tkl o us) g rest (L.map cz)) (vV us g rest L):=by
 have sm:=h.sm;have tg:=h.tg hg.1 hg.2;unfold JV JS;rw[ff hg.1 hg.2];simp only[AC];refine OkF.out (OkF.seq (OkF.for (λpre _=>∀n∈L,∀x∈pre,bit n x->¬ ∃r,InS us rest (bit (n ^^^ 2 ^ x.toNat)) r) (λn _ x hx=>(nomatch hx)) ?_) λ_ hs=>.rt hs);intro pre x u hx hp hI;have xr:=tg.2.1 x hx
 obtain⟨k,rfl⟩:∃k:Nat,x=k:=⟨x.toNat,by omega⟩
 have hk:k < 7:=by omega
 rw[OM (by omega)];simp only[AC,BQ]
 have e1:Ep (L.map cz) (λwu=>some (BG wu ((2 ^ k:Nat):Int) != 0)) (λwu=>some (CC wu ((2 ^ k:Nat):Int)))=some (((L.filter λn=>n.testBit k).map λn=>n ^^^ 2 ^ k).map cz):=by
  rw[QC (P:=λz:Int=>BG z ((2 ^ k:Nat):Int) != 0) (f:=λz=>CC z ((2 ^ k:Nat):Int)) (by rw[AF];omega) (λ_ _=>rfl) λ_ _ _=>rfl];rw[List.filter_map,BF,BF]
  have ef:L.filter ((λz:Int=>BG z ((2 ^ k:Nat):Int) != 0)∘cz)=L.filter λn=>n.testBit k:=List.filter_congr λn hn=>by
   have:=nO n (hL n hn) k hk;rw[cR]at this
   have e2:((2 ^ k:Nat):Int)=(2:Int) ^ k:=by norm_cast
   show(BG (n:Int) ((2 ^ k:Nat):Int) != 0)=_;rw[e2];exact this
  rw[ef]
  congr 1
  exact DS λn _=>ak n (2 ^ k)
 rw[e1];simp only[AC,BQ]
 have mem:∀m∈(L.filter λn=>n.testBit k).map (λn=>n ^^^ 2 ^ k),∃n∈L,n.testBit k=true/\m=n ^^^ 2 ^ k:=λm hm=>by
  obtain⟨n,hn,rfl⟩:=BD.mp hm;obtain⟨n1,n2⟩:=BM.mp hn;exact⟨n,n1,n2,rfl⟩
 have Ϭ:∀n∈L,n.testBit k=true->n ^^^ 2 ^ k∈(L.filter λn=>n.testBit k).map (λn=>n ^^^ 2 ^ k):=λn hn hb=>BD.mpr ⟨n,BM.mpr ⟨hn,hb⟩,rfl⟩
 have Ml:((L.filter λn=>n.testBit k).map λn=>n ^^^ 2 ^ k).length<=L.length:=by rw[AF];exact ER _ _
 generalize (L.filter λn=>n.testBit k).map (λn=>n ^^^ 2 ^ k)=M at mem Ϭ Ml
 refine OkF.map (N:=λ_=>∀m∈M,¬ ∃r,InS us rest (bit m) r) (OkF.imp (OkF.for (λp2 _=>∀m∈M.take p2.length,¬ ∃r,InS us rest (bit m) r) (λm hm=>by simp at hm) ?_) (λ_ hs=>by rwa [show(DG (M.map cz)).length=M.length by unfold DG;simp,Iq]at hs) λ_ h=>h) λ_ hs n hn y hy hb=>?_
 ·intro p2 y _ hy xQ hI2
  obtain⟨z,e2,rfl⟩:=V1 xQ;rw[AZ]at e2;obtain⟨m,em,rfl⟩:=FA.mp e2;obtain⟨n,hn,hnb,rfl⟩:=mem m (BB em);obtain⟨b,e3,hb3⟩:=iz h (n:=n ^^^ 2 ^ k) (WM n (hL n hn) k hk).2.1 hr xw;dsimp only;rw[e3];simp only[AC]
  cases b with
  | true=>
   rw[qX rfl];have wo:=(AD.mp em).1;refine .rt ⟨hx,M.drop p2.length,?_,by rw[Gn];omega,λl hl=>?_,n ^^^ 2 ^ k,?_,hb3.mp rfl⟩
   ·show Ip (M.map cz) (some (p2.length:Int)) none=_
    rw[Yr _ (by rw[AF];omega),o0]
   ·obtain⟨n',h1,h2,h3⟩:=mem l (ag hl)
    exact⟨n',h1,by show n'.testBit ((k:Int)).toNat=true;rw[An];exact h2,by show l=n' ^^^ 2 ^ ((k:Int)).toNat;rw[An];exact h3⟩
   ·rw[Eh wo,(AD.mp em).2]
    exact AV ..
  | false=>
   rw[qY AK]
   refine .nx λm hm=>?_
   rw[AY,Ai,Hx,em]at hm
   rcases Ax.mp hm with q | q
   ·exact hI2 m q
   ·rw[show m=n ^^^ 2 ^ k by simpa using q]
    intro z;cases hb3.mpr z
 ·rcases Ax.mp hy with q | q
  ·exact hI n hn y q hb
  ·have e:=AU.mp q
   subst e;rw[An];exact hs _ (Ϭ n hn (by have:n.testBit ((k:Int)).toNat=true:=hb;rwa [An]at this))
structure Sf(us:List (Int×Int))(gs:List Int)(w i:Nat)(told:List Int)(m:Nat):Prop where
 ln:told.length=i
 pre:Pre us gs (bit w) told
 sm:m < 128
 bits:∀z:Nat,z < 7->(m.testBit z=true↔w.testBit z=true/\(z:Int)∉told)
theorem rM(h:E9 o us)(hg:∀g∈gs,0<=g/\g < o)(xw:gs.Nodup){Ws:List Nat}(hW:∀n∈Ws,n < 128)(hl:Ws.length<=1000):Ok (JW (tkl o us) gs (Ws.map cz)) λv=>(∃n∈Ws,∃t,InS us gs (bit n) t)->∃t n,v=some t/\n∈Ws/\InS us gs (bit n) t:=by
 have sm:=h.sm
 have hgl:gs.length<=7:=by
  have:=HZ (k:=DF 0 o) xw λx hx=>by rw[B9];have:=hg x hx;omega
  rw[Bo]at this;omega
 unfold JW JT;simp only[BQ,i4,AC];refine OkF.out (OkF.seq (OkF.for (λpre s=>∃L:List Nat,s.2=L.map cz/\L.length<=1000/\(∀l∈L,∃w∈Ws,Sf us gs w pre.length s.1 l)/\s.1.length=pre.length/\((∃n∈Ws,∃t,InS us gs (bit n) t)->∃l∈L,∃r,InS us (gs.drop pre.length) (bit l) r)) ⟨Ws,rfl,hl,λl zP=>⟨l,zP,rfl,⟨EM,by simp,λx hx=>(nomatch hx)⟩,hW l zP,by simp⟩,rfl,λz=>z⟩ ?_) ?_)
 ·rintro pre x ⟨told,lefts⟩ hx hp ⟨L,rfl,L1,L2',L4',L3⟩
  obtain⟨g,eg,rfl⟩:=dq hp;have yh:=hg g (BB eg);have ω:pre.length < gs.length:=(AD.mp eg).1;have eg':gs[pre.length]=g:=(AD.mp eg).2
  have hdr:gs.drop pre.length=g :: gs.drop (pre.length+1):=by rw[Eh ω,eg']
  have hd:∀g∈gs.drop (pre.length+1),0<=g/\g < o:=λg yh=>hg g (ag yh)
  dsimp only at L2' L4' ⊢;rw[Yr gs (by omega)]
  have hLs:∀n∈L,n < 128:=λn hn=>by obtain⟨w,_,s⟩:=L2' n hn;exact s.sm
  obtain⟨v,e1,hv⟩:=p0 h yh hd (xw.sublist (List.drop_sublist _ _)) hLs L1;rw[e1];simp only[AC]
  have con:∀{m:Nat},m < 128->∀{x:Int} {l:List Int},InS us (gs.drop pre.length) (bit m) (x :: l)↔x∈Tg us g/\bit m x/\InS us (gs.drop (pre.length+1)) (bit (m ^^^ 2 ^ x.toNat)) l:=λ{m} hm {x l}=>by rw[hdr];exact InS.cons h hm yh hd
  cases v with
  | none=>
   refine .rt λz=>?_
   obtain⟨l,zP,r,hr⟩:=L3 z
   cases r with
   | nil=>have:=hr.1;rw[hdr]at this;cases this
   | cons x r=>
    obtain⟨c1,c2,c3⟩:=(con (hLs l zP)).mp hr;exact zX ⟨r,c3⟩ (hv l zP x c1 c2)
  | some z=>
   obtain⟨x,L0⟩:=z;obtain⟨v1,L',v2,v3,v4,l,v5,v6⟩:=hv;dsimp only at v1 v2 v4 ⊢;subst v2;have xr:=(h.tg yh.1 yh.2).2.1 x v1;rw[SY (by omega)];refine .nx ⟨L',rfl,by omega,λl' hl'=>?_,by simp[L4'],λ_=>⟨l,v5,by rw[AY,Ai];exact v6⟩⟩;obtain⟨n,hn,nb,rfl⟩:=v4 l' hl';obtain⟨w,hw,s1,s2,s3,s4⟩:=L2' n hn;have nb':n.testBit x.toNat=true:=nb;obtain⟨xo1,xo2,xo3⟩:=WM n s3 x.toNat (by omega);obtain⟨wx,xt⟩:=(s4 x.toNat (by omega)).mp nb';rw[As xr.1]at xt;refine⟨w,hw,by simp[s1],⟨dQ.mpr ⟨s2.1,xt⟩,λy hy=>?_,λy hy=>?_⟩,xo2,λy hy=>?_⟩
   ·rcases(OI (by rw[s1];omega) y).mp hy with q | q
    ·exact s2.2.1 y q
    ·rw[s1,hdr,FD,HI,AU]at q
     rw[q];exact v1
   ·rcases Ax.mp hy with q | q
    ·exact s2.2.2 y q
    ·rw[AU.mp q];exact wx
   ·rw[xo3 y hy,bne_iff_ne,ne_eq,Ax,AU]
    by_cases e:x.toNat=y
    ·subst e
     rw[nb',wX rfl];exact⟨λz=>zX rfl z,λz=>zX (.inr (As xr.1)) z.2⟩
    ·rw[wY e,eu,s4 y hy]
     exact and_congr_right λ_=>⟨λz q=>q.elim z λq=>e (by omega),λz q=>z (.inl q)⟩
 ·rintro⟨told,lefts⟩ ⟨L,rfl,L1,L2',L4',L3⟩
  refine .rt λz=>?_
  obtain⟨l,zP,-⟩:=L3 z;obtain⟨w,hw,s1,s2,s3,s4⟩:=L2' l zP
  have hlen:(N4 gs).length=gs.length:=by unfold N4;simp
  rw[hlen]at s1;exact⟨told,w,rfl,hw,s1,s2.1,s2.2.1,s2.2.2⟩
end
theorem nI(h:rs≠[]):∃b,Yu rs=some b/\b∈rs:=by
 have key:∀(f:Nat->Nat->Bool) k,Gj f k<=k:=by
  intro f k
  induction k with
  | zero=>exact AO _
  | succ k ih=>
   unfold Gj;split
   ·exact AO _
   ·omega
 have hl:0 < rs.length:=cP.mpr h;unfold Yu;have a:=key (λi j=>HT.lexLt (rs.getD i []) (rs.getD j [])) (rs.length - 1);generalize Gj (λi j=>HT.lexLt (rs.getD i []) (rs.getD j [])) (rs.length - 1)=n at a
 have hn:n < rs.length:=by omega
 exact⟨rs[n],Af hn,Df hn⟩
section
variable{o g:Nat}{us:List (Int×Int)}{kd:Str}{f:Fp}{n b:Nat}{r:List Int}{c:Int}{T:TL}
theorem jU(h:E9 o us)(hg:g<=o)(h1:1<=g)(F:Fk o g us kd f)(hk:kd = "one"∨kd = "all") (hn:(sts o g)[n]?=some r) (hc:c∉r) (hb:b < 2 ^ (sts o g).length) (hb0:∃j,b.testBit j=true) (Ε:∀j,b.testBit j=true->BS o g us kd n c j) :
  Ok (Ec f n c b) λv=>∃s j,v=some s/\Ans kd us r c s/\b.testBit j=true/\(sts o g)[j]?=some (CF s):=by
 have sm:=h.sm;have hS:=(FU sm hg h1).mp (BB hn);obtain⟨-,-,hl⟩:=NU o sm g (by omega) hg h1;obtain⟨l,el,l1,l2⟩:=OQ hb (by omega);obtain⟨j0,hj0⟩:=hb0
 have ϭ:∀x∈l,∃r',(sts o g)[x.toNat]?=some r'/\Lk kd us r r'/\c∈r':=λx hx=>by
  obtain⟨q,r',e1,e2,e3⟩:=Ε _ ((l2 x).mp hx).2;rw[hn]at e1;cases e1;exact⟨r',e2,e3⟩
 have Ϯ:(j0:Int)∈l:=(l2 _).mpr ⟨by omega,by rw[An];exact hj0⟩
 have hll:l.length<=35:=by
  have:=HZ (k:=DF 0 (sts o g).length) (LU l1) λx hx=>by
   obtain⟨x0,hxb⟩:=(l2 x).mp hx;have:=XW hb hxb;rw[B9];omega
  rw[Bo]at this;omega
 unfold Ec Eb;rw[F.ev,QE hn,F.kd,el];simp only[AC,BQ]
 rcases hk with k | k
 ·subst k
  rw[wY (show ¬(("one" : Str) = "all") by decide +kernel),qY AK];simp only[BQ,i4,AC];refine OkF.out (OkF.seq (OkF.for (λpre (s:List (List Int))=>s=pre.map λx=>r.map λy=>if y∈evN o g x then y else c) rfl ?_) ?_)
  ·rintro pre x s hx hp rfl
   have wD:=hp.length_le;rw[AY,Ai]at wD;obtain⟨r',e2,-⟩:=ϭ x hx;obtain⟨x0,-⟩:=(l2 x).mp hx
   have ex:evN o g x=r':=by have:=Mm e2;rwa [As x0]at this
   rw[EX (f:=λy=>if y∈evN o g x then y else c) (by rw[hS.1];omega) λy _=>by
    rw[KB x0 e2];simp only[AC];rw[ex]
    by_cases q:y∈r'
    ·rw[wX q,qX rfl,qX q]
    ·rw[wY q,qY AK,qY q]]
   simp only[AC];rw[SY (by rw[AF];omega)];refine .nx ?_;rw[CS];rfl
  ·rintro s rfl
   obtain⟨w,ew,hw⟩:=nI (rs:=l.map λx=>r.map λy=>if y∈evN o g x then y else c) (λz=>by rw[cO.mp z]at Ϯ;cases Ϯ);rw[ew];obtain⟨x,hx,rfl⟩:=BD.mp hw;obtain⟨r',e2,e3,e4⟩:=ϭ x hx;obtain⟨x0,xb⟩:=(l2 x).mp hx
   have ex:evN o g x=r':=by have:=Mm e2;rwa [As x0]at this
   unfold Lk at e3;rw[qX rfl]at e3;obtain⟨a,ha,d,hd,hdr,e5⟩:=e3
   have cd:c=d:=by
    rw[<-e5]at e4
    rcases(IW ha).mp (Bz.mp e4)with q | q
    ·exact q
    ·exact zX q.1 hc
   subst cd
   have ew2:(r.map λy=>if y∈evN o g x then y else c)=wst r a c:=by
    unfold wst
    refine DS λy hy=>?_
    have:y∈evN o g x↔¬y=a:=by
     rw[ex,<-e5,Bz,IW ha];exact⟨λq=>q.elim (λq=>zX hy (by rw[q];exact hc)) (·.2),λq=>.inr ⟨hy,q⟩⟩
    by_cases q:y=a
    ·rw[qX q,qY (λz=>this.mp z q)]
    ·rw[qY q,qX (this.mpr q)]
   refine .rt ⟨_,x.toNat,rfl,?_,xb,?_⟩
   ·unfold Ans
    rw[qX rfl];refine⟨a,ha,?_,ew2⟩
    rcases KH.mp hd with q | q
    ·rw[q]at hc;exact zX ha hc
    ·exact q
   ·rw[ew2,e5];exact e2
 ·subst k
  rw[wX rfl,qX rfl]
  have k1:¬(("all" : Str) = "one"):=by decide +kernel
  have pbx:∀x∈l,∃m:Nat,atI f.pb x=some (m:Int)/\m < 128/\∀r',(sts o g)[x.toNat]?=some r'->∀y:Int,0<=y->y < 7->(m.testBit y.toNat=true↔y∈r'):=λx hx=>by
   obtain⟨r',e2,-⟩:=ϭ x hx;obtain⟨m,m1,m2,m3⟩:=F.pb _ _ e2;exact⟨m,KB ((l2 x).mp hx).1 m1,m2,λr'' e=>by rw[e2]at e;cases e;exact m3⟩
  have pbe:∀x∈l,atI f.pb x=some (cz ((atI f.pb x).getD 0).toNat):=λx hx=>by
   obtain⟨m,m1,-⟩:=pbx x hx;rw[m1];rfl
  rw[EX (f:=λx=>cz ((atI f.pb x).getD 0).toNat) (by omega) pbe];simp only[AC];rw[show(l.map λx=>cz ((atI f.pb x).getD 0).toNat)=(l.map λx=>((atI f.pb x).getD 0).toNat).map cz by rw[BF];rfl,F.tk]
  obtain⟨v,ev,hv⟩:=rM h (gs:=r) hS.2.1 (LU hS.2.2) (Ws:=l.map λx=>((atI f.pb x).getD 0).toNat) (λw hw=>by
   obtain⟨x,hx,rfl⟩:=BD.mp hw;obtain⟨m,m1,m2,-⟩:=pbx x hx;rw[m1]
   exact m2) (by rw[AF];omega)
  rw[ev]
  have ϯ:∀x∈l,∀r',(sts o g)[x.toNat]?=some r'->∀y:Int,0<=y->y < 7->(bit ((atI f.pb x).getD 0).toNat y↔y∈r'):=λx hx r' e y y0 y7=>by
   obtain⟨m,m1,m2,m3⟩:=pbx x hx;rw[m1];exact m3 r' e y y0 y7
  obtain⟨t,w,rfl,hw,ht⟩:=hv (by
   obtain⟨r',e2,e3,-⟩:=ϭ _ Ϯ;unfold Lk at e3;rw[qY k1]at e3;obtain⟨s,hs⟩:=e3;refine⟨_,BD.mpr ⟨_,Ϯ,rfl⟩,s,hs.imp λy _ q=>?_⟩;have:=((FU sm hg h1).mp (BB e2)).2.1 y q
   exact(ϯ _ Ϯ r' e2 y this.1 (by omega)).mpr q)
  obtain⟨x,hx,rfl⟩:=BD.mp hw;obtain⟨r',e2,e3,e4⟩:=ϭ x hx;have yR:=(FU sm hg h1).mp (BB e2)
  have zi:InS us r (·∈r') t:=ht.imp λy hy q=>by
   have:=ht.rg h hS.2.1 y hy;exact(ϯ x hx r' e2 y this.1 (by omega)).mp q
  have all:=SH zi.2.1 zi.2.2.2 (by rw[zi.1,hS.1,yR.1]);refine⟨_,rfl,t,x.toNat,rfl,?_,((l2 x).mp hx).2,?_⟩
  ·unfold Ans
   rw[qY k1];exact⟨zi.1,zi.2.1,zi.2.2.1,all c e4⟩
  ·rw[e2,Im (Ik zi.2.1) yR.2.2 λy=>Bz.trans ⟨zi.2.2.2 y,all y⟩]
theorem qD(h:E9 o us)(hg:g<=o)(h1:1<=g)(F:Fk o g us kd f)(hk:kd = "one"∨kd = "all") (hn:(sts o g)[n]?=some r) (hb:b < 2 ^ (sts o g).length) (Ε:∀c∈clS o g n,∃j,BS o g us kd n c j/\b.testBit j=true) :
  ∃A:Int->List Int,E4 f n b=some ((clS o g n).map λc=>(c,some (A c)))/\∀c∈clS o g n,Ans kd us r c (A c)/\∃j,b.testBit j=true/\(sts o g)[j]?=some (CF (A c)):=by
 have D:=jF h hg h1 F;have hN:=(AD.mp hn).1;obtain⟨c1,c2,-⟩:=D.cs n hN
 have one:∀c∈clS o g n,∃s,Eu f n c b=some (some s)/\Ans kd us r c s/\∃j,b.testBit j=true/\(sts o g)[j]?=some (CF s):=λc hc=>by
  obtain⟨v,e,q,rfl,hq⟩:=D.bh n hN c hc;have lt:q &&& b < 2 ^ (sts o g).length:=Nat.and_lt_two_pow _ hb;obtain⟨j,j1,j2⟩:=Ε c hc
  obtain⟨v,e2,s,j,rfl,s1,s2,s3⟩:=jU h hg h1 F hk hn ((aJ hn).mp hc).2 lt ⟨j,by rw[HH,(hq j).mpr j1,j2];rfl⟩ λj hj=>by
   rw[HH,CU]at hj;exact(hq j).mp hj.1
  rw[HH,CU]at s2;refine⟨s,?_,s1,j,s2.2,s3⟩;unfold Eu HS;simp only[AC];rw[e];simp only[AC];rw[QG,e2];rfl
 refine⟨λc=>((Eu f n c b).getD none).getD [],?_,λc hc=>?_⟩
 ·unfold E4 JR
  rw[c1];simp only[AC]
  rw[EX (f:=λc=>(c,some (((Eu f n c b).getD none).getD []))) (by omega) λc hc=>by
   obtain⟨s,e,-⟩:=one c hc;rw[e]
   rfl]
  rfl
 ·obtain⟨s,e,q⟩:=one c hc
  dsimp only;rw[e];exact q
theorem lh(h:E9 o us)(hg:g<=o)(h1:1<=g)(hk:kd = "one"∨kd = "all"):∃T,Fa (sts o g).length (clS o g) (BS o g us kd) T/\Ok (Gv (o,us) g kd) λv=>match v with
  | none=>∀r,¬La o g T r
  | some pp=>(∃r,La o g T r)/\∃R:Int->List (Int×Option (List Int)),pp=((DF 0 (sts o g).length).filter λn=>!(Aj T n).isSome).map (λn=>(evN o g n,R n))/\∀n:Nat,n < (sts o g).length->Aj T (n:Int)=none->∃A:Int->List Int,R n=(clS o g n).map (λc=>(c,some (A c)))/\∀c∈clS o g n,Ans kd us (evN o g n) c (A c)/\La o g T (CF (A c)):=by
 have sm:=h.sm;obtain⟨-,-,hl⟩:=NU o sm g (by omega) hg h1;obtain⟨f,ef,F⟩:=bn (kd:=kd) h hg h1;have D:=jF h hg h1 F;obtain⟨T,eT,hT⟩:=Yn D;refine⟨T,hT,?_⟩;obtain⟨b,e1,b1,b2⟩:=V3 (T:=T) D;obtain⟨l,e2,l1,l2⟩:=OQ b1 (by omega)
 have el:l=(DF 0 (sts o g).length).filter λn=>!(Aj T n).isSome:=Im l1 ((MD 0 _).filter _) λx=>by
  rw[l2,BM,B9,b2]
  constructor
  ·rintro⟨x0,a,q⟩
   rw[As x0]at q;exact⟨⟨x0,by omega⟩,by rw[q];rfl⟩
  ·rintro⟨⟨x0,a⟩,q⟩
   refine⟨x0,by omega,?_⟩;rw[As x0]
   cases hv:Aj T x with
   | none=>rfl
   | some z=>rw[hv]at q;cases q
 unfold Gv Ia;simp only[AC];rw[ef];simp only[AC,BQ];rw[eT];simp only[AC];rw[e1];simp only[AC,BQ]
 by_cases hb:b=0
 ·rw[wX (show(b:Int)=0 by omega),qX rfl]
  refine⟨none,rfl,λr ⟨n,hn,hv⟩=>?_⟩;have:=(b2 n).mpr ⟨(AD.mp hn).1,hv⟩;rw[hb,Si]at this;cases this
 ·rw[wY (show ¬(b:Int)=0 by omega),qY AK]
  simp only[BQ];rw[e2];simp only[AC]
  have wZ:∀n:Nat,n < (sts o g).length->Aj T (n:Int)=none->∃A:Int->List Int,E4 f n b=some ((clS o g n).map λc=>(c,some (A c)))/\∀c∈clS o g n,Ans kd us (evN o g n) c (A c)/\La o g T (CF (A c)):=λn hn hv=>by
   have hr:=Af hn
   obtain⟨A,a1,a2⟩:=qD h hg h1 F hk hr b1 λc hc=>by
    obtain⟨j,j1,j2⟩:=hT.no n hn hv c hc;exact⟨j,j1,(b2 j).mpr ⟨D.rg _ _ _ j1,j2⟩⟩
   refine⟨A,a1,λc hc=>?_⟩;obtain⟨q1,j,q2,q3⟩:=a2 c hc;rw[Mm hr];exact⟨q1,j,q3,((b2 j).mp q2).2⟩
  have lN:∀x∈l,0<=x/\x.toNat < (sts o g).length/\Aj T x=none:=λx hx=>by
   obtain⟨x0,xb⟩:=(l2 x).mp hx;obtain⟨q1,q2⟩:=(b2 _).mp xb;rw[As x0]at q2;exact⟨x0,q1,q2⟩
  have hll:=ER (λn=>!(Aj T n).isSome) (DF 0 (sts o g).length);rw[Bo,<-el]at hll
  rw[EX (f:=λn=>(evN o g n,(E4 f n b).getD [])) (by omega) λx hx=>by
   obtain⟨x0,xN,xv⟩:=lN x hx;have hr:=Af xN;have ex:=Mm hr;rw[As x0]at ex;obtain⟨A,a1,-⟩:=wZ x.toNat xN (by rw[As x0];exact xv);rw[As x0]at a1;rw[F.ev,KB x0 hr,a1,ex]
   rfl]
  refine⟨_,rfl,?_,λn=>(E4 f n b).getD [],by rw[el],λn hn hv=>?_⟩
  ·obtain⟨j,j1,-⟩:=bX b (by omega)
   obtain⟨q1,q2⟩:=(b2 j).mp j1;exact⟨_,j,Af q1,q2⟩
  ·obtain⟨A,a1,a2⟩:=wZ n hn hv
   exact⟨A,by dsimp only;rw[a1];rfl,a2⟩
end
def KZ(Ah:(Nat×List (Int×Int)))(BI:Str):Option (Fw Bool Unit):=
 BH (((some []).bind Mc).bind λx2=>some (.nx x2)) λv1=>BH (((some (1:Int)).bind λx7=>(((some Ah).bind λx3=>some (x3.1:Int)).bind λx5=>(some (1:Int)).bind λx6=>some (x5+x6)).bind λx8=>YL x7 x8).bind λl88=>Eg l88 v1 λ(s9:(List (List Int))) wu=>BH ((((some Ah).bind λxj=>((some wu).bind λxU=>((some BI).bind λzN=>(some ()).bind λxc=>some (zN,xc)).bind λxD=>some (xU,xD)).bind λxM=>some (xj,xM)).bind λxy=>GU xy.1 xy.2.1 xy.2.2.1).bind λyN=>some (.nx yN)) λv11=>BH ((((((some Ah).bind λxo=>some (xo.1:Int)).bind λxq=>((some s9).bind λyx=>((some v11).bind λϨ=>(some ()).bind λwL=>some (Ϩ,wL)).bind λϩ=>some (yx,ϩ)).bind λzK=>some (xq,zK)).bind λxh=>Nf xh.1 xh.2.1 xh.2.2.1).bind λwH=>some (!wH)).bind λym=>if ym=true then(some false).bind λx29=>some (.rt x29)else some (.nx ())) λ_=>BH (((((some v11).bind λl41=>Ep l41 (λzd=>some true) (λzd=>(((some Ah).bind λyn=>((some zd).bind λϦ=>(some ()).bind λϠ=>some (Ϧ,Ϡ)).bind λx39=>some (yn,x39)).bind λϰ=>FY ϰ.1 ϰ.2.1).bind λϣ=>some ϣ.isNone)).bind λx42=>some (x42.all id)).bind λx43=>some (!x43)).bind λx45=>if x45=true then(some false).bind λx44=>some (.rt x44)else some (.nx ())) λ_=>BH ((((some wu).bind λϔ=>(((some Ah).bind λx52=>((some BI).bind λx53=>(some ()).bind λx54=>some (x53,x54)).bind λyi=>some (x52,yi)).bind λϱ=>Pw ϱ.1 ϱ.2.1).bind λϕ=>some (decide (ϔ < ϕ))).bind λyQ=>((some v11).bind λyM=>((some []).bind Mc).bind λx58=>some (decide (yM=x58))).bind λx49=>some (!decide (yQ=x49))).bind λx60=>if x60=true then(some false).bind λx59=>some (.rt x59)else some (.nx ())) λ_=>BH ((((((some Ah).bind λx67=>((some wu).bind λx68=>((some BI).bind λϙ=>(some ()).bind λx70=>some (ϙ,x70)).bind λx71=>some (x68,x71)).bind λx72=>some (x67,x72)).bind λzQ=>Gv zQ.1 zQ.2.1 zQ.2.2.1).bind λϘ=>some Ϙ.isNone).bind λMy=>((((some Ah).bind λx76=>((some wu).bind λx77=>((some BI).bind λx78=>(some ()).bind λx79=>some (x78,x79)).bind λx80=>some (x77,x80)).bind λx81=>some (x76,x81)).bind λzR=>HY zR.1 zR.2.1 zR.2.2.1).bind λx74=>some x74.isSome).bind λϗ=>some (!decide (My=ϗ))).bind λx84=>if x84=true then(some false).bind λx83=>some (.rt x83)else some (.nx ())) λ_=>Ew (λ_=>v11) (some (.nx ()))) λs89=>(((some s89).bind λx93=>some (x93.length:Int)).bind λx91=>(some (1:Int)).bind λx92=>some (decide (x91=x92))).bind λx94=>some (.rt x94)
def Kc(Ah:(Nat×List (Int×Int)))(BI:Str):Option Bool:=FC (KZ Ah BI)
theorem RP(W:Wd)(Ah:(Nat×List (Int×Int)))(BI:Str):VF (Kj W) [.z ((DU W) Ah),.v (D.str BI)] (rV D.bl) (Kc Ah BI):=by
 refine Dr (n:=5) (b:=N9 W) (p:=KZ Ah BI) (B:=λ_=>[]) ?_;show VS [.z ((DU W) Ah),.v (D.str BI),.u,.u,.u] _ _ _ _;unfold N9 KZ;exact(BA (JO (Du (Ij JA))) (λv1=>(BA (Dt (s0:=v1) (B:=(λ(s90:(List (List Int)))=>[.z ((DU W) Ah),.v (D.str BI),.y ((oL (eT D.int)) s90),.u,.u])) (LR (Ck rfl) (JB (EV (Bs rfl)) (Ck rfl))) DV (.refl _) (λs9 wu=>(BA (JO (Ba (G5 (Bs rfl) (CM (AM rfl) (CM (AM rfl) Bb))) (λxy=>OK W xy.1 xy.2.1 xy.2.2.1) (λ_=>rfl) IC)) (λv11=>(BA (Gb (B:=(λ(_:Unit)=>[.z ((DU W) Ah),.v (D.str BI),.y ((oL (eT D.int)) s9),.v (D.int wu),.y ((oL (eT D.int)) v11)])) (Ov (QX (Ba (CM (EV (Bs rfl)) (G5 (EY rfl) (G5 (EY rfl) Bb))) (λxh=>X5 W xh.1 xh.2.1 xh.2.2.1) (λ_=>rfl) Db))) (Cr (Ck rfl)) (Ga (.refl _))) (λ_=>(BA (Gb (B:=(λ(_:Unit)=>[.z ((DU W) Ah),.v (D.str BI),.y ((oL (eT D.int)) s9),.v (D.int wu),.y ((oL (eT D.int)) v11)])) (Ov (JP (fS (au (KR (Du (Di (VI.k (av rfl)) (λzd=>G1) (λzd=>(pO qt (Ba (G5 (Bs rfl) (CM (AM rfl) Bb)) (λϰ=>Pl W ϰ.1 ϰ.2.1) (λ_=>rfl) Db)))))))))) (Cr (Ck rfl)) (Ga (.refl _))) (λ_=>(BA (Gb (B:=(λ(_:Unit)=>[.z ((DU W) Ah),.v (D.str BI),.y ((oL (eT D.int)) s9),.v (D.int wu),.y ((oL (eT D.int)) v11)])) (JP (nz i8 oM (n8 (AM rfl) (Ba (G5 (Bs rfl) (CM (AM rfl) Bb)) (λϱ=>fY W ϱ.1 ϱ.2.1) (λ_=>rfl) Db)) (pS (XN E8) (EY rfl) (KR (Du (Ij JA)))))) (Cr (Ck rfl)) (Ga (.refl _))) (λ_=>(BA (Gb (B:=(λ(_:Unit)=>[.z ((DU W) Ah),.v (D.str BI),.y ((oL (eT D.int)) s9),.v (D.int wu),.y ((oL (eT D.int)) v11)])) (JP (nz i8 oM (kL (Ba (G5 (Bs rfl) (CM (AM rfl) (CM (AM rfl) Bb))) (λzQ=>Uv W zQ.1 zQ.2.1 zQ.2.2.1) (λ_=>rfl) gZ)) (pL (Ba (G5 (Bs rfl) (CM (AM rfl) (CM (AM rfl) Bb))) (λzR=>TK W zR.1 zR.2.1 zR.2.2.1) (λ_=>rfl) gZ)))) (Cr (Ck rfl)) (Ga (.refl _))) (λ_=>(Ct (Vb rfl) (λ_=>(.same (.same (.same (.drop (.drop .nil))))))))))))))))))) (λs89=>(Cr (Oh E8 Nk (Pi (EY rfl)) (Ck rfl)))))))
def bG(BX:(List Int)):Option (Fw Bool Unit):=
 BH ((((some BX).bind λxj=>(((some (5:Int)).bind λwu=>((((((some BX).bind λx3=>((some (2:Int)).bind λx4=>(some ()).bind λx5=>some (x4,x5)).bind λx6=>some (x3,x6)).bind λz7=>DM z7.1 z7.2.1).bind λx8=>some (x8 % 4)).bind λx1=>(some (1:Int)).bind λx2=>some (decide (x1=x2))).bind λx9=>some (if x9=true then 1 else 0)).bind λx11=>some (wu+x11)).bind λxU=>(some ()).bind λzN=>some (xU,zN)).bind λxc=>some (xj,xc)).bind λxZ=>IN xZ.1 xZ.2.1).bind λzL=>some (.nx zL)) λyA=>BH (((some yA.1).bind λxo=>(some yA.2).bind λxq=>fA xo xq).bind λyx=>some (.nx yx)) λyj=>BH ((((((some yj).bind λϨ=>((some ("one" : Str)).bind λwL=>(some ()).bind λϩ=>some (wL,ϩ)).bind λzK=>some (Ϩ,zK)).bind λxh=>Kc xh.1 xh.2.1).bind λwH=>some (!wH)).bind λzM=>if zM=true then some true else(((some yj).bind λx29=>((some ("all" : Str)).bind λym=>(some ()).bind λyO=>some (ym,yO)).bind λB'=>some (x29,B')).bind λz33=>Kc z33.1 z33.2.1).bind λϣ=>some (!ϣ)).bind λϦ=>if Ϧ=true then(some false).bind λyn=>some (.rt yn)else some (.nx ())) λ_=>BH (((some (1:Int)).bind λx43=>((some yA.1).bind λx41=>(some (1:Int)).bind λx42=>some (x41+x42)).bind λx44=>YL x43 x44).bind λl73=>Eg l73 () λ(_:Unit) D'=>BH ((((some yj).bind λyQ=>((some D').bind λx49=>((some ("all" : Str)).bind λϔ=>(some ()).bind λϕ=>some (ϔ,ϕ)).bind λx52=>some (x49,x52)).bind λx53=>some (yQ,x53)).bind λzS=>GU zS.1 zS.2.1 zS.2.2.1).bind λyi=>some (.nx yi)) λyz=>Ew (λ_=>()) (((((((some yj).bind λx56=>((some D').bind λyM=>((some ("one" : Str)).bind λx58=>(some ()).bind λx59=>some (x58,x59)).bind λx60=>some (yM,x60)).bind λx61=>some (x56,x61)).bind λzT=>GU zT.1 zT.2.1 zT.2.2.1).bind λl66=>Ep l66 (λMy=>some true) (λMy=>(some My).bind λϗ=>(some yz).bind λϘ=>some (Yc ϗ Ϙ))).bind λx67=>some (x67.all id)).bind λx68=>some (!x68)).bind λx70=>if x70=true then(some false).bind λϙ=>some (.rt ϙ)else some (.nx ()))) λ_=>(some true).bind λx76=>some (.rt x76)
def oH(BX:(List Int)):Option Bool:=FC (bG BX)
theorem t5(W:Wd)(BX:(List Int)):VF (bo W) [.v (eF BX)] (rV D.bl) (oH BX):=by
 refine Dr (n:=6) (b:=jS W) (p:=bG BX) (B:=λ_=>[]) ?_;show VS [.v (eF BX),.u,.u,.u,.u,.u] _ _ _ _;unfold jS bG;exact(BA (kD (Ba (CM (AM rfl) (CM (JB (Ck rfl) (pP (Oh E8 Nk (KS rfl (Ba (CM (AM rfl) (CM (Ck rfl) Bb)) (λz7=>Jg W z7.1 z7.2.1) (λ_=>rfl) Db)) (Ck rfl)))) Bb)) (λxZ=>QZ W xZ.1 xZ.2.1) (λ_=>rfl) uQ)) (λyA=>(BA (JO (pI (AM rfl) (EY rfl))) (λyj=>(BA (Gb (B:=(λ(_:Unit)=>[.v (eF BX),.v (D.int yA.1),.y ((oL (eP D.int D.int)) yA.2),.y ((DU W) yj),.u,.u])) (t4 (Ov (QX (Ba (G5 (EY rfl) (CM (Ck rfl) Bb)) (λxh=>RP W xh.1 xh.2.1) (λ_=>rfl) Db))) (Ov (QX (Ba (G5 (EY rfl) (CM (Ck rfl) Bb)) (λz33=>RP W z33.1 z33.2.1) (λ_=>rfl) Db)))) (Cr (Ck rfl)) (Ga (.refl _))) (λ_=>(BA (Dt (s0:=()) (B:=(λ(_:Unit)=>[.v (eF BX),.v (D.int yA.1),.y ((oL (eP D.int D.int)) yA.2),.y ((DU W) yj),.u,.u])) (LR (Ck rfl) (JB (AM rfl) (Ck rfl))) DV (.refl _) (λ_ D'=>(BA (JO (Ba (G5 (EY rfl) (CM (AM rfl) (CM (Ck rfl) Bb))) (λzS=>OK W zS.1 zS.2.1 zS.2.2.1) (λ_=>rfl) IC)) (λyz=>(Ct (Gb (B:=(λ(_:Unit)=>[.v (eF BX),.v (D.int yA.1),.y ((oL (eP D.int D.int)) yA.2),.y ((DU W) yj),.v (D.int D'),.y ((oL (eT D.int)) yz)])) (Ov (JP (fS (au (KR (Du (Di (VI.k (Ks (Ba (G5 (EY rfl) (CM (AM rfl) (CM (Ck rfl) Bb))) (λzT=>OK W zT.1 zT.2.1 zT.2.2.1) (λ_=>rfl) IC))) (λMy=>G1) (λMy=>(kM (AM rfl) (EY rfl)))))))))) (Cr (Ck rfl)) (Ga (.refl _))) (λ_=>(.same (.same (.same (.same (.drop (.drop .nil)))))))))))) (λ_=>(Cr (Ck rfl))))))))))
theorem XV{α β:Type}(a:α)(f:α->Option β):(some a).bind f=f a:=congrArg id (AC a f)
theorem nG{ρ σ τ:Type}(s:σ)(q:σ->Option (Fw ρ τ)):BH (some (.nx s)) q=q s:=congrArg id BQ
theorem vM{α:Type}:Mc ([]:List α)=some []:=congrArg id i4
theorem Pu{s:List (Int×Bool)}{x y:Int}{v:Bool}(h:(Aj s y).isSome=true):(Aj (CJ s x v) y).isSome=true:=by
 rw[Cc];split
 ·rfl
 ·exact h
section
variable{o g:Nat}{us:List (Int×Int)}{kd:Str}
theorem t7(h:E9 o us){r:List Int}(hr:∀x∈r,0<=x/\x < (o:Int))(hl:r.length<=7)(hw:∀c:Int,0<=c->c < o->∃a∈r,c∈Tg us a):FY (o,us) r=some none:=by
 refine Ok.is (OkF.out ?_);unfold FX;simp only[BQ];refine OkF.seq (OkF.for (λpre (s:List (Int×Bool))=>s.length<=7 * pre.length/\∀a∈pre,∀y∈Tg us a,(Aj s y).isSome=true) ⟨AO _,λa ha=>zX ha Gm⟩ ?_) ?_
 ·rintro pre x s hx hp ⟨sl,sv⟩
  have wD:=hp.length_le;rw[AY,Ai]at wD;obtain⟨x0,x1⟩:=hr x hx;rw[show KN s x true=some (CJ s x true)from qX (by omega)];simp only[AC,BQ];rw[iE x0 x1];simp only[AC];have hx6:=h.len x x0 x1;have p1:=RQ s x true;refine OkF.map (OkF.for (λwW (t:List (Int×Bool))=>t.length<=7 * pre.length+1+wW.length/\(Aj t x).isSome=true/\(∀y∈wW,(Aj t y).isSome=true)/\∀a∈pre,∀y∈Tg us a,(Aj t y).isSome=true) ⟨by rw[D4];omega,by rw[Cc,qX rfl];rfl,λy hy=>zX hy Gm,λa ha y hy=>Pu (sv a ha y hy)⟩ ?_) ?_
  ·rintro wW y t hy xQ ⟨tl,t1,t2,t3⟩
   have zO:=xQ.length_le;rw[AY,Ai]at zO;rw[show KN t y true=some (CJ t y true)from qX (by omega)];have p2:=RQ t y true;refine .nx ⟨?_,Pu t1,λz hz=>?_,λa ha z hz=>Pu (t3 a ha z hz)⟩
   ·show(CJ t y true).length<=_
    rw[AY,Ai];omega
   ·rcases Ax.mp hz with hz | hz
    ·exact Pu (t2 z hz)
    ·rw[AU.mp hz,Cc,qX rfl]
     rfl
  ·rintro t ⟨tl,t1,t2,t3⟩
   refine⟨?_,λa ha y hy=>?_⟩
   ·rw[AY,Ai]
    omega
   ·rcases Ax.mp ha with ha | ha
    ·exact t3 a ha y hy
    ·rw[AU.mp ha]at hy
     rcases KH.mp hy with rfl | hy
     ·exact t1
     ·exact t2 y hy
 ·rintro s ⟨-,sv⟩
  have o8:=h.sm;simp only[AC];rw[MF (by omega) (by omega),An];simp only[AC]
  refine OkF.seq (OkF.for (λ_ _=>True) trivial λpre x _ hx hp _=>?_) λ_ _=>.rt rfl
  obtain⟨x0,x1⟩:=B9.mp hx;obtain⟨a,ha,hc⟩:=hw x x0 (by omega);rw[sv a ha x hc];exact .nx trivial
theorem rT:∀o:Nat,o < 8->∀g:Nat,g < 8->g<=o->1<=g->decide (G6 (o,[]) g=some ((sts o g).length:Int))=true:=by decide +kernel
theorem vE(ho:o < 8)(hg:g<=o)(h1:1<=g):G6 (o,us) g=some ((sts o g).length:Int):=(show G6 (o,us) g=G6 (o,[]) g from rfl).trans (of_decide_eq_true (rT o ho g (by omega) hg h1))
theorem fy:∀o:Nat,o < 8->1<=o->(sts o o).length=1:=by decide +kernel
structure Ls(o:Nat)(us:List (Int×Int))(kd:Str)(g:Nat)(L:List (List Int)):Prop where
 eq:GU (o,us) g kd=some L
 cl:OE o g us kd (·∈L)
 all:∀P,OE o g us kd P->∀r,P r->r∈L
 ln:L.length<=(sts o g).length
 gp:Ok (Gv (o,us) g kd) λv=>v.isNone=true↔L=[]
 cp:Ok (HY (o,us) g kd) λv=>v.isSome=true↔L=[]
theorem ls_p(h:E9 o us)(hg:g<=o)(h1:1<=g)(hk:kd = "one"∨kd = "all"):∃L,Ls o us kd g L:=by
 obtain⟨T,hT,e1,e2⟩:=sG (kd:=kd) h hg h1
 have mem:∀r,r∈((DF 0 (sts o g).length).filter λn=>!(Aj T n).isSome).map (evN o g)↔La o g T r:=λr=>iR h.sm hg h1
 refine⟨_,e1,λr hr=>?_,λP hP r hr=>(mem r).mpr (RC h hg h1 hT hP hr),?_,?_,?_⟩
 ·obtain⟨q1,q2⟩:=Qy h hg h1 hT r ((mem r).mp hr)
  refine⟨q1,λc c0 c1 c2=>?_⟩;obtain⟨s,s1,s2⟩:=q2 c c0 c1 c2;exact⟨s,s1,(mem _).mpr s2⟩
 ·rw[AF]
  have:=ER (λn=>!(Aj T n).isSome) (DF 0 (sts o g).length);rwa [Bo]at this
 ·obtain⟨T',hT',v,ev,hv⟩:=lh h hg h1 hk
  refine⟨v,ev,?_⟩
  cases v with
  | none=>
   refine⟨λ_=>List.eq_nil_iff_forall_not_mem.mpr λr hr=>hv r (RC h hg h1 hT' (Qy h hg h1 hT) ((mem r).mp hr)),λ_=>rfl⟩
  | some pp=>
   obtain⟨⟨r,hr⟩,-⟩:=hv;exact⟨λq=>zX q AK,λq=>zX ((mem r).mpr (RC h hg h1 hT (Qy h hg h1 hT') hr)) (by rw[q];exact Gm)⟩
 ·unfold HY HU
  rw[e2];simp only[AC,BQ];rw[vE h.sm hg h1];simp only[AC];refine⟨_,rfl,?_⟩;rw[AF];have k1:=List.length_filter_eq_length_iff (l:=DF 0 (sts o g).length) (p:=λn=>(Aj T n).isSome);rw[Bo]at k1
  have k2:((DF 0 (sts o g).length).filter λn=>!(Aj T n).isSome).map (evN o g)=[]↔∀n∈DF 0 (sts o g).length,(Aj T n).isSome=true:=by
   rw[cO,List.filter_eq_nil_iff]
   refine forall_congr' λn=>forall_congr' λ_=>?_
   cases(Aj T n).isSome <;> simp
  rw[k2,<-k1]
  by_cases c:((DF 0 (sts o g).length).filter λn=>(Aj T n).isSome).length=(sts o g).length
  ·rw[c,wX (rfl:((sts o g).length:Int)=_),qX rfl]
   exact⟨λ_=>rfl,λ_=>rfl⟩
  ·rw[wY (show ¬(((DF 0 (sts o g).length).filter λn=>(Aj T n).isSome).length:Int)=((sts o g).length:Int) by omega),qY AK]
   exact⟨λz=>zX z AK,λz=>zX z c⟩
def lsG(o:Nat)(us:List (Int×Int))(kd:Str)(g:Nat):List (List Int):=(GU (o,us) g kd).getD []
theorem No(h:E9 o us)(hg:g<=o)(h1:1<=g)(hk:kd = "one"∨kd = "all"):Ls o us kd g (lsG o us kd g):=by
 obtain⟨L,hL⟩:=ls_p h hg h1 hk;unfold lsG;rw[hL.eq];exact hL
theorem iF(h:E9 o us)(hg:g < o)(h1:1<=g)(hk:kd = "one"∨kd = "all") {r:List Int} (hr:r∈lsG o us kd g) {x:Int} (x0:0<=x) (x1:x < o) (hx:x∉r):CF (x :: r)∈lsG o us kd (g+1):=
 (No h hg (by omega) hk).all _ (grow h (No h (by omega) h1 hk).cl) _ ⟨r,x,hr,⟨x0,x1⟩,hx,rfl⟩
theorem mF(h:E9 o us)(hg:g < o)(h1:1<=g)(hk:kd = "one"∨kd = "all") (hn:lsG o us kd g≠[]):lsG o us kd (g+1)≠[]:=by
 obtain⟨r,hr⟩:=List.exists_mem_of_ne_nil _ hn;have hS:=((No h (by omega) h1 hk).cl r hr).1
 obtain⟨x,x0,x1⟩:∃x∈DF 0 o,x∉r:=DR λz=>by
  have:=HZ (k:=r) ((MD 0 o).imp λ{a b} h=>by omega) λx hx=>DR λq=>z ⟨x,hx,q⟩
  rw[Bo,hS.1]at this;omega
 have:=B9.mp x0;exact eR (iF h hg h1 hk hr (by omega) (by omega) x1)
theorem oO(h:E9 o us)(h1:1<=g)(hk:kd = "one"∨kd = "all") (hn:lsG o us kd g≠[]):∀k,g+k<=o->lsG o us kd (g+k)≠[]
 | 0,_=>hn
 | k+1,hg=>by
  have:=mF h (g:=g+k) (by omega) (by omega) hk (oO h h1 hk hn k (by omega));exact this
theorem bO(h:E9 o us)(h1:1<=o)(hk:kd = "one"∨kd = "all"):lsG o us kd o≠[]:=by
 have hS:Stg o o (DF 0 o):=⟨Bo _ _,λx hx=>by have:=B9.mp hx;omega,MD 0 o⟩;refine eR ((No h (AO _) h1 hk).all (λr=>Stg o o r) (λr hr=>⟨hr,λc c0 c1 c2=>?_⟩) _ hS);exact zX (SH (r:=DF 0 o) (LU hr.2.2) (λx hx=>B9.mpr (by have:=hr.2.1 x hx;omega)) (by rw[hr.1,Bo]) c (B9.mpr (by omega))) c2
theorem vK(h:E9 o us)(h1:1<=o)(hk:kd = "one"∨kd = "all"):Ok (Pw (o,us) kd) λm=>∀g:Nat,1<=g->g<=o->((g:Int) < m↔lsG o us kd g=[]):=by
 have o8:=h.sm;unfold Pw Ps Ft Ea;rw[wY (show ¬(8:Int) < ((o,us).1:Int) by show ¬(8:Int) < (o:Int);omega),qY AK];simp only[bH,AC,BQ]
 have key:Ok (Jv (o,us) kd) λm=>∀g:Nat,1<=g->g<=o->((g:Int) < m↔lsG o us kd g=[]):=by
  refine OkF.out ?_;unfold HQ;dsimp only;rw[SK (by omega) (by omega) (by omega) (by omega),show((o:Int) - 1).toNat=o - 1 by omega];simp only[AC];refine OkF.seq (OkF.for (λpre (_:Unit)=>∀g:Nat,1<=g->g<=pre.length->lsG o us kd g=[]) (λg a b=>by rw[D4]at b;omega) ?_) ?_
  ·intro pre x _ hx hp hI
   obtain⟨ex,wo⟩:=YK hp
   obtain⟨k,wI⟩:∃k:Nat,x=(k:Int):=⟨1+pre.length,by omega⟩
   subst wI;have L:=No h (g:=k) (by omega) (by omega) hk;rw[L.eq];simp only[AC]
   cases c:(lsG o us kd k).isEmpty with
   | true=>
    have c:=List.isEmpty_iff.mp c
    refine .nx λg g0 g1=>?_
    rw[AY,Ai]at g1
    by_cases e:g=k
    ·rw[e];exact c
    ·exact hI g g0 (by omega)
   | false=>
    have c:lsG o us kd k≠[]:=λz=>by rw[z]at c;cases c
    refine .rt λg g0 g1=>⟨λz=>hI g g0 (by omega),λz=>DR λq=>?_⟩
    have:=oO h (g:=k) (by omega) hk c (g - k) (by omega);rw[show k+(g - k)=g by omega]at this;exact this z
  ·intro _ hI
   refine .rt λg g0 g1=>⟨λz=>hI g g0 (by rw[Bo];have:(g:Int) < (o:Int):=z;omega),λz=>DR λq=>?_⟩
   have:¬(g:Int) < (o:Int):=q;rw[show g=o by omega]at z;exact bO h h1 hk z
 obtain⟨m,em,hm⟩:=key;rw[em];exact⟨m,rfl,hm⟩
theorem sT(hr:Stg o g r){c:Int}{s:List Int}(ha:Ans kd us r c s):∃a∈r,c∈Tg us a:=by
 unfold Ans at ha;split at ha
 ·obtain⟨a,h1,h2,-⟩:=ha
  exact⟨a,h1,KH.mpr (.inr h2)⟩
 ·obtain⟨h1,-,h3,h4⟩:=ha
  obtain⟨i,hi,rfl⟩:=CW h4;refine⟨r[i],Df _,h3 (r[i],s[i]) ?_⟩;rw[List.mem_iff_getElem];exact⟨i,by rw[HF];omega,by simp⟩
theorem j3(h:E9 o us)(hg:g<=o)(h1:1<=g)(hk:kd = "one"∨kd = "all") {r:List Int} (hr:r∈lsG o us kd g):FY (o,us) r=some none:=by
 obtain⟨hS,hc⟩:=(No h hg h1 hk).cl r hr;have:=h.sm
 refine t7 h hS.2.1 (by rw[hS.1];omega) λc c0 c1=>?_
 by_cases m:c∈r
 ·exact⟨c,m,KH.mpr (.inl rfl)⟩
 ·obtain⟨s,hs,-⟩:=hc c c0 c1 m
  exact sT hS hs
def lsH(o:Nat)(us:List (Int×Int))(kd:Str)(g:Nat):List (List Int):=if g=0 then[]else lsG o us kd g
theorem rF(h:E9 o us)(hg:g < o)(hk:kd = "one"∨kd = "all"):Nf (o:Int) (lsH o us kd g) (lsG o us kd (g+1))=some true:=by
 have o8:=h.sm;refine Ok.is (OkF.out ?_);unfold Ka
 refine OkF.seq (OkF.for (λ_ _=>True) trivial λpre r _ hr hp _=>?_) λ_ _=>.rt rfl
 unfold lsH at hr;split at hr
 ·cases hr
 rename_i g0;have hS:=((No h (by omega) (by omega) hk).cl r hr).1;simp only[AC];rw[MF (by omega) (by omega),An];simp only[AC]
 refine OkF.map (OkF.for (λ_ _=>True) trivial λwW x _ hx xQ _=>?_) λ_ _=>trivial
 have:=B9.mp hx
 by_cases c:x∈r
 ·rw[wX c]
  exact .nx trivial
 ·rw[wY c]
  have e:JX r x=some (CF (x :: r)):=by
   unfold JX JU;simp only[AC,vL];rw[bp (by rw[hS.1,Ai];omega)];simp only[AC];rw[P9 (by rw[AY,hS.1,Ai];omega),gF (show(r++[x]).Perm (x :: r)from List.perm_append_comm)];rfl
  simp only[ny,if_true];rw[e];simp only[AC];rw[show Yc (CF (x :: r)) (lsG o us kd (g+1))=true from wX (iF h hg (by omega) hk hr (by omega) (by omega) c)];exact .nx trivial
theorem gP{a b:Bool}(h:a=true↔b=true):(!decide (a=b))=false:=by
 rw[NP.mpr h];simp
theorem iT(h:E9 o us)(h1:1<=o)(hk:kd = "one"∨kd = "all"):Kc (o,us) kd=some true:=by
 have o8:=h.sm;obtain⟨m,em,hm⟩:=vK h h1 hk;refine Ok.is (OkF.out ?_);unfold KZ;simp only[XV,vM,nG];rw[SK (by omega) (by omega) (by omega) (by omega),show((o:Int)+1 - 1).toNat=o by omega];simp only[XV];refine OkF.seq (OkF.for (λpre (s:List (List Int))=>s=lsH o us kd pre.length) rfl ?_) ?_
 ·rintro pre x s hx hp rfl
  obtain⟨ex,wo⟩:=YK hp
  obtain⟨k,wI⟩:∃k:Nat,k=pre.length+1/\x=(k:Int):=⟨pre.length+1,rfl,by omega⟩
  obtain⟨ek,rfl⟩:=wI;have L:=No h (g:=k) (by omega) (by omega) hk;obtain⟨v1,g1,g2⟩:=L.gp;obtain⟨v2,c1,c2⟩:=L.cp;rw[L.eq];simp only[AC,BQ];have kp:=rF h (g:=pre.length) wo hk;rw[<-ek]at kp;rw[kp];simp only[AC,Li,Bi,if_false,BQ];have hl:=L.ln;obtain⟨-,-,xC⟩:=NU o o8 k (by omega) (by omega) (by omega);rw[EX (f:=λ_=>true) (by omega) λr hr=>by rw[j3 h (by omega) (by omega) hk hr];rfl];simp only[AC];rw[Iu.mpr (show ∀z∈(lsG o us kd k).map (λ_=>true),id z=true from λz hz=>by obtain⟨_,_,rfl⟩:=BD.mp hz;rfl)];simp only[Li,Bi,if_false,BQ];rw[em];simp only[AC];rw[gP (decide_eq_true_iff.trans ((hm k (by omega) (by omega)).trans decide_eq_true_iff.symm))];simp only[Bi,if_false,BQ];rw[g1,c1];simp only[AC];rw[gP (g2.trans c2.symm)];simp only[Bi,if_false,BQ];refine .nx ?_;rw[AY,Ai,<-ek];unfold lsH;rw[qY (by omega)]
 ·rintro s rfl
  rw[Bo];unfold lsH;rw[qY (by omega)];have:=(No h (AO _) h1 hk).ln;rw[fy o o8 h1]at this;have:=cP.mpr (bO h h1 hk);rw[wX (show((lsG o us kd o).length:Int)=1 by omega)];exact .rt rfl
theorem ly{P:List Int->Prop}(hP:OE o g us "one" P):OE o g us "all" P:=λr hr=>by
 obtain⟨hS,hc⟩:=hP r hr;refine⟨hS,λc c0 c1 c2=>?_⟩;obtain⟨s,hs,h2⟩:=hc c c0 c1 c2;refine⟨s,?_,h2⟩;unfold Ans at hs ⊢;rw[qX rfl]at hs;rw[qY (by decide)];obtain⟨a,ha,h3,rfl⟩:=hs;refine⟨by unfold wst;rw[AF],ZO (LU hS.2.2) c2,λy hy=>?_,(IW ha).mpr (.inl rfl)⟩;unfold wst at hy;rw[Pc]at hy;obtain⟨z,hz,rfl⟩:=BD.mp hy;dsimp only;split
 ·rename_i e
  rw[e];exact KH.mpr (.inr h3)
 ·exact KH.mpr (.inl rfl)
end
theorem u5(ns:List Int):oH ns=some true:=by
 refine Ok.is (OkF.out ?_);unfold bG;simp only[XV];rw[show DM ns 2=some (ns.getD 2 0)from aK ns 2];generalize ns.getD 2 0=b;simp only[XV];obtain⟨⟨x,ts⟩,e,o,rfl,h1,h6,ht⟩:=kn ns (m:=5+if decide (b % 4=1)=true then 1 else 0) (by split <;> omega);rw[e];simp only[XV,nG];rw[ht.web h1 (by omega) (.inl rfl)];simp only[XV,nG];have hT:=ht.ties (by omega);rw[iT hT h1 (.inl rfl)];simp only[XV,Li,Bi,if_false];rw[iT hT h1 (.inr rfl)];simp only[XV,Li,Bi,if_false,nG];rw[SK (by omega) (by omega) (by omega) (by omega)];simp only[XV]
 refine OkF.seq (OkF.for (λ_ _=>True) trivial λpre x _ hx hp _=>?_) λ_ _=>.rt rfl
 have zA:=B9.mp hx
 obtain⟨k,rfl⟩:∃k:Nat,x=(k:Int):=⟨x.toNat,by omega⟩
 have L1:=No hT (g:=k) (kd:="one") (by omega) (by omega) (.inl rfl);have L2:=No hT (g:=k) (kd:="all") (by omega) (by omega) (.inr rfl);obtain⟨-,-,xC⟩:=NU o (by omega) k (by omega) (by omega) (by omega);have hl:(lsG o (JQ ts) "one" k).length<=_:=L1.ln;rw[L1.eq,L2.eq];simp only[AC,BQ];rw[EX (f:=λ_=>true) (by omega) λr hr=>by rw[show Yc r (lsG o (JQ ts) "all" k)=true from wX (L2.all _ (ly L1.cl) r hr)]];simp only[AC];rw[Iu.mpr (show ∀z∈(lsG o (JQ ts) "one" k).map (λ_=>true),id z=true from λz hz=>by obtain⟨_,_,rfl⟩:=BD.mp hz;rfl)];exact .nx trivial
theorem rf:∀(W:Wd),W.excs.Nodup->∀ns:List Int,ns.length<=63->∃S',bo W [.fro (ns.map D.int)] []=.ok (.bl true) S':=λW _ ns h=>VF.law (by rw[<-u5 ns];exact t5 W ns)
end M
namespace PySem.W.Fast
def tw9130483161476700159:Nat:=0
def tw3504108082085587368:Nat:=0
def tw750646135217498361:Nat:=0
def tw7037612566266752909:Nat:=0
def tw13390149441079260285:Nat:=0
def tw3695032887515342893:Nat:=0
def tw18276976657469683655:Nat:=0
def tw2737237364792474467:Nat:=0
def tw1552899825496782339:Nat:=0
def tw13155882244751455902:Nat:=0
def tw2628103674428911872:Nat:=0
def tw4640604694441925074:Nat:=0
def tw12809136263163107581:Nat:=0
def tw8077977200232797984:Nat:=0
def tw6460719731392804645:Nat:=0
def tw3663266810757348694:Nat:=0
def tw17529747119420471078:Nat:=0
def tw10098478517185820395:Nat:=0
def tw17226125263176513220:Nat:=0
def tw18436815358017281908:Nat:=0
def tw16356147774063328958:Nat:=0
def tw4524751214442822352:Nat:=0
def tw4689841491088786259:Nat:=0
def tw2412887002521997868:Nat:=0
def tw10149858591158759211:Nat:=0
def tw9533078075267840651:Nat:=0
def tw10584211920087970812:Nat:=0
def tw7440541310368260287:Nat:=0
def tw1424493620385995142:Nat:=0
def tw12588433426628750156:Nat:=0
def tw9731811907539485307:Nat:=0
def tw2722825849317423400:Nat:=0
def tw10748134691771031510:Nat:=0
def tw10772034460122086176:Nat:=0
def tw18349382406766037002:Nat:=0
def tw12862357378227001069:Nat:=0
def tw15742494591970350669:Nat:=0
def tw12942414237838926393:Nat:=0
def tw8596809324970328268:Nat:=0
def tw5752396199203366386:Nat:=0
def tw16597275325890905122:Nat:=0
def tw1497622587956759492:Nat:=0
def tw6853311997543236963:Nat:=0
def tw5965104911726714207:Nat:=0
def tw11961037368009476273:Nat:=0
def tw1991444259184422710:Nat:=0
def tw5476462337968306990:Nat:=0
def tw15065403966067048520:Nat:=0
def tw9724182436569416507:Nat:=0
def tw17247459400919992344:Nat:=0
def tw16734768567445827153:Nat:=0
def tw3145784388969514659:Nat:=0
def tw6292544544314442961:Nat:=0
def tw10860537944307647772:Nat:=0
def tw1531463145178724436:Nat:=0
def tw4219439295948418964:Nat:=0
def tw3385388363390699215:Nat:=0
def tw1791117379162640144:Nat:=0
def tw3104039388842847517:Nat:=0
def tw5929505707987804748:Nat:=0
def tw14026510908237474197:Nat:=0
def tw9107339601321752739:Nat:=0
def tw6493400433301139050:Nat:=0
def tw5286712483929225446:Nat:=0
def tw1207336995670185071:Nat:=0
def tw12149662997715974484:Nat:=0
def tw16138861646210935492:Nat:=0
def tw8816278852234864013:Nat:=0
def tw5934583485211685093:Nat:=0
def tw17557669570163763843:Nat:=0
def tw13029908287766272505:Nat:=0
def tw10291837185925178270:Nat:=0
def tw6527901623048787396:Nat:=0
def tw3698733403655961615:Nat:=0
def tw5349851782380590573:Nat:=0
def tw5773682648236990924:Nat:=0
def tw15618669551351502671:Nat:=0
def tw13138291528201533314:Nat:=0
def tw17267386862965665383:Nat:=0
def tw11914230777436424424:Nat:=0
def tw8408622107332187410:Nat:=0
def tw6216621984803473538:Nat:=0
def tw12291544196301118446:Nat:=0
def tw18235478243852314642:Nat:=0
def tw2901076148968810517:Nat:=0
def tw11504812407576370795:Nat:=0
def tw14551766413429888264:Nat:=0
def tw1308870858090010945:Nat:=0
def tw11312059551586074849:Nat:=0
def tw6390083814125768011:Nat:=0
def tw17521913769506974256:Nat:=0
def tw4216714676714485316:Nat:=0
def tw10593995259595969582:Nat:=0
def tw5597301893102425879:Nat:=0
def tw7871101791461564549:Nat:=0
def tw10262272029076515019:Nat:=0
def tw9775416189107528996:Nat:=0
def tw6960782302023007979:Nat:=0
def tw9463358335071658114:Nat:=0
def tw127595666901558717:Nat:=0
def tw11396493911813875823:Nat:=0
def tw7060472543640404684:Nat:=0
def tw2626132045784926697:Nat:=0
def tw3731106147435876158:Nat:=0
def tw11504005261325112871:Nat:=0
def tw13797456271220276466:Nat:=0
def tw7219098503621493372:Nat:=0
def tw7905990935592572221:Nat:=0
def tw12047219965704943475:Nat:=0
def tw17850035240961004495:Nat:=0
def tw12836114854751917680:Nat:=0
def tw6973256931877245402:Nat:=0
def tw8176762998441108193:Nat:=0
def tw14034156683126519093:Nat:=0
def tw6015592622643514499:Nat:=0
def tw16765738531047640017:Nat:=0
def tw65476926295428890:Nat:=0
def tw1640253162035015613:Nat:=0
def tw16886266403165988232:Nat:=0
def tw13148505132506134779:Nat:=0
def tw10562594028706372107:Nat:=0
def tw17739779956489630020:Nat:=0
def tw15576927688888466941:Nat:=0
def tw7700014149697292933:Nat:=0
def tw5916869246196598607:Nat:=0
def tw10317299516023745505:Nat:=0
def tw18342247107010108389:Nat:=0
def tw14958590418291740824:Nat:=0
def tw8395750523578398949:Nat:=0
def tw8075414789834435704:Nat:=0
def tw114169877422904800:Nat:=0
def tw6215275513744375505:Nat:=0
def tw626182367133219098:Nat:=0
def tw8432889196618191430:Nat:=0
def tw4144281917118503447:Nat:=0
def tw8059300864658948588:Nat:=0
def tw4751867712185313309:Nat:=0
end PySem.W.Fast
namespace M
open PySem PySem.Spec PyProof.Rows L2 PySem.W
theorem sU{l:OpenLaw}{w:CL}{K:Frag}{h:Cz}{mg:Str->Option AI}{fa:AW}(X:K.In h)(G:h.Ns BZ mg)(hfa:mg "law" = some (.ref fa))
  {f1 f2 f3 f4 f5 f6 f7 f8 f9 f10 f11 f12 f13 f14 f15 f16 f17 f18 f19 f20 f21 f22 f23 f24 f25 f26 f27 f28 f29 f30 f31 f32 f33 f34 f35 f36 f37 f38 f39 f40 f41 f42 f43 xW w9:AW} {wy we wd:Tok}
  (o_Web:ClsAt K "Web" xW)
  (o_Field:ClsAt K "Field" w9)
  (d1:Dd K "checked_ties" Jo f1)
  (d2:Dd K "near_sets_of" Jk f2)
  (d4:Dd K "refuse_no_place" HM f4)
  (d5:Dd K "near" Zm f5)
  (d6:Dd K "takes_of" O0 f6)
  (d7:Dd K "bits_of" Qk f7)
  (d8:Dd K "members" Qi f8)
  (d9:Dd K "settle" Td f9)
  (d10:Dd K "fits" Zn f10)
  (d11:Dd K "first_step" L9 f11)
  (d12:Dd K "first_into" MA f12)
  (d13:Dd K "with_step" NX f13)
  (d14:Dd K "sets_of" Qh f14)
  (d15:Dd K "first_unwatched" HN f15)
  (d16:Dd K "ways_to_choose" II f16)
  (d17:Dd K "how_many" O1 f17)
  (d18:Dd K "standings" NY f18)
  (d26:Dd K "falling_now" Kv f26)
  (d27:Dd K "fallen" Tf f27)
  (d28:Dd K "lasting_bits" Jm f28)
  (d29:Dd K "lasting" Qj f29)
  (d30:Dd K "falls" Wv f30)
  (d31:Dd K "guide_answer" Jn f31)
  (d32:Dd K "guide_rows" L8 f32)
  (d33:Dd K "guide_paper" Ku f33)
  (d34:Dd K "caller_paper" Jp f34)
  (d35:Dd K "refuse_many_places" Fn f35)
  (d36:Dd K "least_guards" Jl f36)
  (d37:Dd K "fewest" Te f37)
  (d38:Dd K "_law_cell_at" Jq f38)
  (d39:Dd K "_law_small_web" IJ f39)
  (d40:Dd K "_law_grown" MB f40)
  (d41:Dd K "_law_kept" Na f41)
  (d42:Dd K "_law_kind" NZ f42)
  (d43:Dd K "law" bC f43)
  (d3:OD K xW "__init__" "Web.__init__" O2 f3)
  (d19:OD K w9 "linked_by_one" "Field.linked_by_one" FK f19)
  (d20:OD K w9 "linked_by_all" "Field.linked_by_all" FL f20)
  (d21:OD K w9 "__init__" "Field.__init__" MC f21)
  (d22:OD K w9 "calls" "Field.calls" Kw f22)
  (d23:OD K w9 "linked" "Field.linked" Jr f23)
  (d24:OD K w9 "behind" "Field.behind" Js f24)
  (d25:OD K w9 "first_answer" "Field.first_answer" Fo f25)
  (n_Web_places:findIn K (.ref xW) "places" = some none)
  (n_Web_ties:findIn K (.ref xW) "ties" = some none)
  (n_Web_near_sets:findIn K (.ref xW) "near_sets" = some none)
  (n_Field_everything:findIn K (.ref w9) "everything" = some none)
  (n_Field_kind:findIn K (.ref w9) "kind" = some none)
  (n_Field_takes:findIn K (.ref w9) "takes" = some none)
  (n_Field_numbers:findIn K (.ref w9) "numbers" = some none)
  (n_Field_having:findIn K (.ref w9) "having" = some none)
  (n_Field_place_bits:findIn K (.ref w9) "place_bits" = some none)
  (n_Field_known:findIn K (.ref w9) "known" = some none)
  (z_abs:Sb K BZ "abs" = some none)
  (z_all:Sb K BZ "all" = some none)
  (z_enumerate:Sb K BZ "enumerate" = some none)
  (z_int:Sb K BZ "int" = some none)
  (z_len:Sb K BZ "len" = some none)
  (z_max:Sb K BZ "max" = some none)
  (z_min:Sb K BZ "min" = some none)
  (z_range:Sb K BZ "range" = some none)
  (z_sorted:Sb K BZ "sorted" = some none)
  (z_sum:Sb K BZ "sum" = some none)
  (z_tuple:Sb K BZ "tuple" = some none)
  (g_MOST_PLACES:Sb K BZ "MOST_PLACES" = some (some (.int 60 wy)))
  (g_MOST_STANDINGS:Sb K BZ "MOST_STANDINGS" = some (some (.int 400 we)))
  (g_MOST_PLACES_GUARDED:Sb K BZ "MOST_PLACES_GUARDED" = some (some (.int 8 wd)))
  : ∃(W:Wd) (T:Txt K mg W),fa=T.d_law.f/\W.excs.Nodup/\∀(s:AQ) (v:AI),Y9 s T.d_law.fd ⟨[v],[]⟩ [("script",v)]:=by
 obtain⟨zl,_,_,_,_,_,_,_,_,_,l,c,k⟩:=d43;have F:=iu (st:=bC) l c k
 let W:Wd:=⟨xW,w9⟩
 let T:Txt K mg W:={
  d_checked_ties:=mkD X G d1 (bd2 λ_ _ _ _ _ _ _ _ _ _=>rfl)
  d_near_sets_of:=mkD X G d2 (bd2 λ_ _ _ _ _ _ _ _ _ _=>rfl)
  d_Web_init:=mkM d3 (bd3 λ_ _ _ _ _ _ _ _ _ _ _=>rfl)
  d_refuse_no_place:=mkD X G d4 (bd2 λ_ _ _ _ _ _ _ _ _ _=>rfl)
  d_near:=mkD X G d5 (bd2 λ_ _ _ _ _ _ _ _ _ _=>rfl)
  d_takes_of:=mkD X G d6 (bd1 λ_ _ _ _ _ _ _ _ _=>rfl)
  d_bits_of:=mkD X G d7 (bd1 λ_ _ _ _ _ _ _ _ _=>rfl)
  d_members:=mkD X G d8 (bd1 λ_ _ _ _ _ _ _ _ _=>rfl)
  d_settle:=mkD X G d9 (bd5 λ_ _ _ _ _ _ _ _ _ _ _ _ _=>rfl)
  d_fits:=mkD X G d10 (bd3 λ_ _ _ _ _ _ _ _ _ _ _=>rfl)
  d_first_step:=mkD X G d11 (bd4 λ_ _ _ _ _ _ _ _ _ _ _ _=>rfl)
  d_first_into:=mkD X G d12 (bd3 λ_ _ _ _ _ _ _ _ _ _ _=>rfl)
  d_with_step:=mkD X G d13 (bd3 λ_ _ _ _ _ _ _ _ _ _ _=>rfl)
  d_sets_of:=mkD X G d14 (bd2 λ_ _ _ _ _ _ _ _ _ _=>rfl)
  d_first_unwatched:=mkD X G d15 (bd2 λ_ _ _ _ _ _ _ _ _ _=>rfl)
  d_ways_to_choose:=mkD X G d16 (bd2 λ_ _ _ _ _ _ _ _ _ _=>rfl)
  d_how_many:=mkD X G d17 (bd2 λ_ _ _ _ _ _ _ _ _ _=>rfl)
  d_standings:=mkD X G d18 (bd2 λ_ _ _ _ _ _ _ _ _ _=>rfl)
  d_Field_linked_by_one:=mkM d19 (bd2 λ_ _ _ _ _ _ _ _ _ _=>rfl)
  d_Field_linked_by_all:=mkM d20 (bd2 λ_ _ _ _ _ _ _ _ _ _=>rfl)
  d_Field_init:=mkM d21 (bd4 λ_ _ _ _ _ _ _ _ _ _ _ _=>rfl)
  d_Field_calls:=mkM d22 (bd2 λ_ _ _ _ _ _ _ _ _ _=>rfl)
  d_Field_linked:=mkM d23 (bd2 λ_ _ _ _ _ _ _ _ _ _=>rfl)
  d_Field_behind:=mkM d24 (bd3 λ_ _ _ _ _ _ _ _ _ _ _=>rfl)
  d_Field_first_answer:=mkM d25 (bd4 λ_ _ _ _ _ _ _ _ _ _ _ _=>rfl)
  d_falling_now:=mkD X G d26 (bd2 λ_ _ _ _ _ _ _ _ _ _=>rfl)
  d_fallen:=mkD X G d27 (bd1 λ_ _ _ _ _ _ _ _ _=>rfl)
  d_lasting_bits:=mkD X G d28 (bd2 λ_ _ _ _ _ _ _ _ _ _=>rfl)
  d_lasting:=mkD X G d29 (bd3 λ_ _ _ _ _ _ _ _ _ _ _=>rfl)
  d_falls:=mkD X G d30 (bd3 λ_ _ _ _ _ _ _ _ _ _ _=>rfl)
  d_guide_answer:=mkD X G d31 (bd4 λ_ _ _ _ _ _ _ _ _ _ _ _=>rfl)
  d_guide_rows:=mkD X G d32 (bd3 λ_ _ _ _ _ _ _ _ _ _ _=>rfl)
  d_guide_paper:=mkD X G d33 (bd3 λ_ _ _ _ _ _ _ _ _ _ _=>rfl)
  d_caller_paper:=mkD X G d34 (bd3 λ_ _ _ _ _ _ _ _ _ _ _=>rfl)
  d_refuse_many_places:=mkD X G d35 (bd1 λ_ _ _ _ _ _ _ _ _=>rfl)
  d_least_guards:=mkD X G d36 (bd2 λ_ _ _ _ _ _ _ _ _ _=>rfl)
  d_fewest:=mkD X G d37 (bd2 λ_ _ _ _ _ _ _ _ _ _=>rfl)
  d__law_cell_at:=mkD X G d38 (bd2 λ_ _ _ _ _ _ _ _ _ _=>rfl)
  d__law_small_web:=mkD X G d39 (bd2 λ_ _ _ _ _ _ _ _ _ _=>rfl)
  d__law_grown:=mkD X G d40 (bd2 λ_ _ _ _ _ _ _ _ _ _=>rfl)
  d__law_kept:=mkD X G d41 (bd3 λ_ _ _ _ _ _ _ _ _ _ _=>rfl)
  d__law_kind:=mkD X G d42 (bd2 λ_ _ _ _ _ _ _ _ _ _=>rfl)
  d_law:=⟨f43,_,F,F.binds ((bd1 λ_ _ _ _ _ _ _ _ _=>rfl) _ _),jl X G zl⟩
  c_Web:=mkO X G o_Web d3
  n_Web_places:=n_Web_places
  n_Web_ties:=n_Web_ties
  n_Web_near_sets:=n_Web_near_sets
  c_Field:=mkO X G o_Field d21
  n_Field_everything:=n_Field_everything
  n_Field_kind:=n_Field_kind
  n_Field_takes:=n_Field_takes
  n_Field_numbers:=n_Field_numbers
  n_Field_having:=n_Field_having
  n_Field_place_bits:=n_Field_place_bits
  n_Field_known:=n_Field_known
  m_Field_linked_by_one:=mkE d19
  m_Field_linked_by_all:=mkE d20
  m_Field_calls:=mkE d22
  m_Field_linked:=mkE d23
  m_Field_behind:=mkE d24
  m_Field_first_answer:=mkE d25
  b_abs:=Ff X G z_abs
  b_all:=Ff X G z_all
  b_enumerate:=Ff X G z_enumerate
  b_int:=Ff X G z_int
  b_len:=Ff X G z_len
  b_max:=Ff X G z_max
  b_min:=Ff X G z_min
  b_range:=Ff X G z_range
  b_sorted:=Ff X G z_sorted
  b_sum:=Ff X G z_sum
  b_tuple:=Ff X G z_tuple
  g_MOST_PLACES:=⟨wy,jl X G g_MOST_PLACES⟩
  g_MOST_STANDINGS:=⟨we,jl X G g_MOST_STANDINGS⟩
  g_MOST_PLACES_GUARDED:=⟨wd,jl X G g_MOST_PLACES_GUARDED⟩ }
 refine⟨W,T,?_,EM,λs v=>.of_eq rfl⟩;have e:=hfa.symm.trans (jl X G zl);cases e;rfl
theorem walk{l:OpenLaw}{q:Bg}{loose:List Str}{XP:(Str->Option AI)->Cz->Prop}{YP:CL->Cz->Prop}{d:DefRec}{K:Params->Frag}(hn:l.most=some 63)(Δ:d.params.defaults=[])
  (hY:∀(w:CL) (h:Cz),YP w h->(K w.params).In h)
  (F:∀(w:CL) (mg:Str->Option AI) (fa:AW) (h:Cz),(K w.params).In h->h.Ns BZ mg->mg d.name=some (.ref fa) ->
   ∃(W:Wd) (T:Txt (K w.params) mg W),fa=T.d_law.f/\W.excs.Nodup/\∀(s:AQ) (v:AI),Y9 s T.d_law.fd ⟨[v],[]⟩ [("script",v)])
  (rf:∀(W:Wd),W.excs.Nodup->∀ns:List Int,ns.length<=63->∃S',bo W [.fro (ns.map D.int)] []=.ok (.bl true) S') :
  WalkO q loose XP YP l.row.toRowW d [] (λf vs=>cJ f vs):=
 L2.j5 (n:=63) (k:=21) (x:="script") (CX:=λw=>CXG l.prog w) (sp:=λw=>gC (K w.params)) hn (by decide) Δ ⟨rfl,by decide,by decide⟩ hY
  (λw mg fa h KX G zo=>by
   obtain⟨W,T,e,nd,hb⟩:=F w mg fa h KX G zo;subst e
   exact⟨T.d_law.fd,hb,λbase _ _=>iP (qp T) (rf W nd)⟩)
  (λ_ _ a ns hl hO hS=>⟨a,ns,rfl,rq hO hS,hl,λ_=>rfl⟩) (λw H s e s' z=>sM z)
end M
open PySem PySem.W PyProof.Rows
set_option maxRecDepth 100000 in
set_option maxHeartbeats 0 in
theorem PySem.Challenge.cw_guardround_k69_whole_more_guards_holds : PySem.Challenge.rw_guardround_k69_whole_more_guards.Holds := by
 w_on;o_law;k_head;(case hw=>w_witness2)
 k_fill
 refine M.walk (l:=Hv) rfl rfl (λw h Y=>by first | exact kIn_of Y | exact km_in_of Y) ?F M.rf
 case F=>
  intro w mg fa h KX G zo;refine' M.sU (l:=Hv) (w:=w) KX G zo ?o_Web ?o_Field ?d1 ?d2 ?d4 ?d5 ?d6 ?d7 ?d8 ?d9 ?d10 ?d11 ?d12 ?d13 ?d14 ?d15 ?d16 ?d17 ?d18 ?d26 ?d27 ?d28 ?d29 ?d30 ?d31 ?d32 ?d33 ?d34 ?d35 ?d36 ?d37 ?d38 ?d39 ?d40 ?d41 ?d42 ?d43 ?d3 ?d19 ?d20 ?d21 ?d22 ?d23 ?d24 ?d25 ?n_Web_places ?n_Web_ties ?n_Web_near_sets ?n_Field_everything ?n_Field_kind ?n_Field_takes ?n_Field_numbers ?n_Field_having ?n_Field_place_bits ?n_Field_known ?z_abs ?z_all ?z_enumerate ?z_int ?z_len ?z_max ?z_min ?z_range ?z_sorted ?z_sum ?z_tuple ?g_MOST_PLACES ?g_MOST_STANDINGS ?g_MOST_PLACES_GUARDED
  (case o_Web | o_Field=>exact⟨by k_is,by k_is,by k_is,by k_is,by k_is,by k_is,by k_is⟩)
  (case d1 | d2 | d4 | d5 | d6 | d7 | d8 | d9 | d10 | d11 | d12 | d13 | d14 | d15 | d16 | d17 | d18 | d26 | d27 | d28 | d29 | d30 | d31 | d32 | d33 | d34 | d35 | d36 | d37 | d38 | d39 | d40 | d41 | d42 | d43=>exact⟨by k_is,_,_,_,_,_,_,_,_,_,by k_is,by k_is,by k_is⟩)
  (case d3 | d19 | d20 | d21 | d22 | d23 | d24 | d25=>exact⟨by k_is,by k_is,_,_,_,_,_,_,_,_,_,by k_is,by k_is,by k_is⟩)
  (case n_Web_places | n_Web_ties | n_Web_near_sets | n_Field_everything | n_Field_kind | n_Field_takes | n_Field_numbers | n_Field_having | n_Field_place_bits | n_Field_known | z_abs | z_all | z_enumerate | z_int | z_len | z_max | z_min | z_range | z_sorted | z_sum | z_tuple | g_MOST_PLACES | g_MOST_STANDINGS | g_MOST_PLACES_GUARDED=>k_is)
#print axioms PySem.Challenge.cw_guardround_k69_whole_more_guards_holds
