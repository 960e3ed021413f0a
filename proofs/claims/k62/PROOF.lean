import PyProof.Rows.All
import Wide.All
import OpenK.AllK
import Wide.FinOn
import Lean
import PyProof.EqAt
import PyProof.EqKinds
import PyProof.TupleCall
import PyProof.ExcBaseAll.ValueError
import PyProof.NsDelKeeps
import PyProof.NeKinds
import PyProof.Rows.SortShell
import PyProof.Rows.FStr
import PyProof.FString
import PyProof.ExcAttrAll.ValueError
import PyProof.ExcArgsOwn
import PyProof.Rows.SortRuns
import PyProof.TupleIter
import PyProof.Dict
import KE.KDictSum
import PyProof.Rows.SetFrom
import PyProof.SetRoads
import PyProof.Rows.Range3
import PyProof.WalksMore
import PyProof.TupleOfSeq
import PyProof.EnumMake
import PyProof.SliceList
import PyProof.MinMaxWalk
import PyProof.Rows.EnumRows
import PyProof.WalkInts
import PyProof.Rows.SeqCalls
import KE.KRevIter
import PyProof.CollectIter
import PyProof.TupleOfGen
import PyProof.Rows.FactsT2
import PyProof.ListRange
import PyProof.Rows.CallKwBuiltin
import PyProof.ZipIter
import PyProof.Rows.ZipGen
import PyProof.Rows.RuleM_int
import PyProof.Rows.AssignMoreSeq
import KE.KIntText
import PyProof.Rows.StrKeys3
import PyProof.StrBlock
import PyProof.StrCalls2
import PyProof.StrWalks
import PyProof.Rows.RuleN_abs
import PySem.Challenge.RW_guardround_k62_whole_guide_for_ever
set_option Elab.async false
set_option linter.all false
set_option maxRecDepth 100000
set_option maxHeartbeats 8000000
theorem qX{c:Prop}{h:Decidable c}(hc:c){α:Sort u}{t e:α}:ite c t e=t:=if_pos hc
theorem qY{c:Prop}{h:Decidable c}(hc:Not c){α:Sort u}{t e:α}:ite c t e=e:=if_neg hc
theorem wX{p:Prop}[i:Decidable p](h:p):decide p=true:=decide_eq_true h
theorem wY{p:Prop}[i:Decidable p](h:Not p):decide p=false:=decide_eq_false h
theorem zX{a b:Prop}(h:a)(n:Not a):b:=absurd h n
noncomputable section
open Array renaming back?->tU,getD_eq_getD_getElem?->Jh,getElem?_eq_getElem->VY,getElem?_toList->ZH,length_toList->CF,mem_toList_iff->GZ,perm_iff_toList_perm->KN,toList->pK,toList_map->L5
open Array.Perm renaming refl->QT
open Bool renaming and_eq_true->Ck,false_eq_true->Bb,false_ne_true->AK,false_or->pJ,not_eq_false->fN,not_false->VX,not_true->Lp,or_eq_true->Jd
open Classical renaming byContradiction->GV,choose->DA,choose_spec->EG
open Eq renaming trans->IX
open False renaming elim->Eu
open ForInStep renaming yield->Ip
open Int renaming fdiv_eq_ediv_of_nonneg->WI,le_refl->wF,natCast_nonneg->Kt,one_mul->cX,toNat_natCast->Ak,toNat_of_nonneg->Au
open List renaming Nodup->JA,all_eq_true->SC,all_map->tQ,any_cons->JC,any_eq_false->fJ,any_eq_true->Gr,any_toArray->M0,append_assoc->Fv,append_nil->CG,countP_cons_of_neg->Mz,countP_cons_of_pos->Xp,drop_drop->oK,drop_eq_getElem_cons->El,drop_of_length_le->NE,eq_nil_of_length_eq_zero->JL,ext_getElem?->LX,filterMap_cons->Pa,filter_cons_of_neg->Xo,filter_cons_of_pos->Xn,find?_cons->CV,find?_eq_none->KQ,find?_isSome->fI,find?_some->kC,flatMap_cons->fH,foldl_append->IF,foldl_nil->VV,forIn_cons->kB,forIn_nil->VU,getD_eq_getElem?_getD->EY,getElem?_append_left->BA,getElem?_append_right->Bf,getElem?_cons_succ->Xm,getElem?_drop->QS,getElem?_eq_getElem->Aa,getElem?_eq_none->CC,getElem?_eq_none_iff->Dc,getElem?_eq_some_iff->AC,getElem?_inj->fG,getElem?_map->Ab,getElem?_range->EB,getElem?_replicate->D2,getElem?_set->D1,getElem?_set_ne->Ac,getElem?_set_self->Ap,getElem?_zipIdx->Es,getElem?_zip_eq_some->WH,getElem_inj->SB,getElem_mem->Do,getElem_of_mem->CZ,getElem_zip->Iz,length->Oe,length_append->Ag,length_cons->At,length_drop->E6,length_erase_of_mem->Ln,length_filter_le->Dh,length_map->AF,length_nil->Fd,length_pos_iff->G6,length_range->fF,length_replicate->OD,length_reverse->PZ,length_set->D5,length_singleton->Ay,length_take->DI,length_zip->HK,lookup->JK,lookup_cons->Ba,map->ay,mapM_toArray->fE,map_append->CU,map_congr_left->DV,map_cons->BC,map_drop->pI,map_eq_nil_iff->cW,map_id->Sj,map_id'->tP,map_map->BL,map_nil->RK,map_reverse->jp,map_take->pH,mem_append->A0,mem_append_left->BN,mem_append_right->BU,mem_cons->AZ,mem_cons_of_mem->AS,mem_cons_self->AT,mem_filter->BJ,mem_filterMap->eh,mem_map->Av,mem_map_of_mem->cV,mem_of_find?_eq_some->WG,mem_of_getElem?->Aq,mem_of_mem_drop->ax,mem_range->Od,mem_singleton->AU,mem_singleton_self->Xl,mergeSort_perm->cU,nil_append->kA,nodup_append->Er,nodup_cons->Bd,nodup_nil->EX,not_mem_nil->Iy,of_mem_zip->Jc,pairwise_append->Gg,pairwise_cons->QR,pairwise_iff_getElem->WF,pairwise_map->Ca,pairwise_mergeSort->Xk,pairwise_singleton->Xj,range->D4,range_succ->NJ,replicate->Bt,reverse_cons->fD,set_set->tO,size_toArray->Ah,take_add_one->Fu,take_append_drop->ZT,take_length->Ix,take_of_length_le->FM,take_sublist->fC,take_zero->oJ,zipIdx_map->j9,zipIdx_nil->j8,zip_append->j7,zip_cons_cons->FL,zip_nil_left->fB,zip_nil_right->HN
open List.Pairwise renaming and->VW,nil->tw
open List.Sublist renaming filter->wE
open Nat renaming add_le_add_left->Bx,and_div_two->Um,and_mod_two_pow->Ph,le_of_eq->tu,le_of_lt->NI,le_of_not_lt->Si,le_of_succ_le->Rh,le_refl->AL,le_succ->JS,le_trans->Am,lt_irrefl->Cj,lt_of_le_of_lt->As,lt_of_lt_of_le->AV,lt_of_not_le->j6,lt_succ_of_lt->IK,lt_succ_self->DL,lt_trans->tt,min_eq_left->oI,min_le_right->j5,mod_two_eq_zero_or_one->Ks,ne_of_gt->Et,ne_of_lt->BF,not_lt->Kr,not_lt_zero->OC,pow_le_pow_right->cT,pow_succ->ZS,strongRecOn->oH,sub_self->tq,succ_ne_self->Sg,testBit->wD,testBit_and->HM,testBit_lt_two_pow->ZR,testBit_or->WE,testBit_succ->Gv,testBit_two_pow->KJ,testBit_zero->Gu,two_pow_pos->oG,zero_add->Rg,zero_le->Dz,zero_testBit->Se
open Nat.succ renaming inj->PY
open Ne renaming symm->Bs
open Option renaming bind_some->AD,getD_none->ee,getD_some->RJ,isSome_iff_exists->Dm,isSome_map->IB,isSome_some->av,map->tL,map_eq_some_iff->FH
open Option.some renaming inj->Bl
open Or renaming inl->PX,inr->OB
open Prod renaming ext->au
open Prod.mk renaming inj->Xi
open PyProof.Rows renaming AllBare->LY,IntsAre->EF,IsTup->ZU,Keyed->Dp,SortKind->QZ,SortSt->Fq,Subscript_->pE,args_tuple_getitem->pD,arrOf->A9,boot_int->wC,boot_isinstance->wB,boot_list->SA,boot_max->wA,boot_min->Sd,boot_sorted->v0,boot_sum->vz,boot_tuple->Rf,bubble->pC,callWith_builtin1->vy,callWith_type1->Dw,entry_tuple_getitem->oE,envOfC->Os,firstOfTuple'->cQ,general'->ZM,listUpdate_at->cP,ltAt'->tF,lt_int->vx,mirror->Lw,mirror_perm->Xb,pairsOf->NC,pairsOf_size->Uj,pendingOf->CL,reverseSlice'->R8,reverseSlice'_eq->OS,seqEpoch_at->jx,seqObj->Ko,slot_tuple_getitem->CY,sortedHeap->pB,subscriptTail->cN,subscriptTail_builtinR->eu,tuples'->sx,wpS_bind->Bu,wpS_forRange->JB,wpS_get->ZB,wpS_modify->Lq,wpS_mono->QU,wpS_pure->Cv
open PyProof.Rows.IsTup renaming new->fL
open PyProof.Rows.SortSt renaming mk'->Mx
open PySem renaming Addr->AW,Around->CM,BindsTo->ZG,Builtin->RM,DictEntry->RL,FuncData->Lz,Heap->C9,IsEnum->Ly,IsPart->Qb,Keyword->tR,NameKind->Qa,Paired->HC,PassesOwn->WD,Program->Bh,Scope->Ul,Shared->AR,Stmt->DK,Value->AI,Within->Xh,World->CH,again->tH,argBest->Gp,assign->ZP,assignEach->IJ,atKey->ZO,attributeBase->ID,backTo->D6,backToKw->KM,behindInMarks->Cp,binaryOp->Cw,bindArgs->j4,bindC->eZ,bindL->eY,bootBuiltins->Fo,builtinsNs->ZN,cLine->E4,call->cR,callWith->j3,callerA->Uk,cellsFrom->CT,codeAny->ND,codeAny_builtin->PV,codeAny_call_builtin->jz,codeAny_mono->LU,compareOp->B2,concat_meets->fA,eval->Cc,field->tG,firstArgMember->QY,foldedSetIterable->Go,getItem->LS,getMethod->eX,holding->Oq,isSubtype_stop->ZL,isTrue->ZK,keywordEach->Fm,letOwnedTupleGo->PU,mainGlobals->BY,mem_of_lookup->D7,model->Ao,newFunctionEnv->ZJ,noFill_tuple_add->V9,plainId_quiet->R9,preSum->SZ,pushCells->FS,pushCells_keeps->Xg,pyIter->e8,pyNext->Lv,rawInt->Lu,relabel->LR,richCompare->jy,seqIndex_of->jw,seqItems?->V8,seq_tuple_add->cO,setItem->tD,sizeLine_eq->jv,sliceBounds->KL,slot_list_getitem->sy,standAt->ZC,starEach->AY,storeName->tZ,subscripted->Xa,swapsWith->HJ,sysModules->EI,truthy->pA,tupleKind->V7,tupleKind_room_in1->Ls,typeLookup->o0,valueAt->Ui,wpAny->Af,wpAny_Call_Name_kw->II,wpAny_Dict_empty->tY,wpAny_Name->oz,wpAny_assign_Name->sw,wpAny_attempt->NG,wpAny_bind->AB,wpAny_call->oy,wpAny_callSpecial?_slot->Ci,wpAny_call_entry->DT,wpAny_comprehension_free->cM,wpAny_dictEntries->Uh,wpAny_dictEpoch->Xf,wpAny_eqBool_int->tX,wpAny_execs_cons->tW,wpAny_execs_nil->PR,wpAny_field->HB,wpAny_fieldsOf->QX,wpAny_holding->E8,wpAny_isInstance->V6,wpAny_isOneOf_keyiter->Pb,wpAny_isTrue_Compare1->jn,wpAny_letGo->XZ,wpAny_loadName_cell->oC,wpAny_loadName_local->ju,wpAny_loadPart'->Dk,wpAny_mono->Em,wpAny_newObj_type->Ch,wpAny_of_eq->XY,wpAny_passesOwn->GX,wpAny_pure->AM,wpAny_pyIter_enum->Gn,wpAny_pyIter_keyiter->jt,wpAny_pyIter_list->sv,wpAny_pyIter_revIter->jr,wpAny_pyIter_tuple->Dy,wpAny_pyNext_enum_itemD->eW,wpAny_rule->ZI,wpAny_seqItems->Lr,wpAny_sequenceKey->su,wpAny_setField->QW,wpAny_stack_any->vq,wpAny_standAt->cL,wpAny_truthy_bool->DC,wpAny_tryCatch->QV,wpAny_typeNameOfWhole_keyiter->Fj,wpAny_typeNameOf_keyiter->IC,wpAny_typeOf->Ug,wpAny_updateSeq->Xe
open PySem.Around renaming under->Xd,under_plainId->OE
open PySem.Builtin renaming bitAnd->BH,bitNot->fM,bitOr->Cg,bitXor->CD
open PySem.Builtin.Builtins renaming bindParams->OV
open PySem.Builtin.Dict renaming dictSlotNone->wH,showsAll->Sn
open PySem.Builtin.Dict_items renaming ownsTuple->NF
open PySem.Builtin.Int renaming intBits->Du
open PySem.Builtin.List renaming listItems->KR
open PySem.Builtin.Range renaming rangeSize->t8
open PySem.Builtin.Slice renaming sliceAdjust->JD,sliceApplied->Pj,sliceFields->t7,slicePartIndex->t6,slicePlaces->Fe
open PySem.Builtin.SmallTypes renaming nextOf->FA
open PySem.Builtin.Tuple renaming tupleCompareSizes->t5,tupleExact->Fy,tupleIsExact->t4,tupleItemsOf->Pi
open PySem.Calls renaming Name_function_global->Uq,callWith_builtin->Xr
open PySem.Challenge renaming pw_guardround_k62_whole_guide_for_ever->pG,rw_guardround_k62_whole_guide_for_ever->HP
open PySem.Code renaming frames->tz,isFrame->ZF
open PySem.Data renaming cell->Xq,fields->Sm
open PySem.F renaming args_dict_keyiterator_next_1->OU,args_enumerate_next_1->az,args_tuple_add_2->Kp,args_tuple_iterator_next_1->WJ,called_enumerate->kD,entry_dict_keyiterator_next->Oc,entry_enumerate_new->ei,entry_enumerate_next->cZ,entry_min_loop->Uo,entry_tuple_add->LW,entry_tuple_iterator_next->Xc,plain_min_loop->FI,slot_dict_iter->WC,slot_dict_keyiterator_next->C2,slot_enumerate_next->JM,slot_tuple_add->Lx,slot_tuple_iterator_next->Gw
open PySem.Heap renaming ExtBut->Sk,IsTuple->tS,SameBut->FO,get?_push_of_some->AN,get?_push_size->Ad,get?_update_ne->cY,get?_update_other->B1,get?_update_self->Fn,lt_size->Ae,size_push->C0
open PySem.Heap.IsSliceOf renaming new->tT
open PySem.Heap.SameBut renaming refl->wG,update->IL
open PySem.NameKind renaming cell->DM,free->Gq
open PySem.Obj renaming cls_mapFields->jo,data_mapFields->Kq,isFreed_of_fields->aw,mapFields->tM,mapSeq->Gh
open PySem.Paired renaming length->FT,snoc->ZE
open PySem.SeqAt.RcAt renaming tuples->tf
open PySem.Shared renaming heap->pF
open PySem.Str renaming ofString->Gs
open PySem.Value renaming bool->Pc,bytes->tK,float->ZQ,int->Rb,isInt->tJ,isStrOf->oF,none->D0,ref->BM,str->Ra,type->GY
open PySem.W renaming Frag->AG,callWith_K->Ot,cellsFrom_some->WB,codeIn->Sb,emptyDict->DN,findIn->Dq,fnOf->JR,handedIn->cS,hasDictIn->Pe,instObj->Ec,isFn->WA,kdu_collect->ZD,keepIn->Ft,kia_one->Cy,kitOne->Fs,kitx_dict->aq,kitx_list->ap,lookIn->NH,makesIn->ed,methodObj->Pd,mg_none_of->E9,mg_of->tE,nsIn->Sa,plainGet->LV,plainGet_of->OT,plainOver->ao,takerIn->Re
open PySem.W.Looks renaming here->tj
open PySem.W.WData renaming int->vt
open PySem.W.WShape renaming has->tI
open PySem.Within renaming cons->vw
open Sum renaming inl->Dg,inr->Rc
open True renaming intro->FK
namespace L2
open PySem PySem.Spec PyProof.Rows
abbrev Key:=Sum Int Str
def Vp:Key->AI->Bool
 | .inl k,v=>tJ k v
 | .inr x,v=>oF x v
def keyH(w:CH):Key->Int
 | .inl k=>hashInt k
 | .inr x=>hashStr w x
theorem Dt:∀{k:Key} {v:AI},Vp k v=true->(∃i t,k=Dg i/\v=Rb i t)∨(∃x t,k=Rc x/\v=Ra x t)
 | .inl i,v,h=>by
  obtain⟨t,e⟩:=AI.isInt_shape (k:=i) (v:=v) h;exact .inl ⟨i,t,rfl,e⟩
 | .inr x,v,h=>by
  obtain⟨t,e⟩:=AI.isStrOf_shape (x:=x) (v:=v) h;exact .inr ⟨x,t,rfl,e⟩
theorem dc(i:Int)(t:Tok):Vp (.inl i) (.int i t)=true:=by simp[Vp,tJ]
theorem db(x:Str)(t:Tok):Vp (.inr x) (.str x t)=true:=by simp[Vp,oF]
theorem rc(a b:Int):decide ((Dg a:Key)=Dg b)=(a==b):=by
 by_cases e:a=b
 ·subst e;simp
 ·have h:¬(Dg a:Key)=Dg b:=λq=>e (Dg.inj q)
  rw[wY h];exact(beq_eq_false_iff_ne.mpr e).symm
theorem rX(a b:Str):decide ((Rc a:Key)=Rc b)=decide (a=b):=by
 by_cases e:a=b
 ·subst e;simp
 ·have h:¬(Rc a:Key)=Rc b:=λq=>e (Rc.inj q)
  rw[wY h,wY e]
theorem rZ(a:Int)(b:Str):decide ((Dg a:Key)=Rc b)=false:=wY (λq=>nomatch q)
theorem rY(a:Str)(b:Int):decide ((Rc a:Key)=Dg b)=false:=wY (λq=>nomatch q)
def Ew(prog:Bh)(w:CH):PySem.KeyKind prog w Key where
 is:=Vp
 hash:=keyH w
 inj:=λv a b ha hb=>by
  rcases Dt ha with⟨i,t,rfl,rfl⟩ | ⟨x,t,rfl,rfl⟩
  ·rcases Dt hb with⟨j,u,rfl,e⟩ | ⟨y,u,rfl,e⟩
   ·injection e with e1 _;rw[e1]
   ·exact nomatch e
  ·rcases Dt hb with⟨j,u,rfl,e⟩ | ⟨y,u,rfl,e⟩
   ·exact nomatch e
   ·injection e with e1 _;rw[e1]
 byValue:=λk v h=>by
  rcases Dt h with⟨i,t,rfl,rfl⟩ | ⟨x,t,rfl,rfl⟩ <;> rfl
 pyHash:=λhv h=>by
  rcases Dt hv with⟨i,t,rfl,rfl⟩ | ⟨x,t,rfl,rfl⟩
  ·exact wpAny_pyHash_int h
  ·exact wpAny_pyHash_str h
 eqBool:=λhu hv h=>by
  rcases Dt hu with⟨i,t,rfl,rfl⟩ | ⟨x,t,rfl,rfl⟩
  ·rcases Dt hv with⟨j,u,rfl,rfl⟩ | ⟨y,u,rfl,rfl⟩
   ·rw[rc]at h;exact tX h
   ·rw[rZ]at h;exact SeqAt.EqAt.int_str i t y u _ _ _ _ h
  ·rcases Dt hv with⟨j,u,rfl,rfl⟩ | ⟨y,u,rfl,rfl⟩
   ·rw[rY]at h;exact SeqAt.EqAt.str_int x t j u _ _ _ _ h
   ·rw[rX]at h;exact wpAny_eqBool_str h
 «strs»:=λk x t v h=>by
  rcases Dt h with⟨i,u,rfl,e⟩ | ⟨y,u,rfl,e⟩
  ·exact nomatch e
  ·injection e with e1 _
   subst e1
   cases v <;> rfl
theorem Yh(prog:Bh)(w:CH)(i:Int)(t:Tok):(Ew prog w).is (.inl i) (.int i t)=true:=dc i t
theorem Yg(prog:Bh)(w:CH)(x:Str)(t:Tok):(Ew prog w).is (.inr x) (.str x t)=true:=db x t
inductive V where
 | non | bl (b:Bool) | int (i:Int) | str (x:Str) | byt (b:Array UInt8) | flt (b:UInt64) | ref (a:AW) | ty (n:String)
 deriving DecidableEq
def RelV:V->AI->Prop
 | .non,u=>u=D0
 | .bl b,u=>u=Pc b
 | .int i,u=>∃t,u=Rb i t
 | .str x,u=>∃t,u=Ra x t
 | .byt b,u=>∃t,u=tK b t
 | .flt b,u=>∃t,u=ZQ b t
 | .ref a,u=>u=BM a
 | .ty n,u=>u=GY n
abbrev Bw:List V->List AI->Prop:=HC RelV
theorem Bw.length(r:Bw xs us):xs.length=us.length:=FT r
theorem Bw.get:∀{xs:List V} {us:List AI} {i:Nat} {x:V},Bw xs us->xs[i]?=some x->∃u,us[i]?=some u/\RelV x u
 | _,_,_,_,.nil,e=>by simp at e
 | _,_,0,_,.cons r _,e=>by simp at e;subst e;exact⟨_,rfl,r⟩
 | _,_,i+1,x,.cons _ t,e=>by
  obtain⟨u,h1,h2⟩:=Bw.get (i:=i) (x:=x) t (by simpa using e);exact⟨u,by simpa using h1,h2⟩
theorem Bw.set(r:RelV x u):∀{xs:List V} {us:List AI} (i:Nat),Bw xs us->Bw (xs.set i x) (us.set i u)
 | _,_,_,.nil=>.nil
 | _,_,0,.cons _ t=>.cons r t
 | _,_,i+1,.cons q t=>.cons q (Bw.set r i t)
theorem Bw.append:∀{xs ys:List V} {us ws:List AI},Bw xs us->Bw ys ws->Bw (xs++ys) (us++ws)
 | _,_,_,_,.nil,s=>s
 | _,_,_,_,.cons r t,s=>.cons r (Bw.append t s)
theorem Bw.take:∀{xs:List V} {us:List AI} (n:Nat),Bw xs us->Bw (xs.take n) (us.take n)
 | _,_,0,_=>.nil
 | _,_,_+1,.nil=>.nil
 | _,_,n+1,.cons r t=>.cons r (Bw.take n t)
theorem Bw.drop:∀{xs:List V} {us:List AI} (n:Nat),Bw xs us->Bw (xs.drop n) (us.drop n)
 | _,_,0,r=>r
 | _,_,_+1,.nil=>.nil
 | _,_,n+1,.cons _ t=>Bw.drop n t
def Oa:Option V->Option AI->Prop
 | some v,some u=>RelV v u
 | none,none=>True
 | _,_=>False
def KV{κ:Type}:List (κ×V)->List (κ×AI)->Prop:=HC λ(p:κ×V) (q:κ×AI)=>p.1=q.1/\RelV p.2 q.2
def kV:Key->V
 | .inl i=>.int i
 | .inr x=>.str x
inductive HO where
 | lst (xs:List V)
 | tup (xs:List V)
 | dK (f':List (Key×V)) | dT (f':List (List Key×V))
 | set (S:Int->Bool) (n:Nat)
 | ins (C dx:AW) (fs:List (Str×V))
 | own (x:AW)
 | xd (fs:List (Str×V))
 | met (f x:AW)
 | rng (lo hi:Int)
 | frz (o:Obj) (u:HO)
 | tbl (ps:Array AI)
 | ext (φ:C9->Prop)
abbrev Hp:=AW->Option HO
def upd(H:Hp)(a:AW)(o:HO):Hp:=λb=>if b=a then some o else H b
theorem B0:upd H a o a=some o:=by unfold upd;rw[qX rfl]
theorem Bi(h:b≠a):upd H a o b=H b:=by unfold upd;rw[qY h]
theorem u9{H:Hp}{a b:AW}{o u:HO}(h:H a=some o)(h':H b=some u)(d:o≠u):a≠b:=by
 intro e;subst e;rw[h]at h';exact d (Bl h')
theorem Cn{H:Hp}{a b:AW}{o:HO}(h:H a=some o)(h':H b=none):a≠b:=by
 intro e;subst e;rw[h]at h';cases h'
section
variable(P:Bh)(w:CH)
def DE(H:Hp)(h:C9)(a:AW):HO->Prop
 | .lst xs=>xs.length<=sizeLine/\∃(tx:List AI) (n:Nat),Bw xs tx/\h.get? a=some { cls:=.type "list",data:=.seq tx.toArray n }
 | .tup xs=>(xs.length<=sizeLine/\∃o,h.get? a=some o/\o.dict=none)/\∃tx:List AI,Bw xs tx/\ZU h a tx.toArray
 | .dK f'=>f'.length<=sizeLine/\(a==EI)=false/\∃vs,KV f' vs/\h.DictOf (Ew P w) a vs
 | .dT f'=>f'.length<=sizeLine/\(a==EI)=false/\∃xs:List (List Key×AW×AI),
   HC (λ(p:List Key×V) (q:List Key×AW×AI)=>p.1=q.1/\H q.2.1=some (.tup (p.1.map kV))/\RelV p.2 q.2.2) f' xs /\
   ∃o es ep,h.get? a=some o/\o.ExactDict/\o.data=.dict es ep/\es.toList=xs.map (entryOfKey (V7 (Ew P w)))/\(xs.map (·.1)).Nodup
 | .set S n=>h.SetOf (intKind P w) a S n
 | .ins C dx fs=>H dx=some (.own a)/\fs.length<=1000/\dx≠a/\h.get? a=some (Ec C dx) /\
   ∃mA,h.Ns1 dx mA/\(∀f,Oa (fs.lookup f) (mA f))/\Xh mA (fs.map (·.1))
 | .own _=>∃o,h.get? a=some o
 | .xd fs=>∃mA,h.Ns1 a mA/\∀f,Oa (fs.lookup f) (mA f)
 | .rng lo hi=>∃t u v,h.get? a=some { cls:=.type "range",data:=.fields #[.int lo t,.int hi u,.int 1 v] }
 | .frz o u=>h.get? a=some o/\DE H h a u
 | .tbl ps=>h.get? a=some { cls:=.none,data:=.fields ps }
 | .met f x=>h.get? a=some (Pd (.ref f) (.ref x))
 | .ext φ=>φ h/\(∃o,h.get? a=some o)/\∀h1 h2:C9,φ h1->(∀o,h1.get? a=some o->h2.get? a=some o)->φ h2
def HOk(H:Hp)(h:C9):Prop:=∀a o,H a=some o->DE P w H h a o
end
section
variable{P:Bh}{w:CH}{H H':Hp}{h h':C9}{a:AW}{o:HO}
theorem DE.lt(x:DE P w H h a o):a < h.objs.size:=by
 cases o with
 | lst xs=>obtain⟨_,_,_,_,e⟩:=x;exact Ae e
 | tup xs=>obtain⟨_,_,_,p⟩:=x;exact p.lt
 | dK f'=>obtain⟨_,_,_,_,o,_,_,e,_⟩:=x;exact Ae e
 | dT f'=>obtain⟨_,_,_,_,o,_,_,e,_⟩:=x;exact Ae e
 | set S n=>obtain⟨o,_,_,_,e,_⟩:=x;exact Ae e
 | ins C dx fs=>obtain⟨_,_,_,e,_⟩:=x;exact Ae e
 | own y=>obtain⟨_,e⟩:=x;exact Ae e
 | xd fs=>obtain⟨_,⟨_,_,_,e,_⟩,_⟩:=x;exact Ae e
 | rng lo hi=>obtain⟨_,_,_,e⟩:=x;exact Ae e
 | frz ob u=>obtain⟨e,_⟩:=x;exact Ae e
 | tbl ps=>exact Ae (show h.get? a=some _ from x)
 | met f y=>exact Ae (show h.get? a=some _ from x)
 | ext φ=>obtain⟨_,⟨_,e⟩,_⟩:=x;exact Ae e
theorem HC.mapP{α β:Type}{F G:α->β->Prop}:∀{l₁:List α} {l₂:List β},HC F l₁ l₂->(∀a b,F a b->G a b)->HC G l₁ l₂
 | _,_,.nil,_=>.nil
 | _,_,.cons r t,f=>.cons (f _ _ r) (HC.mapP t f)
theorem DE.stay(x:DE P w H h a o)(k:∀b u,(b=a∨H b=some (.own a))->h.get? b=some u->h'.get? b=some u)
  (ho:∀b,H b=some (.own a)->H' b=some (.own a)) (ht:∀b xs,H b=some (.tup xs)->H' b=some (.tup xs)):DE P w H' h' a o:=by
 induction o with
 | lst xs=>obtain⟨z,tx,n,r,e⟩:=x;exact⟨z,tx,n,r,k _ _ (.inl rfl) e⟩
 | tup xs=>obtain⟨⟨z,o2,e2,c2⟩,tx,r,ob,e,c⟩:=x;exact⟨⟨z,o2,k _ _ (.inl rfl) e2,c2⟩,tx,r,ob,k _ _ (.inl rfl) e,c⟩
 | dK f'=>obtain⟨z,y,vs,r,ob,es,ep,e,c⟩:=x;exact⟨z,y,vs,r,ob,es,ep,k _ _ (.inl rfl) e,c⟩
 | dT f'=>
  obtain⟨z,y,xs,r,ob,es,ep,e,c⟩:=x;exact⟨z,y,xs,HC.mapP r λp q z=>⟨z.1,ht _ _ z.2.1,z.2.2⟩,ob,es,ep,k _ _ (.inl rfl) e,c⟩
 | set S n=>obtain⟨ob,es,ep,t,e,c⟩:=x;exact⟨ob,es,ep,t,k _ _ (.inl rfl) e,c⟩
 | ins C dx fs=>
  obtain⟨d,z,ne,e,mA,⟨od,es,ep,e2,c⟩,r⟩:=x;exact⟨ho _ d,z,ne,k _ _ (.inl rfl) e,mA,⟨od,es,ep,k _ _ (.inr d) e2,c⟩,r⟩
 | own y=>obtain⟨ob,e⟩:=x;exact⟨ob,k _ _ (.inl rfl) e⟩
 | xd fs=>obtain⟨mA,⟨od,es,ep,e,c⟩,r⟩:=x;exact⟨mA,⟨od,es,ep,k _ _ (.inl rfl) e,c⟩,r⟩
 | rng lo hi=>obtain⟨t,u,v,e⟩:=x;exact⟨t,u,v,k _ _ (.inl rfl) e⟩
 | frz ob u ih=>obtain⟨e,q⟩:=x;exact⟨k _ _ (.inl rfl) e,ih q⟩
 | tbl ps=>
  have e:h.get? a=some { cls:=.none,data:=.fields ps }:=x;show h'.get? a=some { cls:=.none,data:=.fields ps };exact k a _ (.inl rfl) e
 | met f y=>
  have e:h.get? a=some (Pd (.ref f) (.ref y)):=x;show h'.get? a=some (Pd (.ref f) (.ref y));exact k a _ (.inl rfl) e
 | ext φ=>obtain⟨p,⟨o,e⟩,st⟩:=x;exact⟨st _ _ p λo q=>k _ _ (.inl rfl) q,⟨o,k _ _ (.inl rfl) e⟩,st⟩
theorem HOk.lt(x:HOk P w H h)(e:H a=some o):a < h.objs.size:=(x a o e).lt
theorem HOk.fresh(x:HOk P w H h)(e:h.objs.size<=a):H a=none:=by
 cases q:H a with
 | none=>rfl
 | some u=>exact zX (AV (x.lt q) e) (Cj _)
theorem HOk.kept(x:HOk P w H h)(k:∀b u,h.get? b=some u->h'.get? b=some u):HOk P w H h':=λa o e=>
 (x a o e).stay (λb u _ q=>k b u q) (λ_ q=>q) λ_ _ q=>q
theorem HOk.laid(x:HOk P w H h)(k:∀b u,h.get? b=some u->h'.get? b=some u)(hp:h.objs.size<=a)(new:DE P w (upd H a o) h' a o):HOk P w (upd H a o) h':=λb u e=>by
 have hn:=x.fresh hp
 by_cases hb:b=a
 ·subst hb;rw[B0]at e;cases e;exact new
 ·rw[Bi hb]at e
  exact(x b u e).stay (λc v _ q=>k c v q) (λc q=>by rw[Bi (Cn q hn)];exact q) λc xs q=>by rw[Bi (Cn q hn)];exact q
end
def Rd(H:Hp)(a:AW)(u:HO):Prop:=H a=some u∨∃o,H a=some (.frz o u)
theorem Rd.ok(r:Rd H a u)(x:HOk P w H h):DE P w H h a u:=by
 rcases r with r | ⟨o,r⟩
 ·exact x a u r
 ·obtain⟨_,q⟩:=x a _ r
  exact q
def Mut:Option HO->Prop
 | some (.lst _)=>True
 | some (.dK _)=>True
 | some (.dT _)=>True
 | some (.set _ _)=>True
 | some (.ins _ _ _)=>True
 | some (.ext _)=>True
 | _=>False
section
variable{P:Bh}{w:CH}{H:Hp}{h h':C9}{x e:AW}
theorem HOk.write(ok:HOk P w H h)(mu:Mut (H x))(he:e=x∨H e=some (.own x))(k:∀b u,b≠e->h.get? b=some u->h'.get? b=some u)(zV:∃u,h'.get? e=some u)
  (new:DE P w (upd H x o') h' x o'):HOk P w (upd H x o') h':=λb u q=>by
 have V':∀c y,H c=some (.own y)->c≠x:=λc y r z=>by subst z;rw[r]at mu;exact mu
 have ntup:∀c xs,H c=some (.tup xs)->c≠x:=λc xs r z=>by subst z;rw[r]at mu;exact mu
 by_cases hb:b=x
 ·subst hb;rw[B0]at q;cases q;exact new
 ·rw[Bi hb]at q
  by_cases hbe:b=e
  ·have q':H b=some (.own x):=by
    rcases he with z | z
    ·exact zX (hbe.trans z) hb
    ·rw[hbe];exact z
   rw[q]at q';cases q';obtain⟨v,hv⟩:=zV;exact⟨v,by rw[hbe];exact hv⟩
  ·refine(ok b u q).stay (λc v hc r=>k c v ?_ r) (λc r=>by rw[Bi (V' c b r)];exact r) λc xs r=>by rw[Bi (ntup c xs r)];exact r
   rcases hc with rfl | hc
   ·exact hbe
   ·rintro rfl
    rcases he with z | z
    ·exact V' c b hc z
    ·rw[hc]at z;cases z;exact hb rfl
end
structure Un(fs ex:List AW)(H H':Hp)(h h':C9):Prop where
 keep:∀b o,h.get? b=some o->H b=none->b∉fs->b∉ex->h'.get? b=some o
 slot:∀b o,h.get? b=some o->H b=none->b∈fs->b∉ex->∃sl,h'.get? b=some { o with slots:=sl }
 free:∀b o,h.get? b=some o->H b=none->b∉ex->H' b=none
 there:∀b o,h.get? b=some o->b∉ex->∃o',h'.get? b=some o'
 tups:∀b xs,H b=some (.tup xs)->H' b=some (.tup xs)
 frzs:∀b o u,H b=some (.frz o u)->H' b=some (.frz o u)
 tbls:∀b ps,H b=some (.tbl ps)->∃more,H' b=some (.tbl (ps++more))
section
variable{fs ex:List AW}{H H1:Hp}{h h1 h':C9}{a x e:AW}{o:HO}
theorem Un.any(u:Un fs ex H H1 h h1)(q:h.get? b=some ob)(n:H b=none)(hx:b∉ex):∃sl,h1.get? b=some { ob with slots:=sl }:=by
 by_cases hb:b∈fs
 ·exact u.slot b ob q n hb hx
 ·exact⟨ob.slots,u.keep b ob q n hb hx⟩
theorem Un.kept(k:∀b u,h.get? b=some u->h'.get? b=some u):Un fs ex H H h h':=
 ⟨λb ob q _ _ _=>k b ob q,λb ob q _ _ _=>⟨ob.slots,k b ob q⟩,λ_ _ _ n _=>n,λb ob q _=>⟨ob,k b ob q⟩,λ_ _ q=>q,λ_ _ _ q=>q,λ_ ps q=>⟨#[],by rw[q];simp⟩⟩
theorem Un.refl:Un fs ex H H h h:=Un.kept λ_ _ q=>q
theorem Un.laid(k:∀b u,h.get? b=some u->h'.get? b=some u)(hp:h.objs.size<=a)(hn:H a=none):Un fs ex H (upd H a o) h h' where
 keep:=λb u q _ _ _=>k b u q
 slot:=λb u q _ _ _=>⟨u.slots,k b u q⟩
 free:=λb u q n _=>by rw[Bi (BF (AV (Ae q) hp))];exact n
 there:=λb u q _=>⟨u,k b u q⟩
 tups:=λb xs q=>by rw[Bi (Cn q hn)];exact q
 frzs:=λb u xs q=>by rw[Bi (Cn q hn)];exact q
 tbls:=λb ps q=>⟨#[],by rw[Bi (Cn q hn),q];simp⟩
theorem Un.write(mu:Mut (H x))(he:e=x∨H e=some (.own x))(k:∀b u,b≠e->h.get? b=some u->h'.get? b=some u)(zV:∃u,h'.get? e=some u):Un fs ex H (upd H x o) h h':=by
 have hx:∀b,H b=none->b≠x:=λb n z=>by subst z;rw[n]at mu;exact mu
 have hb:∀b,H b=none->b≠e:=λb n z=>by
  subst z
  rcases he with r | r
  ·exact hx b n r
  ·rw[n]at r;cases r
 have hm:∀b u,H b=some u->¬Mut (some u)->b≠x:=λb u q nm z=>by subst z;rw[q]at mu;exact nm mu
 refine⟨λb u q n _ _=>k b u (hb b n) q,λb u q n _ _=>⟨u.slots,k b u (hb b n) q⟩,λb u q n _=>by rw[Bi (hx b n)];exact n,λb u q _=>?_,
  λb xs q=>by rw[Bi (hm b _ q λz=>z)];exact q,λb u xs q=>by rw[Bi (hm b _ q λz=>z)];exact q,λb ps q=>⟨#[],by rw[Bi (hm b _ q λz=>z),q];simp⟩⟩
 by_cases hbe:b=e
 ·subst hbe;exact zV
 ·exact⟨u,k b u hbe q⟩
end
def trk(h:C9)(H:Hp):List AW:=(D4 h.objs.size).filter λa=>(H a).isSome
def W8(h:C9)(H:Hp):C9:=PySem.W.hideAll h (trk h H)
theorem dk(h:C9)(H:Hp):(W8 h H).objs.size=h.objs.size:=PySem.W.hideAll_size _ _
theorem ik(e:h.get? b=some o)(n:H b=none):(W8 h H).get? b=some o:=
 PySem.W.hideAll_get _ e λhm=>by
  have q:(H b).isSome=true:=(BJ.mp hm).2;rw[n]at q;simp at q
theorem mW(e:(W8 h H).get? b=some o):h.get? b=some o/\H b=none:=by
 have e':h.get? b=some o:=PySem.W.of_hideAll (trk h H) e;refine⟨e',?_⟩
 cases q:H b with
 | none=>rfl
 | some x=>
  have hm:b∈trk h H:=BJ.mpr ⟨Od.mpr (Ae e'),by simp[q]⟩;have z:(W8 h H).get? b=none:=PySem.W.hideAll_none (trk h H) hm;rw[z]at e;cases e
structure Mod(K:AG)(mg:Str->Option AI)(base:C9):Prop where
 kin:K.In base
 glob:base.Ns BY mg
 blt:∃mb,base.Ns ZN mb/\∀x:Str,x≠"__name__"->mb x=Fo x
 nolimit:base.NoLimit
structure Cx where
 prog:Bh
 w:CH
 K:AG
 mg:Str->Option AI
 base:C9
 A:CM
 N:List Str
 s₀:AR
 H₀:Hp
 env:Env
 outer:List Env
 stack:List Env
 ex:List AW
 fn:Str->Bool
 calm:Bool
 pn:List (AW×Obj)
 xe:AI->AR->Prop
def frs(l:List Env):List AW:=l.filterMap (·.frame)
abbrev Cx.fs(X:Cx):List AW:=frs X.outer
def Vis(sc:Ul)(x:Str):Prop:=sc.names.lookup x=some .local∨sc.names.lookup x=some .cell∨sc.names.lookup x=some .free
def Loc(sc:Ul)(x:Str):Prop:=sc.names.lookup x=some .local∨sc.names.lookup x=some .cell
def Look(env:Env)(h:C9)(m:Str->Option AI)(x:Str)(u:AI):Prop:=
 (env.kindOf x=some .local/\m x=some u)∨((env.kindOf x=some .cell∨env.kindOf x=some .free)/\∃c,env.cells.lookup x=some c/\h.IsCell c (some u))
structure Cx.Ok(X:Cx):Prop where
 mod:Mod X.K X.mg X.base
 kind:X.env.scope.kind=.function
 glob:X.env.globals=BY
 blt:X.env.builtins=ZN
 above:X.s₀.heap.objs.size<=X.env.locals
 inj:∀x y c,X.env.cells.lookup x=some c->X.env.cells.lookup y=some c->x=y
 has:∀x,(X.env.kindOf x=some .cell∨X.env.kindOf x=some .free)->∃c,X.env.cells.lookup x=some c
 cab:∀x c,X.fn x=true->X.env.cells.lookup x=some c->X.s₀.heap.objs.size<=c
 hd:X.calm=true->X.A.handled=none
 frames:X.A.frames=some X.stack
 stk:X.stack=X.outer∨(X.stack=X.env :: X.outer/\X.env.frame=some X.env.locals)
 exf:∀b∈X.ex,b≠X.env.locals/\∀x c,X.env.cells.lookup x=some c->c≠b
 bs:∀b o,X.base.get? b=some o->X.s₀.heap.get? b=some o/\X.H₀ b=none
 bsz:X.base.objs.size<=X.s₀.heap.objs.size
 noex:∀b o,X.base.get? b=some o->b∉X.ex
 exfs:∀b∈X.ex,b∉X.fs
 funs:X.s₀.heap.FunFrames X.base X.outer
 frf:∀b∈X.fs,X.H₀ b=none
structure Inv(X:Cx)(ζ:List (AW×Obj))(σ:List (Option V))(H:Hp)(s:AR):Prop where
 ok:X.Ok
 os:s.os=X.s₀.os
 bare:LY s.gens
 base:Un X.fs X.ex X.H₀ H X.s₀.heap s.heap
 loc:∃m,s.heap.Ns X.env.locals m/\∀(i:Nat) (x:Str) (v:V),X.N[i]?=some x->σ[i]?=some (some v)->Vis X.env.scope x->∃u,RelV v u/\Look X.env s.heap m x u
 cell:∀x c,X.env.cells.lookup x=some c->∃v,s.heap.IsCell c v
 free:H X.env.locals=none
 freeC:∀x c,X.env.cells.lookup x=some c->H c=none
 pin:∀p∈X.pn++ζ,s.heap.get? p.1=some p.2/\H p.1=none/\p.1≠X.env.locals/\p.1∉X.fs/\∀v,p.2.data≠.cell v
 hok:HOk X.prog X.w H s.heap
 len:σ.length=X.N.length
section
variable{X:Cx}{ζ:List (AW×Obj)}{σ:List (Option V)}{H H':Hp}{s:AR}{h':C9}
theorem Cx.Ok.nofr(ok:X.Ok)(e:X.base.get? b=some o):b∉X.fs:=λhb=>by
 have:=(ok.funs.mem hb).1;rw[e]at this;cases this
theorem Inv.bs(I:Inv X ζ σ H s):∀b o,X.base.get? b=some o->s.heap.get? b=some o/\H b=none:=λb o e=>
 ⟨I.base.keep b o (I.ok.bs b o e).1 (I.ok.bs b o e).2 (I.ok.nofr e) (I.ok.noex b o e),I.base.free b o (I.ok.bs b o e).1 (I.ok.bs b o e).2 (I.ok.noex b o e)⟩
theorem Inv.bk(I:Inv X ζ σ H s):∀b o,X.base.get? b=some o->s.heap.get? b=some o:=λb o e=>(I.bs b o e).1
theorem Inv.mod(I:Inv X ζ σ H s):Mod X.K X.mg X.base:=I.ok.mod
theorem Inv.kIn(I:Inv X ζ σ H s):X.K.In s.heap:=I.ok.mod.kin.keeps I.bk
theorem Inv.lt(I:Inv X ζ σ H s):X.env.locals < s.heap.objs.size:=let ⟨_,hn,_⟩:=I.loc;hn.lt
theorem Inv.sz(I:Inv X ζ σ H s):X.s₀.heap.objs.size<=s.heap.objs.size:=Am I.ok.above (NI I.lt)
theorem Inv.nofs(I:Inv X ζ σ H s)(h:s.heap.objs.size<=a):a∉X.fs:=λhb=>by
 obtain⟨_,o,ho,_⟩:=I.ok.funs.mem hb;exact zX (AV (Ae ho) (Am I.sz h)) (Cj _)
theorem Inv.cne(I:Inv X ζ σ H s):∀x c,X.env.cells.lookup x=some c->c≠X.env.locals:=λx c e z=>by
 obtain⟨v,o,ho,hd⟩:=I.cell x c e;obtain⟨m,⟨o',es,ep,xS,yg,_⟩,_⟩:=I.loc;rw[z,xS]at ho;cases ho;rw[yg]at hd;cases hd
theorem Inv.funs(I:Inv X ζ σ H s):s.heap.FunFrames X.base X.outer:=by
 have all:∀(l:List Env),(∀b∈frs l,b∈X.fs)->X.s₀.heap.FunFrames X.base l->s.heap.FunFrames X.base l:=by
  intro l
  induction l with
  | nil=>intro _ _;trivial
  | cons env r ih=>
   intro hs hl;obtain⟨hk,⟨L,o,hf,hn,ho,hd⟩,hr⟩:=hl;have hL:L∈X.fs:=hs L (by unfold frs;rw[Pa,hf];exact AT)
   obtain⟨sl,e⟩:=I.base.slot L o ho (I.ok.frf L hL) hL λz=>I.ok.exfs L z hL
   exact⟨hk,⟨L,_,hf,hn,e,hd⟩,ih (λb hb=>hs b (by unfold frs;rw[Pa,hf];exact AS _ hb)) hr⟩
 exact all X.outer (λ_ hb=>hb) I.ok.funs
theorem Inv.stack(I:Inv X ζ σ H s):s.heap.FunFrames X.base X.stack:=by
 rcases I.ok.stk with e | ⟨e,hf⟩
 ·rw[e];exact I.funs
 ·rw[e]
  obtain⟨m,hn,_⟩:=I.loc;refine .cons (by rw[I.ok.kind];decide) hf hn ?_ I.funs;exact C9.get?_none_of_le (Am I.ok.bsz I.ok.above)
theorem Inv.stkSub(I:Inv X ζ σ H s):∀b∈frs X.stack,b∈X.env.locals :: X.fs:=λb hb=>by
 rcases I.ok.stk with e | ⟨e,hf⟩
 ·rw[e]at hb;exact AS _ hb
 ·rw[e]at hb
  unfold frs at hb;rw[Pa,hf]at hb;exact hb
theorem Inv.stkFree(I:Inv X ζ σ H s):∀b∈frs X.stack,H b=none:=λb hb=>by
 rcases AZ.mp (I.stkSub b hb)with e | hb
 ·rw[e];exact I.free
 ·obtain⟨_,o,ho,_⟩:=I.ok.funs.mem hb
  exact I.base.free b o ho (I.ok.frf b hb) λz=>I.ok.exfs b z hb
theorem Inv.step{g':Array GenState}{t':Nat}{d':Drawn}{ch:List AW}(I:Inv X ζ σ H s)
  (yb:∀b∈ch,(b∈X.ex∨X.s₀.heap.objs.size<=b)/\b≠X.env.locals/\(∀x c,X.env.cells.lookup x=some c->c≠b)/\∀p∈X.pn++ζ,p.1≠b)
  (keep:∀b o,b≠X.env.locals->b∉X.fs->b∉ch->s.heap.get? b=some o->H b=none->h'.get? b=some o)
  (slot:∀b o,b≠X.env.locals->b∈X.fs->b∉ch->s.heap.get? b=some o->H b=none->∃sl,h'.get? b=some { o with slots:=sl }) (free:∀b o,b∉ch->s.heap.get? b=some o->H b=none->H' b=none)
  (there:∀b o,b∉ch->s.heap.get? b=some o->∃o',h'.get? b=some o')
  (tups:∀b xs,H b=some (.tup xs)->H' b=some (.tup xs)) (frzs:∀b o u,H b=some (.frz o u)->H' b=some (.frz o u)) (tbls:∀b ps,H b=some (.tbl ps)->∃more,H' b=some (.tbl (ps++more)))
  (ns:∀m,s.heap.Ns X.env.locals m->h'.Ns X.env.locals m) (hok:HOk X.prog X.w H' h') (hg:LY g') :
  Inv X ζ σ H' { s with heap:=h',gens:=g',drawn:=d',toks:=t' }:=by
 have neL:∀b o,X.s₀.heap.get? b=some o->b≠X.env.locals:=λb o e=>BF (AV (Ae e) I.ok.above)
 have neC:∀b o,X.s₀.heap.get? b=some o->b∉X.ex->b∉ch:=λb o e hx hb=>by
  rcases(yb b hb).1 with z | z
  ·exact hx z
  ·exact zX (AV (Ae e) z) (Cj _)
 have cellK:∀x c,X.env.cells.lookup x=some c->∀v,s.heap.IsCell c v->h'.IsCell c v:=λx c e v ⟨o,ho,hd⟩=>by
  have W':c∉ch:=λz=>(yb c z).2.2.1 x c e rfl
  by_cases hc:c∈X.fs
  ·obtain⟨sl,q⟩:=slot c o (I.cne x c e) hc W' ho (I.freeC x c e)
   exact⟨_,q,hd⟩
  ·exact⟨o,keep c o (I.cne x c e) hc W' ho (I.freeC x c e),hd⟩
 refine⟨I.ok,I.os,hg,⟨λb o e n hb hx=>?_,λb o e n hb hx=>?_,λb o e n hx=>?_,λb o e hx=>?_,λb xs e=>tups b xs (I.base.tups b xs e),λb o xs e=>frzs b o xs (I.base.frzs b o xs e),λb ps e=>?_⟩,?_,λx c e=>?_,?_,λx c e=>?_,λp hp=>?_,hok,I.len⟩
 ·exact keep b o (neL b o e) hb (neC b o e hx) (I.base.keep b o e n hb hx) (I.base.free b o e n hx)
 ·obtain⟨sl,e1⟩:=I.base.slot b o e n hb hx
  obtain⟨sl',e2⟩:=slot b _ (neL b o e) hb (neC b o e hx) e1 (I.base.free b o e n hx);exact⟨sl',e2⟩
 ·obtain⟨o',e1⟩:=I.base.there b o e hx
  exact free b o' (neC b o e hx) e1 (I.base.free b o e n hx)
 ·obtain⟨o',e1⟩:=I.base.there b o e hx
  exact there b o' (neC b o e hx) e1
 ·obtain⟨m1,e1⟩:=I.base.tbls b ps e
  obtain⟨m2,e2⟩:=tbls b _ e1;exact⟨m1++m2,by rw[e2,Array.append_assoc]⟩
 ·obtain⟨m,hn,hl⟩:=I.loc
  refine⟨m,ns m hn,λi x v e1 e2 e3=>?_⟩;obtain⟨u,r,l⟩:=hl i x v e1 e2 e3;refine⟨u,r,?_⟩
  rcases l with l | ⟨k,c,e,z⟩
  ·exact .inl l
  ·exact .inr ⟨k,c,e,cellK x c e _ z⟩
 ·obtain⟨v,z⟩:=I.cell x c e
  exact⟨v,cellK x c e v z⟩
 ·obtain⟨m,⟨o,_,_,ho,_⟩,_⟩:=I.loc
  exact free _ o (λz=>(yb _ z).2.1 rfl) ho I.free
 ·obtain⟨v,o,ho,hd⟩:=I.cell x c e
  exact free c o (λz=>(yb c z).2.2.1 x c e rfl) ho (I.freeC x c e)
 ·obtain⟨e,n,ne,nf,d⟩:=I.pin p hp
  have W':p.1∉ch:=λz=>(yb p.1 z).2.2.2 p hp rfl
  exact⟨keep p.1 p.2 ne nf W' e n,free p.1 p.2 W' e n,ne,nf,d⟩
theorem Inv.un{t':Nat}(I:Inv X ζ σ H s)(u:Un X.fs [] H H' s.heap h')(hok:HOk X.prog X.w H' h'):Inv X ζ σ H' { s with heap:=h',toks:=t' }:=by
 obtain⟨m,⟨o,es,ep,ho,r⟩,_⟩:=id I.loc;obtain⟨sl,hL⟩:=u.any ho I.free (by simp)
 exact I.step (g':=s.gens) (d':=s.drawn) (ch:=[]) (λ_ z=>nomatch z) (λb o _ hb _ e n=>u.keep b o e n hb (by simp)) (λb o _ hb _ e n=>u.slot b o e n hb (by simp)) (λb o _ e n=>u.free b o e n (by simp)) (λb o _ e=>u.there b o e (by simp)) u.tups u.frzs u.tbls (λm' hm=>by
  obtain⟨o',es',ep',xS,r'⟩:=hm;rw[ho]at xS;cases xS
  exact⟨_,es',ep',hL,r'⟩) hok I.bare
theorem Inv.call{g':Array GenState}{t':Nat}{d':Drawn}{ch:List AW}(I:Inv X ζ σ H s)(u:Un (frs X.stack) ch H H' s.heap h')(hok:HOk X.prog X.w H' h')(hg:LY g')
  (yb:∀b∈ch,(b∈X.ex∨X.s₀.heap.objs.size<=b)/\b≠X.env.locals/\(∀x c,X.env.cells.lookup x=some c->c≠b)/\∀p∈X.pn++ζ,p.1≠b) :
  Inv X ζ σ H' { s with heap:=h',gens:=g',drawn:=d',toks:=t' }:=by
 obtain⟨m,⟨o,es,ep,ho,r⟩,_⟩:=id I.loc
 obtain⟨sl,hL⟩:=u.any ho I.free λz=>(yb _ z).2.1 rfl
 exact I.step (ch:=ch) yb (λb o hL hb hc e n=>u.keep b o e n (λz=>(AZ.mp (I.stkSub b z)).elim hL hb) hc) (λb o _ _ hc e n=>u.any e n hc) (λb o hc e n=>u.free b o e n hc) (λb o hc e=>u.there b o e hc) u.tups u.frzs u.tbls (λm' hm=>by
  obtain⟨o',es',ep',xS,r'⟩:=hm;rw[ho]at xS;cases xS
  exact⟨_,es',ep',hL,r'⟩) hok hg
theorem Inv.turned{t':Nat}{it:AW}(I:Inv X ζ σ H s)(k:∀b o,b≠it->s.heap.get? b=some o->h'.get? b=some o)(hn:H it=none)(hL:it≠X.env.locals)
  (h1:it∈X.ex∨X.s₀.heap.objs.size<=it) (h2:∀x c,X.env.cells.lookup x=some c->c≠it) (h3:∀p∈X.pn++ζ,p.1≠it):Inv X ζ σ H { s with heap:=h',toks:=t' }:=by
 have Y':∀b u,H b=some u->b≠it:=λb u e z=>by rw[z,hn]at e;cases e
 refine I.step (g':=s.gens) (d':=s.drawn) (ch:=[it]) (λb hb=>?_) (λb o _ _ hc e _=>k b o (λz=>hc (by simp[z])) e) (λb o _ _ hc e _=>⟨o.slots,k b o (λz=>hc (by simp[z])) e⟩) (λ_ _ _ _ n=>n)
  (λb o hc e=>⟨o,k b o (λz=>hc (by simp[z])) e⟩) (λ_ _ e=>e) (λ_ _ _ e=>e) (λb ps e=>⟨#[],by rw[e];simp⟩) (λm hm=>?_) (λb u e=>?_) I.bare
 ·have e:b=it:=by simpa using hb
  subst e;exact⟨h1,hL,h2,h3⟩
 ·obtain⟨o,es,ep,ho,r⟩:=hm
  exact⟨o,es,ep,k _ o (Bs hL) ho,r⟩
 ·refine(I.hok b u e).stay (λc v hc q=>k c v ?_ q) (λ_ q=>q) λ_ _ q=>q
  rcases hc with z | z
  ·rw[z];exact Y' b u e
  ·exact Y' c _ z
theorem Inv.tok(I:Inv X ζ σ H s)(t:Nat):Inv X ζ σ H { s with toks:=t }:=I.un (h':=s.heap) (t':=t) Un.refl I.hok
theorem Inv.kept(I:Inv X ζ σ H s)(k:∀b u,s.heap.get? b=some u->h'.get? b=some u):Inv X ζ σ H { s with heap:=h',toks:=t' }:=I.un (Un.kept k) (I.hok.kept k)
theorem Inv.laid(I:Inv X ζ σ H s)(k:∀b u,s.heap.get? b=some u->h'.get? b=some u)(hp:s.heap.objs.size<=a)(new:DE X.prog X.w (upd H a o) h' a o) :
  Inv X ζ σ (upd H a o) { s with heap:=h',toks:=t' }:=I.un (Un.laid k hp (I.hok.fresh hp)) (I.hok.laid k hp new)
theorem Inv.write(I:Inv X ζ σ H s)(mu:Mut (H x))(he:e=x∨H e=some (.own x))(k:∀b u,b≠e->s.heap.get? b=some u->h'.get? b=some u)(zV:∃u,h'.get? e=some u)
  (new:DE X.prog X.w (upd H x o) h' x o):Inv X ζ σ (upd H x o) { s with heap:=h',toks:=t' }:=I.un (Un.write mu he k zV) (I.hok.write mu he k zV new)
theorem Inv.pins_of(I:Inv X ζ σ H s)(h:∀p∈pins',s.heap.get? p.1=some p.2/\H p.1=none/\p.1≠X.env.locals/\p.1∉X.fs/\∀v,p.2.data≠.cell v):Inv X pins' σ H s:=
 ⟨I.ok,I.os,I.bare,I.base,I.loc,I.cell,I.free,I.freeC,λp hp=>(A0.mp hp).elim (λz=>I.pin p (BN _ z)) (h p),I.hok,I.len⟩
theorem Ye{N:List Str}(hN:N.Nodup){i j:Nat}{x:Str}(a:N[i]?=some x)(b:N[j]?=some x):i=j:=by
 obtain⟨h1,e1⟩:=AC.mp a;obtain⟨h2,e2⟩:=AC.mp b;exact(SB hN).mp (e1.trans e2.symm)
theorem Va{M:Model}{A:CM}{E:AI->AR->Prop}{i:Nat}{x:Str}{v:V}{u:AI}{Q:Unit->AR->Prop}(I:Inv X ζ σ H s)(hN:X.N.Nodup)(hi:X.N[i]?=some x)(hx:Loc X.env.scope x)(r:RelV v u)
  (h:∀s',Inv X ζ (σ.set i (some v)) H s'->(∃a,FO a s.heap s'.heap/\(a=X.env.locals∨X.env.cells.lookup x=some a))->Q () s') (hf:X.fn x=true∨X.env.scope.names.lookup x=some .local:=by first | exact .inl rfl | exact .inr rfl | assumption):Af M A (tZ X.env x u) Q E s:=by
 obtain⟨m,hn,hl⟩:=id I.loc
 have hcls:(X.env.scope.kind==.class||(X.env.scope.kind==.module&&X.env.locals != X.env.globals))=false:=by rw[I.ok.kind];rfl
 have hiσ:i < σ.length:=by rw[I.len];exact(AC.mp hi).1
 have cne:=I.cne
 have tracked:∀{a:AW} {h':C9},(∃o,s.heap.get? a=some o/\H a=none)->FO a s.heap h'->HOk X.prog X.w H h':=λ{a h'} ha hs b ob e=>by
  obtain⟨_,_,xH⟩:=ha
  refine(I.hok b ob e).stay (λc w' hc q=>(hs.2 c ?_).trans q) (λ_ q=>q) λ_ _ q=>q
  rintro rfl
  rcases hc with rfl | hc
  ·rw[xH]at e;cases e
  ·rw[xH]at hc;cases hc
 rcases hx with hk | hk
 ·refine wpAny_storeName_local hk hn (λh' xq hs=>?_) hcls
  obtain⟨oL,_,_,hoL,_⟩:=id hn;refine h _ ⟨I.ok,I.os,I.bare,⟨λb o e n hb hx=>?_,λb o e n hb hx=>?_,I.base.free,λb o e hx=>?_,I.base.tups,I.base.frzs,I.base.tbls⟩,⟨_,xq,λj y v' e1 e2 e3=>?_⟩,λy c e=>?_,I.free,I.freeC,λp hp=>?_,tracked ⟨oL,hoL,I.free⟩ hs,by simpa using I.len⟩ ⟨_,hs,.inl rfl⟩
  ·exact(hs.2 b (BF (AV (Ae e) I.ok.above))).trans (I.base.keep b o e n hb hx)
  ·obtain⟨sl,e1⟩:=I.base.slot b o e n hb hx
   exact⟨sl,(hs.2 b (BF (AV (Ae e) I.ok.above))).trans e1⟩
  ·obtain⟨o',e1⟩:=I.base.there b o e hx
   exact⟨o',(hs.2 b (BF (AV (Ae e) I.ok.above))).trans e1⟩
  ·by_cases hj:j=i
   ·subst hj
    rw[hi]at e1;cases e1;rw[Ap hiσ]at e2;cases e2;exact⟨u,r,.inl ⟨hk,by simp⟩⟩
   ·rw[Ac (Bs hj)]at e2
    obtain⟨u',r',q⟩:=hl j y v' e1 e2 e3;refine⟨u',r',?_⟩
    rcases q with⟨k,e⟩ | ⟨k,c,e,z⟩
    ·refine .inl ⟨k,?_⟩
     have:y≠x:=λe=>hj (Ye hN e1 (e▸hi))
     simp[this,e]
    ·exact .inr ⟨k,c,e,z.sameBut hs (cne y c e)⟩
  ·obtain⟨w',z⟩:=I.cell y c e
   exact⟨w',z.sameBut hs (cne y c e)⟩
  ·obtain⟨e,n,ne,nf,d⟩:=I.pin p hp
   exact⟨(hs.2 p.1 ne).trans e,n,ne,nf,d⟩
 ·have hfn:X.fn x=true:=by
   rcases hf with z | z
   ·exact z
   ·rw[z]at hk;cases hk
  obtain⟨c,hc⟩:=I.ok.has x (.inl hk);obtain⟨w',z⟩:=I.cell x c hc;refine wpAny_storeName_cell I.ok.kind hk hc z (λh' wV hs=>?_);obtain⟨oc,hoc,hocd⟩:=id z;refine h { s with heap:=h' } ⟨I.ok,I.os,I.bare,⟨λb o e n hb hx=>?_,λb o e n hb hx=>?_,I.base.free,λb o e hx=>?_,I.base.tups,I.base.frzs,I.base.tbls⟩,⟨m,hn.sameBut hs (Bs (cne x c hc)),λj y v' e1 e2 e3=>?_⟩,λy c' e=>?_,I.free,I.freeC,λp hp=>?_,tracked ⟨oc,hoc,I.freeC x c hc⟩ hs,by simpa using I.len⟩ ⟨c,hs,.inr hc⟩
  ·exact(hs.2 b (BF (AV (Ae e) (I.ok.cab x c hfn hc)))).trans (I.base.keep b o e n hb hx)
  ·obtain⟨sl,e1⟩:=I.base.slot b o e n hb hx
   exact⟨sl,(hs.2 b (BF (AV (Ae e) (I.ok.cab x c hfn hc)))).trans e1⟩
  ·obtain⟨o',e1⟩:=I.base.there b o e hx
   exact⟨o',(hs.2 b (BF (AV (Ae e) (I.ok.cab x c hfn hc)))).trans e1⟩
  ·by_cases hj:j=i
   ·subst hj
    rw[hi]at e1;cases e1;rw[Ap hiσ]at e2;cases e2;exact⟨u,r,.inr ⟨.inl hk,c,hc,wV⟩⟩
   ·rw[Ac (Bs hj)]at e2
    obtain⟨u',r',q⟩:=hl j y v' e1 e2 e3;refine⟨u',r',?_⟩
    rcases q with q | ⟨k,c',e,z'⟩
    ·exact .inl q
    ·refine .inr ⟨k,c',e,z'.sameBut hs ?_⟩
     rintro rfl;exact hj (Ye hN e1 (I.ok.inj _ _ _ e hc▸hi))
  ·by_cases hcc:c'=c
   ·subst hcc;exact⟨_,wV⟩
   ·obtain⟨w2,z2⟩:=I.cell y c' e
    exact⟨w2,z2.sameBut hs hcc⟩
  ·obtain⟨e,n,ne,nf,d⟩:=I.pin p hp
   refine⟨(hs.2 p.1 ?_).trans e,n,ne,nf,d⟩;intro q;rw[q,hoc]at e;have q':oc=p.2:=Bl e;exact d w' (by rw[<-q'];exact hocd)
theorem TJ(I:Inv X ζ σ H s)(hN:X.N.Nodup)(hi:X.N[i]?=some x)(hx:Loc X.env.scope x)(r:RelV v u)
  (h:∀s',Inv X ζ (σ.set i (some v)) H s'->Q () s') (hf:X.fn x=true∨X.env.scope.names.lookup x=some .local:=by first | exact .inl rfl | exact .inr rfl | assumption):Af M A (tZ X.env x u) Q E s:=
 Va I hN hi hx r (λs' I' _=>h s' I') hf
theorem Inv.call'(I:Inv X ζ σ H s)(ho:s'.os=s.os)(u:Un (frs X.stack) ch H H' s.heap s'.heap)(hok:HOk X.prog X.w H' s'.heap)(hg:LY s'.gens)
  (yb:∀b∈ch,(b∈X.ex∨X.s₀.heap.objs.size<=b)/\b≠X.env.locals/\(∀x c,X.env.cells.lookup x=some c->c≠b)/\∀p∈X.pn++ζ,p.1≠b):Inv X ζ σ H' s':=by
 obtain⟨h',g',d',t',o'⟩:=s';have e:o'=s.os:=ho;subst e;exact I.call (g':=g') (t':=t') (d':=d') u hok hg yb
end
abbrev XK:=AI->Option AW->Hp->Prop
abbrev St:=List (Option V)
abbrev VK:=V->Hp->Prop
abbrev TE:=St->Hp->VK->Prop
abbrev TT:=St->Hp->(Bool->Hp->Prop)->Prop
abbrev TA:=St->Hp->(List V->Hp->Prop)->Prop
structure eS where
 nx:St->Hp->Prop
 rt:VK
 bk:St->Hp->Prop:=λ_ _=>False
 ct:St->Hp->Prop:=λ_ _=>False
abbrev TS:=eS->St->Hp->Prop
def EP(X:Cx)(ζ:List (AW×Obj))(σ:St)(Q:VK)(u:AI)(s':AR):Prop:=∃v H',Inv X ζ σ H' s'/\RelV v u/\Q v H'
def TP(X:Cx)(ζ:List (AW×Obj))(σ:St)(Q:Bool->Hp->Prop)(b:Bool)(s':AR):Prop:=∃H',Inv X ζ σ H' s'/\Q b H'
def AP(X:Cx)(ζ:List (AW×Obj))(σ:St)(Q:List V->Hp->Prop)(us:List AI)(s':AR):Prop:=∃vs H',Inv X ζ σ H' s'/\Bw vs us/\Q vs H'
def SP(X:Cx)(ζ:List (AW×Obj))(D:eS)(f:Flow)(s':AR):Prop:=
 match f with
 | .next=>∃σ' H',Inv X ζ σ' H' s'/\D.nx σ' H'
 | .brk=>∃σ' H',Inv X ζ σ' H' s'/\D.bk σ' H'
 | .cont=>∃σ' H',Inv X ζ σ' H' s'/\D.ct σ' H'
 | .ret u=>∃v σ' H',Inv X ζ σ' H' s'/\RelV v u/\D.rt v H'
def PE(X:Cx)(e:Expr)(t:TE):Prop:=
 ∀(ζ:List (AW×Obj)) (s:AR) (σ:St) (H:Hp) (Q:VK),Inv X ζ σ H s->t σ H Q->Af (Ao X.prog X.w) X.A (Cc e X.env) (EP X ζ σ Q) X.xe s
def PT(X:Cx)(e:Expr)(t:TT):Prop:=
 ∀(ζ:List (AW×Obj)) (s:AR) (σ:St) (H:Hp) (Q:Bool->Hp->Prop),Inv X ζ σ H s->t σ H Q->Af (Ao X.prog X.w) X.A (ZK e X.env (Cc e X.env)) (TP X ζ σ Q) X.xe s
def PW(X:Cx)(e:Expr)(t:TT):Prop:=
 ∀(whole:Sem AI) (ζ:List (AW×Obj)) (s:AR) (σ:St) (H:Hp) (Q:Bool->Hp->Prop),Inv X ζ σ H s->t σ H Q->Af (Ao X.prog X.w) X.A (ZK e X.env whole) (TP X ζ σ Q) X.xe s
theorem PW.pt(h:PW X e t):PT X e t:=h _
def PA(X:Cx)(es:List Expr)(t:TA):Prop:=
 ∀(pos:Pos) (ζ:List (AW×Obj)) (s:AR) (σ:St) (H:Hp) (Q:List V->Hp->Prop),Inv X ζ σ H s->t σ H Q->Af (Ao X.prog X.w) X.A (spliced (D6 pos (AY es X.env))) (AP X ζ σ Q) X.xe s
def PS(X:Cx)(st:DK)(t:TS):Prop:=
 ∀(ζ:List (AW×Obj)) (s:AR) (σ:St) (H:Hp) (D:eS),Inv X ζ σ H s->t D σ H->Af (Ao X.prog X.w) X.A (exec st X.env) (SP X ζ D) X.xe s
def PSs(X:Cx)(st:List DK)(t:TS):Prop:=
 ∀(ζ:List (AW×Obj)) (s:AR) (σ:St) (H:Hp) (D:eS),Inv X ζ σ H s->t D σ H->Af (Ao X.prog X.w) X.A (execs st X.env) (SP X ζ D) X.xe s
theorem thn{α:Type}{t:Sem α}{Q Q':α->AR->Prop}{M:Model}{A:CM}{E:AI->AR->Prop}{s:AR}(h:Af M A t Q E s)(hQ:∀a s,Q a s->Q' a s):Af M A t Q' E s:=Em h hQ λ_ _ x=>x
section
variable{X:Cx}
def p7(i:Nat):TE:=λσ H Q=>∃v,σ[i]?=some (some v)/\Q v H
def tC(v:V):TE:=λ_ H Q=>Q v H
theorem qg(hN:X.N[i]?=some x)(hv:Vis X.env.scope x)(hd:(x==("__debug__" : Str))=false:=by decide) (xT:(x==("__classdict__" : Str))=false:=by decide):PE X (.Name x pos) (p7 i):=by
 intro ζ s σ H Q I h;obtain⟨v,e,h⟩:=h;obtain⟨m,hn,hl⟩:=I.loc;obtain⟨u,r,l⟩:=hl i x v hN e hv;have fin:EP X ζ σ Q u s:=⟨v,H,I,r,h⟩
 rcases l with⟨hk,hm⟩ | ⟨hk,c,hc,wz⟩
 ·exact oz (ju I.ok.kind hk hn hm fin) hd
 ·rcases hk with hk | hk
  ·exact oz (oC I.ok.kind hk hc wz fin) hd
  ·exact oz (wpAny_loadName_free I.ok.kind hk hc wz fin xT) hd
theorem gx{i j pos}:PE X (.Constant (.int i) j pos) (tC (.int i)):=λ_ _ _ H _ I h=>wpAny_Constant_int ⟨.int i,H,I.tok _,⟨_,rfl⟩,h⟩
theorem uo{b j pos}:PE X (.Constant (.bool b) j pos) (tC (.bl b)):=λ_ _ _ H _ I h=>Constant_bool ⟨.bl b,H,I,rfl,h⟩
theorem ql{j pos}:PE X (.Constant .none j pos) (tC .non):=λ_ _ _ H _ I h=>Constant_none ⟨.non,H,I,rfl,h⟩
theorem qi{x j pos}:PE X (.Constant (.str x) j pos) (tC (.str x)):=λ_ _ _ H _ I h=>Calls.Constant_str ⟨.str x,H,I.tok _,⟨_,rfl⟩,h⟩
def Gl(X:Cx)(x:Str):Prop:=X.env.kindOf x=some .globalImplicit
theorem W5(I:Inv X ζ σ H s)(hg:Gl X x)(hm:X.mg x=some u)(h:Q u s)
  (hd:(x==("__debug__" : Str))=false:=by decide):Af (Ao X.prog X.w) X.A (Cc (.Name x pos) X.env) Q E s:=
 Uq I.ok.kind hg (Calls.loadGlobal_global (by rw[I.ok.glob];exact I.mod.glob.keeps I.bk) hm h) hd
theorem Nl(I:Inv X ζ σ H s)(hg:Gl X x)(hm:X.mg x=none)(hv:Fo x=some u)(h:Q u s)
  (hn:x≠"__name__":=by decide) (hd:(x==("__debug__" : Str))=false:=by decide):Af (Ao X.prog X.w) X.A (Cc (.Name x pos) X.env) Q E s:=by
 obtain⟨mb,h1,h2⟩:=I.mod.blt;exact Uq I.ok.kind hg (Calls.loadGlobal_builtin (by rw[I.ok.glob];exact I.mod.glob.keeps I.bk) hm (by rw[I.ok.blt];exact h1.keeps I.bk) ((h2 x hn).trans hv) h) hd
theorem mG(hg:Gl X x)(hm:X.mg x=some u)(r:RelV v u)(hd:(x==("__debug__" : Str))=false:=by decide):PE X (.Name x pos) (tC v):=
 λ_ _ _ H _ I h=>W5 I hg hm ⟨v,H,I,r,h⟩ hd
theorem bV(hg:Gl X x)(hm:X.mg x=none)(hv:Fo x=some u)(r:RelV v u)(hn:x≠"__name__":=by decide) (hd:(x==("__debug__" : Str))=false:=by decide):PE X (.Name x pos) (tC v):=
 λ_ _ _ H _ I h=>Nl I hg hm hv ⟨v,H,I,r,h⟩ hn hd
variable{a b:Expr}{ta tb:TE}{pos:Pos}
def PC(X:Cx)(op:CmpOp)(a b:Expr)(t:TE):Prop:=
 ∀(ζ:List (AW×Obj)) (s:AR) (σ:St) (H:Hp) (Q:VK),Inv X ζ σ H s->t σ H Q ->
  Af (Ao X.prog X.w) X.A (Cc a X.env) (λv s₁=>Af (Ao X.prog X.w) X.A (Cc b X.env) (λu s₂=>Af (Ao X.prog X.w) X.A (B2 op v u) (EP X ζ σ Q) X.xe s₂) X.xe s₁) X.xe s
def tB(t:TE):TT:=λσ H Q=>t σ H λx H1=>∃c,x=.bl c/\Q c H1
theorem qp(h:PC X op a b t)(h1:Cp op b=false:=by first | exact nobehind _ (by decide) (by decide) | rfl):PE X (.Compare a [op] [b] pos) t:=λζ s σ H Q I hw=>wpAny_Compare1 (h ζ s σ H Q I hw) h1
theorem gl(h:PC X op a b t)(h1:Cp op b=false:=by first | exact nobehind _ (by decide) (by decide) | rfl):PT X (.Compare a [op] [b] pos) (tB t):=by
 intro ζ s σ H Q I hw;refine jn (thn (h ζ s σ H _ I hw) λv s1 h1=>thn h1 λu s2 h2=>thn h2 λc s3 ⟨x,H1,I1,r1,q1⟩=>?_) h1;obtain⟨d,rfl,q⟩:=q1;cases r1;exact DC ⟨H1,I1,q⟩
theorem qS(h:PE X e t)(he:∀whole,ZK e X.env whole=(do let v <-whole;ZC e.pos;Oq [v] (pA v)):=by intro _;rfl):PT X e (tB t):=by
 intro ζ s σ H Q I hw;refine isTrue_plain (thn (h ζ s σ H _ I hw) λv s1 ⟨x,H1,I1,r1,q1⟩=>?_) (he _);obtain⟨d,rfl,q⟩:=q1;cases r1;exact DC ⟨H1,I1,q⟩
variable{tA tB':TT}{rest:List Expr}
def uS(t u:TT):TT:=λσ H Q=>t σ H λc H1=>if c=true then u σ H1 Q else Q false H1
def tOr(t u:TT):TT:=λσ H Q=>t σ H λc H1=>if c=true then Q true H1 else u σ H1 Q
def tNot(t:TT):TT:=λσ H Q=>t σ H λc H1=>Q (!c) H1
theorem lX(ha:PT X a tA):PW X (.BoolOp .And [a] pos) tA:=by
 intro wh ζ s σ H Q I h;refine isTrue_and (thn (ha ζ s σ H Q I h) λc s1 e=>?_)
 cases c with
 | true=>exact isTrue_and_nil e
 | false=>exact e
theorem qQ(ha:PT X a tA):PW X (.BoolOp .Or [a] pos) tA:=by
 intro wh ζ s σ H Q I h;refine isTrue_or (thn (ha ζ s σ H Q I h) λc s1 e=>?_)
 cases c with
 | false=>exact isTrue_or_nil e
 | true=>exact e
theorem qR(ha:PT X a tA)(hb:PW X (.BoolOp .And (b :: rest) pos) tB'):PW X (.BoolOp .And (a :: b :: rest) pos) (uS tA tB'):=by
 intro wh ζ s σ H Q I h;refine isTrue_and (thn (ha ζ s σ H _ I h) λc s1 ⟨H1,I1,q1⟩=>?_)
 cases c with
 | true=>exact hb wh ζ s1 σ H1 Q I1 q1
 | false=>exact⟨H1,I1,q1⟩
theorem ug(ha:PT X a tA)(hb:PW X (.BoolOp .Or (b :: rest) pos) tB'):PW X (.BoolOp .Or (a :: b :: rest) pos) (tOr tA tB'):=by
 intro wh ζ s σ H Q I h;refine isTrue_or (thn (ha ζ s σ H _ I h) λc s1 ⟨H1,I1,q1⟩=>?_)
 cases c with
 | true=>exact⟨H1,I1,q1⟩
 | false=>exact hb wh ζ s1 σ H1 Q I1 q1
theorem qT(ha:PT X a tA):PT X (.UnaryOp .Not a pos) (tNot tA):=by
 intro ζ s σ H Q I h;exact isTrue_not (ha ζ s σ H (λc H1=>Q (!c) H1) I h)
def tOrV(ta tb:TE):TE:=λσ H Q=>ta σ H λx H1=>∃c,x=.bl c/\if c=true then Q (.bl true) H1 else tb σ H1 Q
def uI(ta:TE):TE:=λσ H Q=>ta σ H λx H1=>∃c,x=.bl c/\Q (.bl (!c)) H1
theorem qj{op}{t}(h:PE X a t):PE X (.BoolOp op [a] pos) t:=λζ s σ H Q I hw=>BoolOp_one (h ζ s σ H Q I hw)
theorem uj(ha:PE X a ta)(hb:PE X (.BoolOp .Or (b :: rest) pos) tb):PE X (.BoolOp .Or (a :: b :: rest) pos) (tOrV ta tb):=by
 intro ζ s σ H Q I h;refine BoolOp_or (thn (ha ζ s σ H _ I h) λv s1 ⟨x,H1,I1,r1,q1⟩=>?_);obtain⟨c,rfl,q1⟩:=q1;cases r1;refine DC ?_
 cases c with
 | false=>exact hb ζ s1 σ H1 Q I1 q1
 | true=>exact⟨.bl true,H1,I1,rfl,q1⟩
theorem qk(ha:PE X a ta):PE X (.UnaryOp .Not a pos) (uI ta):=by
 intro ζ s σ H Q I h;refine UnaryOp_ (thn (ha ζ s σ H _ I h) λv s1 ⟨x,H1,I1,r1,q1⟩=>?_);obtain⟨c,rfl,q1⟩:=q1;cases r1;exact not_of (DC ⟨.bl (!c),H1,I1,rfl,q1⟩)
def tIf(t:TT)(ta tb:TE):TE:=λσ H Q=>t σ H λc H1=>if c=true then ta σ H1 Q else tb σ H1 Q
theorem gy(hc:PT X c tA)(ha:PE X a ta)(hb:PE X b tb):PE X (.IfExp c a b pos) (tIf tA ta tb):=by
 intro ζ s σ H Q I h;refine wpAny_IfExp (thn (hc ζ s σ H _ I h) λd s1 ⟨H1,I1,q1⟩=>?_)
 cases d with
 | true=>exact ha ζ s1 σ H1 Q I1 q1
 | false=>exact hb ζ s1 σ H1 Q I1 q1
end
def SqL(K:AG)(H:Hp)(a:AW)(xs:List V):Prop:=
 Rd H a (.lst xs) ∨
  ∃(o:Obj) (tx:Array AI) (n:Nat),K.lookup a=some o/\o.cls=.type "list"/\o.dict=none/\o.data=.seq tx n/\tx.size<=sizeLine/\Bw xs tx.toList
def SqT(K:AG)(H:Hp)(a:AW)(xs:List V):Prop:=
 Rd H a (.tup xs) ∨
  ∃(o:Obj) (tx:Array AI) (n:Nat),K.lookup a=some o/\o.cls=.type "tuple"/\o.data=.seq tx n/\tx.size<=sizeLine/\Bw xs tx.toList
def absV:AI->Option V
 | .none=>some .non
 | .bool b=>some (.bl b)
 | .int i _=>some (.int i)
 | .str x _=>some (.str x)
 | .bytes b _=>some (.byt b)
 | .float b _=>some (.flt b)
 | .ref a=>some (.ref a)
 | .type n=>some (.ty n)
 | _=>none
theorem RelV.abs(r:RelV x u):absV u=some x:=by
 cases x with
 | non=>cases r;rfl
 | bl _=>cases r;rfl
 | int _=>obtain⟨t,rfl⟩:=r;rfl
 | str _=>obtain⟨t,rfl⟩:=r;rfl
 | byt _=>obtain⟨t,rfl⟩:=r;rfl
 | flt _=>obtain⟨t,rfl⟩:=r;rfl
 | ref _=>cases r;rfl
 | ty _=>cases r;rfl
theorem RelV.inj(r:RelV x u)(q:RelV y u):x=y:=Bl (r.abs.symm.trans q.abs)
theorem Bw.inj:∀{xs ys:List V} {us:List AI},Bw xs us->Bw ys us->xs=ys
 | _,_,_,.nil,.nil=>rfl
 | _,_,_,.cons r t,.cons r' t'=>by rw[r.inj r',Bw.inj t t']
section
variable{X:Cx}{ζ:List (AW×Obj)}{σ:St}{H:Hp}{s:AR}{a:AW}{xs ys:List V}
theorem Inv.list(I:Inv X ζ σ H s)(h:SqL X.K H a xs):∃tx:List AI,Bw xs tx/\PlainL s.heap a tx.toArray/\xs.length<=sizeLine:=by
 rcases h with h | ⟨o,tx,n,hk,hc,hd,hs,hz,r⟩
 ·obtain⟨z,tx,n,r,e⟩:=h.ok I.hok
  exact⟨tx,r,⟨_,n,e,rfl,rfl,rfl⟩,z⟩
 ·refine⟨tx.toList,r,⟨o,n,I.kIn a o hk,hc,hd,by simpa using hs⟩,?_⟩
  have e:=r.length;simp only[CF]at e
  lia
theorem Inv.tuple(I:Inv X ζ σ H s)(h:SqT X.K H a xs):∃tx:List AI,Bw xs tx/\ZU s.heap a tx.toArray/\xs.length<=sizeLine:=by
 rcases h with h | ⟨o,tx,n,hk,hc,hs,hz,r⟩
 ·obtain⟨z,tx,r,p⟩:=h.ok I.hok
  exact⟨tx,r,p,z.1⟩
 ·refine⟨tx.toList,r,⟨o,I.kIn a o hk,hc,n,by simpa using hs⟩,?_⟩
  have e:=r.length;simp only[CF]at e
  lia
theorem Inv.list_inj(I:Inv X ζ σ H s)(h:SqL X.K H a xs)(h':SqL X.K H a ys):xs=ys:=by
 obtain⟨tx,r,⟨o,n,e,_,_,d⟩,_⟩:=I.list h;obtain⟨its',r',⟨o',n',e',_,_,d'⟩,_⟩:=I.list h';rw[e]at e';cases e';rw[d]at d'
 injection d' with d1 _
 have:tx=its':=by simpa using congrArg pK d1
 subst this;exact r.inj r'
theorem Inv.tuple_inj(I:Inv X ζ σ H s)(h:SqT X.K H a xs)(h':SqT X.K H a ys):xs=ys:=by
 obtain⟨tx,r,⟨o,e,_,n,d⟩,_⟩:=I.tuple h;obtain⟨its',r',⟨o',e',_,n',d'⟩,_⟩:=I.tuple h';rw[e]at e';cases e';rw[d]at d'
 injection d' with d1 _
 have:tx=its':=by simpa using congrArg pK d1
 subst this;exact r.inj r'
end
section
variable{X:Cx}{st:DK}{rest:List DK}{t u:TS}{e:Expr}{te:TE}{pos:Pos}
def uJ:TS:=λD σ H=>D.nx σ H
def tSeq(t u:TS):TS:=λD σ H=>t { D with nx:=u D } σ H
theorem lg:PSs X [] uJ:=λ_ _ σ H _ I h=>PR ⟨σ,H,I,h⟩
theorem gn(h1:PS X st t)(h2:PSs X rest u):PSs X (st :: rest) (tSeq t u):=by
 intro ζ s σ H D I h;refine tW (thn (h1 ζ s σ H { D with nx:=u D } I h) λf s1 q=>?_)
 cases f with
 | next=>
  obtain⟨σ',H',I',q⟩:=q;exact h2 ζ s1 σ' H' D I' q
 | ret v=>exact q
 | brk=>exact q
 | cont=>exact q
theorem lc(h1:PS X st t):PSs X [st] t:=by
 intro ζ s σ H D I h;refine tW (thn (h1 ζ s σ H D I h) λf s1 q=>?_)
 cases f with
 | next=>exact PR q
 | ret v=>exact q
 | brk=>exact q
 | cont=>exact q
theorem Inv.quiet(I:Inv X ζ σ H s):interactive X.env=false:=by simp[interactive,I.ok.kind]
def uL(te:TE):TS:=λD σ H=>te σ H λ_ H1=>D.nx σ H1
theorem lh(he:PE X e te)(hs:HJ e none pos.line X.env=pure false:=by rfl):PS X (.Expr e pos) (uL te):=by
 intro ζ s σ H D I h;exact wpAny_Expr_any (thn (he ζ s σ H _ I h) λv s1 ⟨x,H1,I1,r1,q1⟩=>⟨σ,H1,I1,q1⟩) I.quiet hs
def tRet(te:TE):TS:=λD σ H=>te σ H D.rt
theorem qV(he:PE X e te):PS X (.Return (some e) pos) (tRet te):=by
 intro ζ s σ H D I h;exact wpAny_Return_some (thn (he ζ s σ H _ I h) λv s1 ⟨x,H1,I1,r1,q1⟩=>⟨x,σ,H1,I1,r1,q1⟩)
def tIfS(c:TT)(t u:TS):TS:=λD σ H=>c σ H λb H1=>if b=true then t D σ H1 else u D σ H1
theorem uh(hc:PT X c tc)(ha:PSs X a t)(hb:PSs X b u):PS X (.If c a b pos) (tIfS tc t u):=by
 intro ζ s σ H D I h;refine wpAny_If (thn (hc ζ s σ H _ I h) λd s1 ⟨H1,I1,q1⟩=>?_)
 cases d with
 | true=>exact ha ζ s1 σ H1 D I1 q1
 | false=>exact hb ζ s1 σ H1 D I1 q1
def p9:TS:=λ_ _ _=>False
theorem gq:PS X st p9:=λ_ _ _ _ _ _ h=>h.elim
end
abbrev TG:=V->St->Hp->(St->Hp->Prop)->Prop
abbrev TGs:=List V->St->Hp->(St->Hp->Prop)->Prop
def PG(X:Cx)(ϖ:Expr)(t:TG):Prop:=
 ∀(ζ:List (AW×Obj)) (s:AR) (σ:St) (H:Hp) (v:V) (u:AI) (Q:St->Hp->Prop),Inv X ζ σ H s->RelV v u->t v σ H Q ->
  Af (Ao X.prog X.w) X.A (ZP ϖ X.env u) (λ_ s'=>∃σ' H',Inv X ζ σ' H' s'/\Q σ' H') X.xe s
def PGs(X:Cx)(ts:List Expr)(t:TGs):Prop:=
 ∀(ζ:List (AW×Obj)) (s:AR) (σ:St) (H:Hp) (vs:List V) (us:List AI) (Q:St->Hp->Prop),Inv X ζ σ H s->Bw vs us->t vs σ H Q ->
  Af (Ao X.prog X.w) X.A (assignInOrder ((IJ ts X.env).map (·.2)) us) (λ_ s'=>∃σ' H',Inv X ζ σ' H' s'/\Q σ' H') X.xe s
abbrev vd:=V->V->V->Hp->(Hp->Prop)->Prop
def vm(X:Cx)(t:vd):Prop:=
 ∀(ζ:List (AW×Obj)) (s:AR) (σ:St) (H:Hp) (o i v:V) (ov iv u:AI) (Q:Hp->Prop),Inv X ζ σ H s->RelV o ov->RelV i iv->RelV v u->t o i v H Q ->
  Af (Ao X.prog X.w) X.A (tD ov iv u) (λ_ s'=>∃H',Inv X ζ σ H' s'/\Q H') X.xe s
abbrev TIp:=V->V->Hp->VK->Prop
def PIp(X:Cx)(op:Operator)(t:TIp):Prop:=
 ∀(ζ:List (AW×Obj)) (s:AR) (σ:St) (H:Hp) (x y:V) (v u:AI) (Q:VK),Inv X ζ σ H s->RelV x v->RelV y u->t x y H Q ->
  Af (Ao X.prog X.w) X.A (inplaceOp op v u) (EP X ζ σ Q) X.xe s
section
variable{X:Cx}{pos:Pos}
def b5(i:Nat):TG:=λv σ H Q=>Q (σ.set i (some v)) H
theorem mD(hN:X.N.Nodup)(hi:X.N[i]?=some x)(hx:Loc X.env.scope x)(hf:X.fn x=true∨X.env.scope.names.lookup x=some .local:=by first | exact .inl rfl | exact .inr rfl | assumption):PG X (.Name x pos) (b5 i):=by
 intro ζ s σ H v u Q I r h;exact sw (TJ I hN hi hx r (λs' I'=>⟨_,H,I',h⟩) hf)
def gNil:TGs:=λvs σ H Q=>vs=[]/\Q σ H
def vU(t:TG)(u:TGs):TGs:=λvs σ H Q=>∃v r,vs=v :: r/\t v σ H λσ' H'=>u r σ' H' Q
theorem lz:PGs X [] gNil:=by
 intro ζ s σ H vs us Q I r h;obtain⟨e,h⟩:=h;subst e;cases r;exact assignInOrder_nil ⟨σ,H,I,h⟩
theorem gw(h1:PG X e t)(h2:PGs X es u)
  (hs:(IJ (e :: es) X.env).map (·.2)=ZP e X.env :: (IJ es X.env).map (·.2):=by rfl):PGs X (e :: es) (vU t u):=by
 intro ζ s σ H vs us Q I r h;obtain⟨v,vr,e1,h⟩:=h;subst e1
 cases r with
 | cons r rr=>
  rw[hs];refine assignInOrder_cons (thn (h1 ζ s σ H _ _ _ I r h) λ_ s1 ⟨σ1,H1,I1,q1⟩=>?_);exact h2 ζ s1 σ1 H1 _ _ Q I1 rr q1
def gTup(K:AG)(n:Nat)(t:TGs):TG:=λv σ H Q=>∃a xs,v=.ref a/\SqT K H a xs/\xs.length=n/\t xs σ H Q
theorem qf(hc:X.calm=true)(h:PGs X es t)
  (hn:(IJ es X.env).length=n:=by rfl) (yH:(IJ es X.env).findIdx? (·.1)=none:=by rfl):PG X (.Tuple es k pos) (gTup X.K n t):=by
 intro ζ s σ H v u Q I r hw;obtain⟨a,xs,e1,hq,hl,hw⟩:=hw;subst e1;cases r;obtain⟨tx,rv,ht,hz⟩:=I.tuple hq
 refine assign_Tuple_tuple (I.ok.hd hc) ht (by simp[hn,<-hl,rv.length]) yH λh' hx=>?_
 have I1:Inv X ζ σ H { s with heap:=h' }:=I.kept (t':=s.toks) λb o e=>hx b o (BF (Ae e)) e
 exact h ζ _ σ H xs _ Q I1 (by simpa using rv) hw
def uR(te:TE)(g:TG):TS:=λD σ H=>te σ H λx H1=>g x σ H1 D.nx
theorem qU(hN:X.N.Nodup)(hi:X.N[i]?=some x)(hx:Loc X.env.scope x)(he:PE X e te)(hs:HJ e (some (.Name x pos')) pos.line X.env=pure false:=by rfl)(hf:X.fn x=true∨X.env.scope.names.lookup x=some .local:=by first | exact .inl rfl | exact .inr rfl | assumption) :
  PS X (.Assign [.Name x pos'] e pos) (uR te (b5 i)):=by
 intro ζ s σ H D I h;refine wpAny_Assign_Name (thn (he ζ s σ H _ I h) λv s1 ⟨y,H1,I1,r1,q1⟩=>?_) hs;exact TJ I1 hN hi hx r1 (λs2 I2=>⟨_,H1,I2,q1⟩) hf
def tAug(i:Nat)(te:TE)(ti:TIp):TS:=λD σ H=>∃x,σ[i]?=some (some x)/\te σ H λy H1=>ti x y H1 λz H2=>D.nx (σ.set i (some z)) H2
theorem qc(hN:X.N.Nodup)(hi:X.N[i]?=some x)(hx:Loc X.env.scope x)(he:PE X e te)(ho:PIp X op ti)(hf:X.fn x=true∨X.env.scope.names.lookup x=some .local:=by first | exact .inl rfl | exact .inr rfl | assumption) :
  PS X (.AugAssign (.Name x pos') op e pos) (tAug i te ti):=by
 intro ζ s σ H D I h;obtain⟨v,e1,h⟩:=h;obtain⟨m,hn,hl⟩:=I.loc
 have vis:Vis X.env.scope x:=by rcases hx with k | k;exact .inl k;exact .inr (.inl k)
 obtain⟨u,r,l⟩:=hl i x v hi e1 vis;refine wpAny_AugAssign_Name ?_
 have go:Af (Ao X.prog X.w) X.A (Cc e X.env) (λw s₂=>Af (Ao X.prog X.w) X.A (inplaceOp op u w) (λr s₃=>Af (Ao X.prog X.w) X.A (tZ X.env x r) (λ_=>SP X ζ D .next) X.xe s₃) X.xe s₂) X.xe s:=by
  refine thn (he ζ s σ H _ I h) λw s1 ⟨y,H1,I1,r1,q1⟩=>?_
  refine thn (ho ζ s1 σ H1 v y u w _ I1 r r1 q1) λz s2 ⟨zv,H2,I2,r2,q2⟩=>?_
  exact TJ I2 hN hi hx r2 (λs3 I3=>⟨_,H2,I3,q2⟩) hf
 rcases l with⟨hk,hm⟩ | ⟨hk,c,hc,wz⟩
 ·exact ju I.ok.kind hk hn hm go
 ·rcases hk with hk | hk
  ·exact oC I.ok.kind hk hc wz go
  ·rcases hx with k | k
   ·have:X.env.scope.names.lookup x=some .free:=hk
    rw[k]at this;cases this
   ·have:X.env.scope.names.lookup x=some .free:=hk
    rw[k]at this;cases this
def uQ(to ti te:TE)(zq:V->V->Hp->VK->Prop)(tip:TIp)(zt:vd):TS:=λD σ H=>to σ H λo H1=>ti σ H1 λi H2=>zq o i H2 λx H3=>te σ H3 λy H4=>tip x y H4 λz H5=>zt o i z H5 λH6=>D.nx σ H6
def vn(X:Cx)(t:V->V->Hp->VK->Prop):Prop:=
 ∀(ζ:List (AW×Obj)) (s:AR) (σ:St) (H:Hp) (o i:V) (ov iv:AI) (Q:VK),Inv X ζ σ H s->RelV o ov->RelV i iv->t o i H Q ->
  Af (Ao X.prog X.w) X.A (LS ov iv) (EP X ζ σ Q) X.xe s
theorem lq(ho:PE X o to)(hi:PE X i ti)(hg:vn X zq)(he:PE X e te)(hp:PIp X op tip)(hs:vm X zt)
  (ha:∀ov iv new,augStore i ov iv new=(do Oq [new,ov,iv] (tD ov iv new);release [new,ov,iv] [];pure .next):=by intros;rfl):PS X (.AugAssign (.Subscript o i tpos) op e pos) (uQ to ti te zq tip zt):=by
 intro ζ s σ H D I h;refine wpAny_AugAssign_SubscriptAny (thn (ho ζ s σ H _ I h) λov s1 ⟨x1,H1,I1,r1,q1⟩=>?_) ha
 refine thn (hi ζ s1 σ H1 _ I1 q1) λiv s2 ⟨x2,H2,I2,r2,q2⟩=>?_
 refine thn (hg ζ s2 σ H2 x1 x2 ov iv _ I2 r1 r2 q2) λold s3 ⟨x3,H3,I3,r3,q3⟩=>?_
 refine thn (he ζ s3 σ H3 _ I3 q3) λv s4 ⟨x4,H4,I4,r4,q4⟩=>?_
 refine thn (hp ζ s4 σ H4 x3 x4 old v _ I4 r3 r4 q4) λnew s5 ⟨x5,H5,I5,r5,q5⟩=>?_
 exact thn (hs ζ s5 σ H5 x1 x2 x5 ov iv new _ I5 r1 r2 r5 q5) λ_ s6 ⟨H6,I6,q6⟩=>⟨σ,H6,I6,q6⟩
def ipI(f:Int->Int->Int):TIp:=λx y H Q=>∃i j,x=.int i/\y=.int j/\Q (.int (f i j)) H
theorem rk:PIp X .Add (ipI λi j=>i+j):=by
 intro ζ s σ H x y v u Q I r1 r2 h;obtain⟨i,j,e1,e2,q⟩:=h;subst e1;subst e2;obtain⟨t,rfl⟩:=r1;obtain⟨t',rfl⟩:=r2;exact iadd_int ⟨.int _,H,I.tok _,⟨_,rfl⟩,q⟩
def p0(c:TT)(tb:TS):TS:=λD σ H=>∃W:Nat->St->Hp->Prop,(∃m,W m σ H)/\∀m σ H,W m σ H ->
 c σ H λb H1=>if b=true then ∃N:St->Hp->Prop,(∀σ' H',N σ' H'->∃m',m' < m/\W m' σ' H')/\tb { D with nx:=N,ct:=N,bk:=D.nx } σ H1 else D.nx σ H1
theorem gp(hp:WD (Ao X.prog X.w) X.A X.env X.xe)(hc:PT X c tc)(hb:PSs X body tb):PS X (.While c body [] pos) (p0 tc tb):=by
 intro ζ s σ H D I h;obtain⟨W,⟨m0,w0⟩,turn⟩:=h;refine wpAny_While (codeAny_whileLoop (λn s'=>∃σ' H',Inv X ζ σ' H' s'/\W n σ' H') ?_ m0 ⟨σ,H,I,w0⟩);rintro n s1 ⟨σ1,H1,I1,w1⟩;refine GX hp (thn (hc ζ s1 σ1 H1 _ I1 (turn n σ1 H1 w1)) λb s2 ⟨H2,I2,q2⟩=>?_)
 cases b with
 | true=>
  obtain⟨N,hN,q2⟩:=q2;rw[qX rfl];refine GX hp (thn (hb ζ s2 σ1 H2 _ I2 q2) λf s3 q3=>?_)
  cases f with
  | next=>
   obtain⟨σ3,H3,I3,n3⟩:=q3;obtain⟨m',hm,w3⟩:=hN σ3 H3 n3;exact⟨m',hm,σ3,H3,I3,w3⟩
  | cont=>
   obtain⟨σ3,H3,I3,n3⟩:=q3;obtain⟨m',hm,w3⟩:=hN σ3 H3 n3;exact⟨m',hm,σ3,H3,I3,w3⟩
  | brk=>exact q3
  | ret v=>exact q3
 | false=>
  rw[qY AK];exact PR ⟨σ1,H2,I2,q2⟩
end
structure It where
 go:Nat->Hp->Prop
 yld:Nat->Hp->V->Hp->Prop
 stop:Nat->Hp->Prop
def PP(X:Cx)(ζ:List (AW×Obj))(H:Hp)(b:AW):Prop:=
 H b=none/\b≠X.env.locals/\b∉X.fs/\(b∈X.ex∨X.s₀.heap.objs.size<=b)/\(∀x c,X.env.cells.lookup x=some c->c≠b)/\∀p∈X.pn++ζ,p.1≠b
theorem Inv.fpOk(I:Inv X ζ σ H s)(hb:s.heap.objs.size<=b)(hn:H' b=none):PP X ζ H' b:=by
 refine⟨hn,Et (AV I.lt hb),I.nofs hb,.inr (Am I.sz hb),λx c e z=>?_,λp hp z=>?_⟩
 ·obtain⟨v,q⟩:=I.cell x c e
  exact zX (AV q.lt (by rw[z];exact hb)) (Cj _)
 ·exact zX (AV (Ae (I.pin p hp).1) (by rw[z];exact hb)) (Cj _)
structure Ud(P:Bh)(w:CH)(K:AG)(tg:Expr)(J:It)(fp:List AW)(it:AW)(tn:Nat->C9->Prop):Prop where
 mem:it∈fp
 obj:∀i h,tn i h->∀b∈fp,∃o,h.get? b=some o/\∀v,o.data≠.cell v
 keep:∀i h h',tn i h->(∀b∈fp,∀o,h.get? b=some o->h'.get? b=some o)->tn i h'
 item:∀(X:Cx),X.prog=P->X.w=w->X.K=K->X.calm=true->∀(i:Nat) (ζ:List (AW×Obj)) (s:AR) (σ:St) (H:Hp) (E:AI->AR->Prop),Inv X ζ σ H s->(∀b∈fp,PP X ζ H b)->tn i s.heap->J.go i H ->
  Af (Ao P w) X.A (Lv (.ref it)) (λr s1=>∃u,r=some u /\
   Af (Ao P w) X.A (PU tg (.ref it) u) (λ_ s2=>∃x H',Inv X ζ σ H' s2/\RelV x u/\J.yld i H x H'/\tn (i+1) s2.heap/\∀b∈fp,H' b=none) E s1) E s
 done:∀(X:Cx),X.prog=P->X.w=w->X.K=K->X.calm=true->∀(i:Nat) (ζ:List (AW×Obj)) (s:AR) (σ:St) (H:Hp) (E:AI->AR->Prop),Inv X ζ σ H s->(∀b∈fp,PP X ζ H b)->tn i s.heap->J.stop i H ->
  Af (Ao P w) X.A (Lv (.ref it)) (λr s1=>r=none/\Inv X ζ σ H s1) E s
 self:∀(A:CM) (i:Nat) (s:AR) (Q:AI->AR->Prop) (E:AI->AR->Prop),tn i s.heap->Q (.ref it) s->Af (Ao P w) A (e8 (.ref it)) Q E s
abbrev TI:=St->Hp->(It->Hp->Prop)->Prop
def PIE(X:Cx)(ζ:List (AW×Obj))(σ:St)(tg:Expr)(R:It->Hp->Prop)(itv:AI)(s2:AR):Prop:=
 ∃(it:AW) (fp:List AW) (tn:Nat->C9->Prop) (J:It) (H':Hp),itv=.ref it/\Inv X ζ σ H' s2/\Ud X.prog X.w X.K tg J fp it tn/\tn 0 s2.heap/\(∀b∈fp,PP X ζ H' b)/\R J H'
def PI(X:Cx)(tg iter:Expr)(wi:TI):Prop:=
 ∀(ζ:List (AW×Obj)) (s:AR) (σ:St) (H:Hp) (R:It->Hp->Prop),Inv X ζ σ H s->wi σ H R ->
  Af (Ao X.prog X.w) X.A (Cc iter X.env) (λv s1=>Af (Ao X.prog X.w) X.A (e8 v) (PIE X ζ σ tg R) X.xe s1) X.xe s
theorem Ys(ho:s.heap.get? it=some o)(hc:o.cls=.type n)(hd:o.data=.fields vs)
  (hn:["enumerate", "zip", "dict_itemiterator", "dict_reverseitemiterator", "odict_iterator", "itertools.zip_longest", "itertools.pairwise"].contains n=false) (hQ:Q () s):Af M A (PU tg (.ref it) u) Q E s:=by
 unfold PU
 cases tg <;> first
  | exact AM hQ
  | (cases u <;> first
    | exact AM hQ
    | (refine AB (wpAny_load ho ?_)
       rw[hc,hd];show Af M A (if (["enumerate", "zip", "dict_itemiterator", "dict_reverseitemiterator", "odict_iterator", "itertools.zip_longest", "itertools.pairwise"].contains n&&vs[0]?==some (Lu _))=true then _ else _) Q E s;rw[qY (by intro h;rw[hn,Bool.false_and]at h;cases h)]
       exact AM hQ))
def Itl(K:AG)(a:AW):It:=
 ⟨λi H=>∃xs x,SqL K H a xs/\xs[i]?=some x,λi H x H'=>H'=H/\∀xs,SqL K H a xs->xs[i]?=some x,λi H=>∃xs,SqL K H a xs/\xs.length<=i⟩
def Itt(K:AG)(a:AW):It:=
 ⟨λi H=>∃xs x,SqT K H a xs/\xs[i]?=some x,λi H x H'=>H'=H/\∀xs,SqT K H a xs->xs[i]?=some x,λi H=>∃xs,SqT K H a xs/\xs.length<=i⟩
def Itr(lo:Int)(n:Nat):It:=⟨λi _=>i < n,λi H x H'=>H'=H/\x=.int (lo+i),λi _=>n<=i⟩
theorem cp{P}{w}{K}{tg}(a it:AW):Ud P w K tg (Itl K a) [it] it (λi h=>h.IsListIter it a i) where
 mem:=by simp
 obj:=λi h st b hb=>by
  have e:b=it:=by simpa using hb
  subst e;obtain⟨o,e,c,d⟩:=st;exact⟨o,e,λv z=>by rw[d]at z;cases z⟩
 keep:=λi h h' st k=>st.at λo e=>k it (by simp) o e
 item:=by
  intro X hP hw hK hc i ζ s σ H E I hf st hg;subst hP hw hK;obtain⟨xs,x,hq,hx⟩:=hg;obtain⟨tx,rv,p,hz⟩:=I.list hq;obtain⟨u,hu,ru⟩:=rv.get hx;obtain⟨f0,f1,f2,f3,f4,f5⟩:=hf it (by simp)
  refine wpAny_pyNext_list_item st p.isList (x:=u) (by simpa using hu) λh' w5 sb=>?_
  have I1:Inv X ζ σ H { s with heap:=h' }:=I.turned (t':=s.toks) (λb o hb e=>(sb.2 b hb).trans e) f0 f1 f3 f4 f5;obtain⟨o,e,c,d⟩:=id w5;exact⟨u,rfl,Ys (s:={ s with heap:=h' }) e c d (by decide) ⟨x,H,I1,ru,⟨rfl,λys hy=>by rw[I.list_inj hy hq];exact hx⟩,w5,λb hb=>(hf b hb).1⟩⟩
 done:=by
  intro X hP hw hK hc i ζ s σ H E I hf st hg;subst hP hw hK;obtain⟨xs,hq,hx⟩:=hg;obtain⟨tx,rv,p,hz⟩:=I.list hq;obtain⟨f0,f1,f2,f3,f4,f5⟩:=hf it (by simp);have hl:=rv.length
  exact wpAny_pyNext_list_end (I.ok.hd hc) st p.isList (by simp;lia) λh' eb=>⟨rfl,I.turned (t':=s.toks) (λb o hb e=>eb b o hb e) f0 f1 f3 f4 f5⟩
 self:=λ_ _ _ _ _ st h=>wpAny_pyIter_listiter st h
theorem Zg{P}{w}{K}{tg}(a it:AW):Ud P w K tg (Itt K a) [it] it (λi h=>h.IsTupleIter it a i) where
 mem:=by simp
 obj:=λi h st b hb=>by
  have e:b=it:=by simpa using hb
  subst e;obtain⟨o,e,c,d⟩:=st;exact⟨o,e,λv z=>by rw[d]at z;cases z⟩
 keep:=λi h h' st k=>st.at λo e=>k it (by simp) o e
 item:=by
  intro X hP hw hK hc i ζ s σ H E I hf st hg;subst hP hw hK;obtain⟨xs,x,hq,hx⟩:=hg;obtain⟨tx,rv,p,hz⟩:=I.tuple hq;obtain⟨u,hu,ru⟩:=rv.get hx;obtain⟨f0,f1,f2,f3,f4,f5⟩:=hf it (by simp)
  refine wpAny_pyNext_tuple_item st (show s.heap.IsTuple a tx.toArray from p) (x:=u) (by simpa using hu) λh' w5 sb=>?_
  have I1:Inv X ζ σ H { s with heap:=h' }:=I.turned (t':=s.toks) (λb o hb e=>(sb.2 b hb).trans e) f0 f1 f3 f4 f5;obtain⟨o,e,c,d⟩:=id w5;exact⟨u,rfl,Ys (s:={ s with heap:=h' }) e c d (by decide) ⟨x,H,I1,ru,⟨rfl,λys hy=>by rw[I.tuple_inj hy hq];exact hx⟩,w5,λb hb=>(hf b hb).1⟩⟩
 done:=by
  intro X hP hw hK hc i ζ s σ H E I hf st hg;subst hP hw hK;obtain⟨xs,hq,hx⟩:=hg;obtain⟨tx,rv,p,hz⟩:=I.tuple hq;obtain⟨f0,f1,f2,f3,f4,f5⟩:=hf it (by simp);have hl:=rv.length
  exact wpAny_pyNext_tuple_end (I.ok.hd hc) st (show s.heap.IsTuple a tx.toArray from p) (by simp;lia) λh' eb=>⟨rfl,I.turned (t':=s.toks) (λb o hb e=>eb b o hb e) f0 f1 f3 f4 f5⟩
 self:=λ_ _ _ _ _ st h=>wpAny_pyIter_tupleiter st h
theorem Zh{P}{w}{K}{tg}(it:AW)(lo:Int)(n:Nat):Ud P w K tg (Itr lo n) [it] it (λi h=>IsRangeIter h it (lo+(i:Nat) * 1) ((n:Int) - (i:Nat)) 1) where
 mem:=by simp
 obj:=λi h st b hb=>by
  have e:b=it:=by simpa using hb
  subst e
  exact⟨_,st,λv z=>by
   have z':Sm _=Xq v:=z
   cases z'⟩
 keep:=λi h h' st k=>k it (by simp) _ st
 item:=by
  intro X hP hw hK hc i ζ s σ H E I hf st hg;subst hP hw hK;obtain⟨f0,f1,f2,f3,f4,f5⟩:=hf it (by simp);have W:=Walks.range (prog:=X.prog) (w:=X.w) (I.ok.hd hc) it lo 1 n
  refine W.item i s _ _ hg st λv h' tk hv w5 kk=>?_
  obtain⟨t,rfl⟩:=hv;have I1:Inv X ζ σ H { s with heap:=h',toks:=tk }:=I.turned (λb o hb e=>kk b o (by simpa using hb) e) f0 f1 f3 f4 f5;refine⟨_,rfl,Ys (s:={ s with heap:=h',toks:=tk }) (n:="range_iterator") w5 rfl rfl (by decide) ⟨.int (lo+i),H,I1,⟨t,?_⟩,⟨rfl,rfl⟩,w5,λb hb=>(hf b hb).1⟩⟩;rw[Int.mul_one]
 done:=by
  intro X hP hw hK hc i ζ s σ H E I hf st hg;subst hP hw hK;obtain⟨f0,f1,f2,f3,f4,f5⟩:=hf it (by simp)
  exact wpAny_pyNext_range_end (I.ok.hd hc) st (by have:n<=i:=hg;lia) λh' eb=>⟨rfl,I.turned (t':=s.toks) (λb o hb e=>eb b o hb e) f0 f1 f3 f4 f5⟩
 self:=λ_ _ _ _ _ st h=>wpAny_pyIter_rangeiter st h
section
variable{X:Cx}
def vP(K:AG)(tl:TE):TI:=λσ H R=>tl σ H λx H1=>∃a,x=.ref a/\(∃xs,SqL K H1 a xs)/\R (Itl K a) H1
def iTup(K:AG)(tl:TE):TI:=λσ H R=>tl σ H λx H1=>∃a,x=.ref a/\(∃xs,SqT K H1 a xs)/\R (Itt K a) H1
theorem lv{l}{tl}(hl:PE X l tl):PI X tg l (vP X.K tl):=by
 intro ζ s σ H R I h
 refine thn (hl ζ s σ H _ I h) λv s1 ⟨x,H1,I1,r1,q1⟩=>?_
 obtain⟨a,e,⟨xs,hq⟩,q⟩:=q1;subst e;cases r1;obtain⟨tx,rv,p,hz⟩:=I1.list hq;refine sv p.isList ?_;refine⟨s1.heap.objs.size,[s1.heap.objs.size],_,_,H1,rfl,I1.kept (t':=s1.toks) λb o e=>AN _ e,cp a _,⟨_,Ad _ rfl,rfl,rfl⟩,λb hb=>?_,q⟩
 have e:b=s1.heap.objs.size:=by simpa using hb
 subst e;exact I1.fpOk (AL _) (I1.hok.fresh (AL _))
theorem qd{l}{tl}(hl:PE X l tl):PI X tg l (iTup X.K tl):=by
 intro ζ s σ H R I h
 refine thn (hl ζ s σ H _ I h) λv s1 ⟨x,H1,I1,r1,q1⟩=>?_
 obtain⟨a,e,⟨xs,hq⟩,q⟩:=q1;subst e;cases r1;obtain⟨tx,rv,p,hz⟩:=I1.tuple hq;refine Dy (show s1.heap.IsTuple a tx.toArray from p) ?_;refine⟨s1.heap.objs.size,[s1.heap.objs.size],_,_,H1,rfl,I1.kept (t':=s1.toks) λb o e=>AN _ e,Zg a _,⟨_,Ad _ rfl,rfl,rfl⟩,λb hb=>?_,q⟩
 have e:b=s1.heap.objs.size:=by simpa using hb
 subst e;exact I1.fpOk (AL _) (I1.hok.fresh (AL _))
theorem YS{ζ}{σ}{H}{s}{R}{E}{lo hi}{t u v}{tk}(I:Inv X ζ σ H s)(h1:-(2 ^ 62)<=lo)(h2:lo < 2 ^ 62)(h3:-(2 ^ 62)<=hi)(h4:hi < 2 ^ 62)
  (q:R (Itr lo (hi - lo).toNat) H):Af (Ao X.prog X.w) X.A (e8 (.ref s.heap.objs.size)) (PIE X ζ σ tg R) E { s with heap:=s.heap.push { cls:=.type "range",data:=.fields #[.int lo t,.int hi u,.int 1 v] },toks:=tk }:=by
 refine wpAny_pyIter_range (IsRange.new ..) (small_one h1 h2 h3 h4) ?_
 have I1:Inv X ζ σ H { s with heap:=s.heap.push { cls:=.type "range",data:=.fields #[.int lo t,.int hi u,.int 1 v] },toks:=tk }:=I.kept λb o e=>AN _ e
 refine⟨(s.heap.push { cls:=.type "range",data:=.fields #[.int lo t,.int hi u,.int 1 v] }).objs.size,[(s.heap.push { cls:=.type "range",data:=.fields #[.int lo t,.int hi u,.int 1 v] }).objs.size],_,_,H,rfl,
  I1.kept (t':=tk) λb o e=>AN _ e,Zh _ lo (hi - lo).toNat,?_,λb hb=>?_,q⟩
 ·have e1:lo+((0:Nat):Int) * 1=lo:=by simp
  have e2:(((hi - lo).toNat:Nat):Int) - ((0:Nat):Int)=t8 lo hi 1:=by rw[rangeSize_one];split <;> lia
  show IsRangeIter _ _ (lo+((0:Nat):Int) * 1) ((((hi - lo).toNat:Nat):Int) - ((0:Nat):Int)) 1;rw[e1,e2];exact Ad _ rfl
 ·have e:b=(s.heap.push { cls:=.type "range",data:=.fields #[.int lo t,.int hi u,.int 1 v] }).objs.size:=by simpa using hb
  subst e;exact I1.fpOk (AL _) (I1.hok.fresh (AL _))
def vM(ta:TA):TI:=λσ H R=>ta σ H λvs H1=>∃j:Int,vs=[.int j]/\-(2 ^ 62)<=j/\j < 2 ^ 62/\R (Itr 0 j.toNat) H1
def vL(ta:TA):TI:=λσ H R=>ta σ H λvs H1=>∃i j:Int,vs=[.int i,.int j]/\(-(2 ^ 62)<=i/\i < 2 ^ 62/\-(2 ^ 62)<=j/\j < 2 ^ 62)/\R (Itr i (j - i).toNat) H1
theorem dP{a}{ta}{p pos}(hg:Gl X "range") (hm:X.mg "range" = none) (ha:PA X [a] ta) (hs:AY [a] X.env=[(false,Cc a X.env)]:=by rfl):PI X tg (.Call (.Name "range" p) [a] [] pos) (vM ta):=by
 intro ζ s σ H R I h;refine Call_ (Nl I hg hm boot_range (Dw (thn (ha pos ζ s σ H _ I h) λus s1 ⟨vs,H1,I1,r1,q1⟩=>?_) hs rfl));obtain⟨j,e,q1,q2,q⟩:=q1;subst e
 cases r1 with
 | cons r rr=>
  cases rr;obtain⟨t,rfl⟩:=r;exact call_range_1 (YS I1 (by lia) (by lia) q1 q2 (by simpa using q))
theorem dO(hg:Gl X "range") (hm:X.mg "range" = none) (ha:PA X [a,b] ta) (hs:AY [a,b] X.env=[(false,Cc a X.env),(false,Cc b X.env)]:=by rfl) (wQ:AY [b] X.env=[(false,Cc b X.env)]:=by rfl) :
  PI X tg (.Call (.Name "range" p) [a,b] [] pos) (vL ta):=by
 intro ζ s σ H R I h;refine Call_ (Nl I hg hm boot_range (Dw (thn (ha pos ζ s σ H _ I h) λus s1 ⟨vs,H1,I1,r1,q1⟩=>?_) (by rw[hs,wQ]) (by rw[wQ];rfl)));obtain⟨i,j,e,⟨q1,q2,q3,q4⟩,q⟩:=q1;subst e
 cases r1 with
 | cons r rr=>
  cases rr with
  | cons r' rr=>
   cases rr;obtain⟨t,rfl⟩:=r;obtain⟨t',rfl⟩:=r';exact call_range_2 (YS I1 q1 q2 q3 q4 q)
def tFor(wi:TI)(g:TG)(tb:TS):TS:=λD σ H=>wi σ H λJ H1=>∃W:Nat->Nat->St->Hp->Prop,(∃m,W 0 m σ H1)/\∀i m σ H,W i m σ H ->
 (J.stop i H/\D.nx σ H)∨(J.go i H/\∃N:St->Hp->Prop,(∀σ' H',N σ' H'->∃m',m' < m/\W (i+1) m' σ' H')/\∀x H',J.yld i H x H'->g x σ H' λσ2 H2=>tb { D with nx:=N,ct:=N,bk:=D.nx } σ2 H2)
def Tj(fp:List AW)(h:C9):List (AW×Obj):=fp.filterMap λb=>(h.get? b).map λo=>(b,o)
theorem Mb(hb:b∈fp)(e:h.get? b=some o):(b,o)∈Tj fp h:=eh.mpr ⟨b,hb,by rw[e];rfl⟩
theorem dU(hp:p∈Tj fp h):p.1∈fp/\h.get? p.1=some p.2:=by
 obtain⟨b,hb,e⟩:=eh.mp hp
 cases q:h.get? b with
 | none=>rw[q]at e;cases e
 | some o=>
  rw[q]at e;have e':(b,o)=p:=Bl e;subst e';exact⟨hb,q⟩
theorem Inv.pinned(I:Inv X ζ σ H s)(hf:∀b∈fp,PP X ζ H b)(ho:∀b∈fp,∃o,s.heap.get? b=some o/\∀v,o.data≠.cell v):Inv X (ζ++Tj fp s.heap) σ H s:=
 I.pins_of λp hp=>(A0.mp hp).elim (λz=>I.pin p (BU _ z)) λz=>by
  obtain⟨hb,e⟩:=dU z;obtain⟨f0,f1,f2,_⟩:=hf p.1 hb;obtain⟨o,e',d⟩:=ho p.1 hb;rw[e]at e';cases e';exact⟨e,f0,f1,f2,d⟩
theorem Inv.unpinned(I:Inv X (ζ++pl) σ H s):Inv X ζ σ H s:=I.pins_of λp hp=>I.pin p (BU _ (BN _ hp))
theorem qW(hp:WD (Ao X.prog X.w) X.A X.env X.xe)(hc:X.calm=true)(hi:PI X tg iter wi)(hg:PG X tg g)(hb:PSs X body tb)
  (hs:∀x,Go iter X.env x=pure x:=by intro _;rfl):PS X (.For tg iter body [] pos) (tFor wi g tb):=by
 intro ζ s σ H D I h;refine wpAny_For (thn (hi ζ s σ H _ I h) λv s1 h1=>thn h1 λitv s2 h2=>?_) hs;obtain⟨it,fp,tn,J,H2,e,I2,T,wa,f2,W,⟨m0,w0⟩,turn⟩:=h2;subst e
 have xF:∀{H':Hp},(∀b∈fp,H' b=none)->∀b∈fp,PP X ζ H' b:=λhn b hb=>⟨hn b hb,(f2 b hb).2⟩
 refine codeAny_forLoop_any (λn s'=>∃i σ' H',Inv X ζ σ' H' s'/\tn i s'.heap/\(∀b∈fp,H' b=none)/\W i n σ' H') ?_ m0 ⟨0,σ,H2,I2,wa,λb hb=>(f2 b hb).1,w0⟩;rintro n s3 ⟨i,σ3,H3,I3,xG,fr3,w3⟩
 rcases turn i n σ3 H3 w3 with⟨stop,qn⟩ | ⟨go,N,hN,step⟩
 ·refine GX hp (thn (T.done X rfl rfl rfl hc i ζ s3 σ3 H3 X.xe I3 (xF fr3) xG stop) λr s4 ⟨hr,I4⟩=>?_)
  subst hr;exact PR ⟨σ3,H3,I4,qn⟩
 ·refine GX hp (thn (T.item X rfl rfl rfl hc i ζ s3 σ3 H3 X.xe I3 (xF fr3) xG go) λr s4 ⟨u,hr,h4⟩=>?_)
  subst hr;refine GX hp (thn h4 λ_ s5 ⟨x,H5,I5,r5,y5,st5,fr5⟩=>?_);have I5':=I5.pinned (xF fr5) (T.obj _ _ st5);refine GX hp (thn (hg _ s5 σ3 H5 x u _ I5' r5 (step x H5 y5)) λ_ s6 ⟨σ6,H6,I6,q6⟩=>?_);refine GX hp (thn (hb _ s6 σ6 H6 _ I6 q6) λf s7 q7=>?_)
  have tH:∀{σ7:St} {H7:Hp},Inv X (ζ++Tj fp s5.heap) σ7 H7 s7->N σ7 H7->∃m,m < n/\∃i σ' H',Inv X ζ σ' H' s7/\tn i s7.heap/\(∀b∈fp,H' b=none)/\W i m σ' H':=λ{σ7 H7} I7 n7=>by
   obtain⟨m',hm,w7⟩:=hN σ7 H7 n7;refine⟨m',hm,i+1,σ7,H7,I7.unpinned,T.keep _ _ _ st5 λb hb o e=>(I7.pin (b,o) (BU _ (BU _ (Mb hb e)))).1,λb hb=>?_,w7⟩;obtain⟨o,e,d⟩:=T.obj _ _ st5 b hb;exact(I7.pin (b,o) (BU _ (BU _ (Mb hb e)))).2.1
  cases f with
  | next=>obtain⟨σ7,H7,I7,n7⟩:=q7;exact tH I7 n7
  | cont=>obtain⟨σ7,H7,I7,n7⟩:=q7;exact tH I7 n7
  | brk=>obtain⟨σ7,H7,I7,q7⟩:=q7;exact⟨σ7,H7,I7.unpinned,q7⟩
  | ret v=>obtain⟨x7,σ7,H7,I7,r7,q7⟩:=q7;exact⟨x7,σ7,H7,I7.unpinned,r7,q7⟩
end
abbrev R2:=V->V->Hp->VK->Prop
def OpR(X:Cx)(f:AI->AI->Sem AI)(r:R2):Prop:=
 ∀(ζ:List (AW×Obj)) (s:AR) (σ:St) (H:Hp) (x y:V) (v u:AI) (Q:VK),Inv X ζ σ H s->RelV x v->RelV y u->r x y H Q ->
  Af (Ao X.prog X.w) X.A (f v u) (EP X ζ σ Q) X.xe s
def UnR(X:Cx)(f:AI->Sem AI)(r:V->Hp->VK->Prop):Prop:=
 ∀(ζ:List (AW×Obj)) (s:AR) (σ:St) (H:Hp) (x:V) (v:AI) (Q:VK),Inv X ζ σ H s->RelV x v->r x H Q ->
  Af (Ao X.prog X.w) X.A (f v) (EP X ζ σ Q) X.xe s
def KI(X:Cx)(f:AI)(r:List V->Hp->VK->Prop):Prop:=
 ∀(ζ:List (AW×Obj)) (s:AR) (σ:St) (H:Hp) (xs:List V) (us:List AI) (Q:VK),Inv X ζ σ H s->Bw xs us->r xs H Q ->
  Af (Ao X.prog X.w) X.A (call f us) (EP X ζ σ Q) X.xe s
def TruR(X:Cx)(r:V->Hp->(Bool->Hp->Prop)->Prop):Prop:=
 ∀(ζ:List (AW×Obj)) (s:AR) (σ:St) (H:Hp) (x:V) (v:AI) (Q:Bool->Hp->Prop),Inv X ζ σ H s->RelV x v->r x H Q ->
  Af (Ao X.prog X.w) X.A (pA v) (TP X ζ σ Q) X.xe s
def tOp(r:R2)(ta tb:TE):TE:=λσ H Q=>ta σ H λx H1=>tb σ H1 λy H2=>r x y H2 Q
def tUn(r:V->Hp->VK->Prop)(ta:TE):TE:=λσ H Q=>ta σ H λx H1=>r x H1 Q
def rI(C:Int->Int->Prop)(g:Int->Int->V):R2:=λx y H Q=>∃i j,x=.int i/\y=.int j/\C i j/\Q (g i j) H
def rI0(g:Int->Int->V):R2:=λx y H Q=>∃i j,x=.int i/\y=.int j/\Q (g i j) H
def rU(g:Int->V):V->Hp->VK->Prop:=λx H Q=>∃i,x=.int i/\Q (g i) H
section
variable{X:Cx}{a b:Expr}{ta tb:TE}{pos:Pos}
theorem sf(ha:PE X a ta)(hb:PE X b tb){ζ:List (AW×Obj)}{s:AR}{σ:St}{H:Hp}{R:V->V->Hp->Prop}(I:Inv X ζ σ H s)
  (h:ta σ H λx H1=>tb σ H1 λy H2=>R x y H2) {Q:AI->AR->Prop} {f:AI->AI->Sem AI}
  (hf:∀v u s2 x y H2,Inv X ζ σ H2 s2->RelV x v->RelV y u->R x y H2->Af (Ao X.prog X.w) X.A (f v u) Q X.xe s2) :
  Af (Ao X.prog X.w) X.A (Cc a X.env) (λv s₁=>Af (Ao X.prog X.w) X.A (Cc b X.env) (λu s₂=>Af (Ao X.prog X.w) X.A (f v u) Q X.xe s₂) X.xe s₁) X.xe s:=by
 refine thn (ha ζ s σ H _ I h) λv s1 ⟨x,H1,I1,r1,q1⟩=>?_
 refine thn (hb ζ s1 σ H1 _ I1 q1) λu s2 ⟨y,H2,I2,r2,q2⟩=>?_
 exact hf v u s2 x y H2 I2 r1 r2 q2
theorem uk{op:Operator}{r:R2}(ho:OpR X (Cw op) r)(ha:PE X a ta)(hb:PE X b tb):PE X (.BinOp a op b pos) (tOp r ta tb):=by
 intro ζ s σ H Q I h;exact wpAny_BinOp (sf ha hb I h λv u s2 x y H2 I2 rx ry q=>ho ζ s2 σ H2 x y v u Q I2 rx ry q)
theorem ui(ho:UnR X (unaryOp op) r)(ha:PE X a ta):PE X (.UnaryOp op a pos) (tUn r ta):=by
 intro ζ s σ H Q I h;exact UnaryOp_ (thn (ha ζ s σ H _ I h) λv s1 ⟨x,H1,I1,r1,q1⟩=>ho ζ s1 σ H1 x v Q I1 r1 q1)
theorem opI{f:AI->AI->Sem AI}{C:Int->Int->Prop}{g:Int->Int->Int}
  (rule:∀(i j:Int) (t u:Tok) (s:AR) (Q:AI->AR->Prop) (E:AI->AR->Prop),C i j->Q (.int (g i j) s.toks) { s with toks:=s.toks+1 }->Af (Ao X.prog X.w) X.A (f (.int i t) (.int j u)) Q E s) :
  OpR X f (rI C λi j=>.int (g i j)):=by
 intro ζ s σ H x y v u Q I rx ry h;obtain⟨i,j,rfl,rfl,hc,q⟩:=h;obtain⟨t,rfl⟩:=rx;obtain⟨t',rfl⟩:=ry;exact rule i j t t' s _ _ hc ⟨.int (g i j),H,I.tok _,⟨_,rfl⟩,q⟩
theorem mT{f:AI->AI->Sem AI}{g:Int->Int->Int}
  (rule:∀(i j:Int) (t u:Tok) (s:AR) (Q:AI->AR->Prop) (E:AI->AR->Prop),Q (.int (g i j) s.toks) { s with toks:=s.toks+1 }->Af (Ao X.prog X.w) X.A (f (.int i t) (.int j u)) Q E s) :
  OpR X f (rI0 λi j=>.int (g i j)):=by
 intro ζ s σ H x y v u Q I rx ry h;obtain⟨i,j,rfl,rfl,q⟩:=h;obtain⟨t,rfl⟩:=rx;obtain⟨t',rfl⟩:=ry;exact rule i j t t' s _ _ ⟨.int (g i j),H,I.tok _,⟨_,rfl⟩,q⟩
theorem mU{f:AI->AI->Sem AI}{g:Int->Int->Bool}
  (rule:∀(i j:Int) (t u:Tok) (s:AR) (Q:AI->AR->Prop) (E:AI->AR->Prop),Q (.bool (g i j)) s->Af (Ao X.prog X.w) X.A (f (.int i t) (.int j u)) Q E s) :
  OpR X f (rI0 λi j=>.bl (g i j)):=by
 intro ζ s σ H x y v u Q I rx ry h;obtain⟨i,j,rfl,rfl,q⟩:=h;obtain⟨t,rfl⟩:=rx;obtain⟨t',rfl⟩:=ry;exact rule i j t t' s _ _ ⟨.bl (g i j),H,I,rfl,q⟩
def jm(i j:Int):Prop:=0 < j/\j < 1073741824
def jl(i j:Int):Prop:=0<=j/\j<=1000000/\i.natAbs < 2 ^ 64
def eV(i j:Int):Prop:=(-(2 ^ 64) < i/\i < 2 ^ 64)∨(-(2 ^ 64) < j/\j < 2 ^ 64)
theorem eV.ok(h:eV i j):IntMulOk i j:=by
 rcases h with⟨h1,h2⟩ | ⟨h1,h2⟩
 ·exact .of_left (intBits_le_64 h1 h2)
 ·exact .of_right (intBits_le_64 h1 h2)
theorem Zf(k:Nat):(0:Int)<=2 ^ k:=by
 rw[two_pow_cast];exact Kt _
theorem rC:OpR X (Cw .Add) (rI0 λi j=>.int (i+j)):=mT λ_ _ _ _ _ _ _ q=>add_int q
theorem qu:OpR X (Cw .Sub) (rI0 λi j=>.int (i - j)):=mT λ_ _ _ _ _ _ _ q=>sub_int q
theorem qy:OpR X (Cw .Mult) (rI eV λi j=>.int (i * j)):=opI λ_ _ _ _ _ _ _ hc q=>mul_int q hc.ok
theorem mP:OpR X (Cw .FloorDiv) (rI jm λi j=>.int (i / j)):=opI λi j _ _ _ _ _ hc q=>by
 have h1:(0:Int) < j:=hc.1;have h2:j < 1073741824:=hc.2;exact floordiv_int (by lia) (by rw[WI i (by lia)];exact q) (.inl (PyProof.noPylong_small (by omega)))
theorem qz:OpR X (Cw .Mod) (rI (λ_ j=>0 < j) λi j=>.int (i % j)):=opI λi j _ _ _ _ _ hc q=>by
 have h1:(0:Int) < j:=hc;exact mod_int' (by lia) (by rw[Int.fmod_eq_emod_of_nonneg i (by lia)];exact q)
theorem qw:OpR X (Cw .LShift) (rI jl λi j=>.int (i * 2 ^ j.toNat)):=opI λ_ _ _ _ _ _ _ hc q=>lshift_int_small hc.1 hc.2.1 hc.2.2 q
theorem qv:OpR X (Cw .RShift) (rI (λ_ j=>0<=j) λi j=>.int (i / 2 ^ j.toNat)):=opI λi j _ _ _ _ _ hc q=>
 rshift_int hc (by rw[WI i (Zf _)];exact q)
theorem rB:OpR X (Cw .BitAnd) (rI0 λi j=>.int (BH i j)):=mT λ_ _ _ _ _ _ _ q=>and_int q
theorem qt:OpR X (Cw .BitXor) (rI0 λi j=>.int (CD i j)):=mT λ_ _ _ _ _ _ _ q=>xor_int q
theorem unI{f:AI->Sem AI}{g:Int->Int}
  (rule:∀(i:Int) (t:Tok) (s:AR) (Q:AI->AR->Prop) (E:AI->AR->Prop),Q (.int (g i) s.toks) { s with toks:=s.toks+1 }->Af (Ao X.prog X.w) X.A (f (.int i t)) Q E s) :
  UnR X f (rU λi=>.int (g i)):=by
 intro ζ s σ H x v Q I rx h;obtain⟨i,rfl,q⟩:=h;obtain⟨t,rfl⟩:=rx;exact rule i t s _ _ ⟨.int (g i),H,I.tok _,⟨_,rfl⟩,q⟩
theorem pr:UnR X (unaryOp .USub) (rU λi=>.int (-i)):=unI λ_ _ _ _ _ q=>neg_int q
end
section
variable{X:Cx}{a b c:Expr}{ta tb tc:TE}{pos:Pos}
theorem sS(I:Inv X ζ σ H s)(q:Q (.bl k) H)(e:k=k'):EP X ζ σ Q (.bool k') s:=by
 subst e;exact⟨.bl k,H,I,rfl,q⟩
theorem ur:OpR X (B2 .Lt) (rI0 λi j=>.bl (decide (i < j))):=mU λ_ _ _ _ _ _ _ q=>lt_int q
theorem ut:OpR X (B2 .LtE) (rI0 λi j=>.bl (decide (i<=j))):=mU λ_ _ _ _ _ _ _ q=>le_int q
theorem uu:OpR X (B2 .Gt) (rI0 λi j=>.bl (decide (j < i))):=mU λ_ _ _ _ _ _ _ q=>gt_int q
theorem uv:OpR X (B2 .GtE) (rI0 λi j=>.bl (decide (j<=i))):=mU λ_ _ _ _ _ _ _ q=>ge_int q
theorem q9:OpR X (B2 .Is) (λx y H Q=>y=.non/\Q (.bl (decide (x=.non))) H):=by
 intro ζ s σ H x y v u Q I rx ry h;obtain⟨rfl,q⟩:=h;cases ry;refine is_none_gen (sS I q ?_)
 cases x <;> first
  | (cases rx;rfl)
  | (obtain⟨t,rfl⟩:=rx;rfl)
theorem OpR.or(h:OpR X f r)(h':OpR X f r'):OpR X f (λx y H Q=>r x y H Q∨r' x y H Q):=by
 intro ζ s σ H x y v u Q I rx ry q
 rcases q with q | q
 ·exact h ζ s σ H x y v u Q I rx ry q
 ·exact h' ζ s σ H x y v u Q I rx ry q
theorem DQ(b:Expr)(h:op≠.In:=by decide)(h2:op≠.NotIn:=by decide):Cp op b=false:=by
 have e1:(op==CmpOp.In)=false:=by cases op <;> first | rfl | exact zX rfl h
 have e2:(op==CmpOp.NotIn)=false:=by cases op <;> first | rfl | exact zX rfl h2
 cases b <;> simp[Cp,e1,e2]
theorem mJ{op:CmpOp}{r:R2}(ho:OpR X (B2 op) r)(ha:PE X a ta)(hb:PE X b tb)(hm:Cp op b=false):PE X (.Compare a [op] [b] pos) (tOp r ta tb):=by
 intro ζ s σ H Q I h;exact wpAny_Compare1 (sf ha hb I h λv u s2 x y H2 I2 rx ry q=>ho ζ s2 σ H2 x y v u Q I2 rx ry q) hm
def oP(t:TE):TT:=λσ H Q=>t σ H λx H'=>∃k,x=.bl k/\Q k H'
theorem lZ(ho:OpR X (B2 op) r)(ha:PE X a ta)(hb:PE X b tb)(hm:Cp op b=false):PT X (.Compare a [op] [b] pos) (oP (tOp r ta tb)):=by
 intro ζ s σ H Q I h
 refine jn (thn (ha ζ s σ H _ I h) λv s1 ⟨x,H1,I1,r1,q1⟩=>thn (hb ζ s1 σ H1 _ I1 q1) λu s2 ⟨y,H2,I2,r2,q2⟩=>
  thn (ho ζ s2 σ H2 x y v u _ I2 r1 r2 q2) λc s3 ⟨z,H3,I3,r3,k,e,q3⟩=>?_) hm
 subst e;cases r3;exact DC ⟨H3,I3,q3⟩
def gW(r r':R2)(ta tb tc:TE):TE:=λσ H Q=>ta σ H λx H1=>tb σ H1 λy H2=>r x y H2 λz H3=>∃k,z=.bl k /\
 (if k=true then tc σ H3 λw' H4=>r' y w' H4 Q else Q (.bl false) H3)
theorem gm(ho:OpR X (B2 op) r)(xS:OpR X (B2 op') r')(ha:PE X a ta)(hb:PE X b tb)(hc:PE X c tc)
  (hm:lastMarks [op,op'] [b,c]=false:=by with_unfolding_all rfl):PT X (.Compare a [op,op'] [b,c] pos) (oP (gW r r' ta tb tc)):=by
 intro ζ s σ H Q I h
 refine isTrue_chain (thn (ha ζ s σ H _ I h) λv s1 ⟨x,H1,I1,r1,q1⟩=>test_link (thn (hb ζ s1 σ H1 _ I1 q1) λu s2 ⟨y,H2,I2,r2,q2⟩=>
  thn (ho ζ s2 σ H2 x y v u _ I2 r1 r2 q2) λd s3 ⟨z,H3,I3,r3,k,e,q3⟩=>?_)) hm
 subst e;cases r3;refine DC ?_
 cases k with
 | false=>
  obtain⟨k',e',q'⟩:=q3;cases e';exact ite_ff ⟨H3,I3,q'⟩
 | true=>
  refine ite_tt (test_last (thn (hc ζ s3 σ H3 _ I3 q3) λw' s4 ⟨z',H4,I4,r4,q4⟩=>thn (xS ζ s4 σ H4 y z' u w' _ I4 r2 r4 q4) λd' s5 ⟨z2,H5,I5,r5,k2,e2,q5⟩=>?_));subst e2;cases r5;exact DC ⟨H5,I5,q5⟩
def si(K:AG)(x:V)(H:Hp)(k:Bool):Prop:=
 match x with
 | .non=>k=false
 | .bl b=>k=b
 | .int i=>k=(i != 0)
 | .str y=>y.length<=sizeLine/\k=((y.length:Int) != 0)
 | .byt y=>y.size<=sizeLine/\k=((y.size:Int) != 0)
 | .ref p=>(∃xs,SqL K H p xs/\k = !xs.isEmpty)∨(∃xs,SqT K H p xs/\k = !xs.isEmpty)∨∃f',H p=some (.dK f')/\k = !f'.isEmpty
 | _=>False
theorem aL{κ:Type}{f':List (κ×V)}{vs:List (κ×AI)}(r:KV f' vs):(!vs.isEmpty) = !f'.isEmpty:=by
 cases r <;> rfl
theorem UI(r:Bw xs tx):(!tx.toArray.isEmpty) = !xs.isEmpty:=by
 cases r <;> simp
theorem Q0:(sizeLine:Nat) < 2 ^ 63:=by rw[jv];decide
theorem px:TruR X (λx H Q=>∃k,si X.K x H k/\Q k H):=by
 intro ζ s σ H x v Q I rx h;obtain⟨k,e,q⟩:=h;have hl:=Q0;have hs:sizeLine=16777216:=jv
 cases x with
 | non=>
  cases rx;have e':k=false:=e;subst e';exact truthy_none ⟨H,I,q⟩
 | bl b=>
  cases rx;have e':k=b:=e;subst e';exact DC ⟨H,I,q⟩
 | int i=>
  obtain⟨t,rfl⟩:=rx;have e':k=(i != 0):=e;subst e';exact PySem.P.truthy_int ⟨H,I,q⟩
 | str y=>
  obtain⟨t,rfl⟩:=rx;obtain⟨hy,e'⟩:y.length<=sizeLine/\k=((y.length:Int) != 0):=e;subst e';exact PySem.P.truthy_str (by lia) ⟨H,I.tok _,q⟩
 | byt y=>
  obtain⟨t,rfl⟩:=rx;obtain⟨hy,e'⟩:y.size<=sizeLine/\k=((y.size:Int) != 0):=e;subst e';exact PySem.W.truthy_bytes (by lia) ⟨H,I.tok _,q⟩
 | ref p=>
  cases rx
  have e':(∃xs,SqL X.K H p xs/\k = !xs.isEmpty)∨(∃xs,SqT X.K H p xs/\k = !xs.isEmpty)∨∃f',H p=some (.dK f')/\k = !f'.isEmpty:=e
  rcases e' with⟨xs,hx,e'⟩ | ⟨xs,hx,e'⟩ | ⟨f',hx,e'⟩
  ·subst e'
   obtain⟨tx,r,pl,hz⟩:=I.list hx;have hlen:=r.length;exact wpAny_truthy_list pl.isList (by simp only[Ah];lia) ⟨H,I.tok _,by rw[UI r];exact q⟩
  ·subst e'
   obtain⟨tx,r,pl,hz⟩:=I.tuple hx;have hlen:=r.length;exact truthy_tuple pl (by simp only[Ah];lia) ⟨H,I.tok _,by rw[UI r];exact q⟩
  ·subst e'
   obtain⟨hz,hS,vs,r,m⟩:f'.length<=sizeLine/\(p==EI)=false/\∃vs,KV f' vs/\s.heap.DictOf (Ew X.prog X.w) p vs:=I.hok p _ hx
   have hlen:f'.length=vs.length:=FT r;exact wpAny_truthy_dict hS m (by lia) ⟨H,I.tok _,by rw[aL r];exact q⟩
 | _=>exact(show False from e).elim
theorem gk(ha:PE X a ta)(he:∀whole,ZK a X.env whole=(do let v <-whole;ZC a.pos;Oq [v] (pA v))) :
  PT X a (λσ H Q=>ta σ H λx H'=>∃k,si X.K x H' k/\Q k H'):=by
 intro ζ s σ H Q I h;exact isTrue_plain (thn (ha ζ s σ H _ I h) λv s1 ⟨x,H1,I1,r1,q1⟩=>px ζ s1 σ H1 x v Q I1 r1 q1) (he _)
theorem vals1(r:Bw [x] us):∃u,us=[u]/\RelV x u:=by
 cases r with
 | cons r1 r2=>cases r2;exact⟨_,rfl,r1⟩
theorem vals2(r:Bw [x,y] us):∃u w',us=[u,w']/\RelV x u/\RelV y w':=by
 cases r with
 | cons r1 r2=>
  cases r2 with
  | cons r3 r4=>cases r4;exact⟨_,_,rfl,r1,r3⟩
theorem eN(hc:X.calm=true):KI X (.builtin "max") (λxs H Q=>∃i j,xs=[.int i,.int j]/\Q (.int (if j > i then j else i)) H):=by
 intro ζ s σ H xs us Q I r h;obtain⟨i,j,rfl,q⟩:=h;obtain⟨u,w',rfl,⟨t,rfl⟩,⟨t',rfl⟩⟩:=vals2 r
 refine max_two_ints (I.ok.hd hc) λh' tk k=>⟨_,H,I.kept k,?_,q⟩
 by_cases hj:j > i
 ·rw[qX hj,qX hj];exact⟨_,rfl⟩
 ·rw[qY hj,qY hj];exact⟨_,rfl⟩
theorem eM(hc:X.calm=true):KI X (.builtin "min") (λxs H Q=>∃i j,xs=[.int i,.int j]/\Q (.int (if j < i then j else i)) H):=by
 intro ζ s σ H xs us Q I r h;obtain⟨i,j,rfl,q⟩:=h;obtain⟨u,w',rfl,⟨t,rfl⟩,⟨t',rfl⟩⟩:=vals2 r
 refine min_two_ints (I.ok.hd hc) λh' tk k=>⟨_,H,I.kept k,?_,q⟩
 by_cases hj:j < i
 ·rw[qX hj,qX hj];exact⟨_,rfl⟩
 ·rw[qY hj,qY hj];exact⟨_,rfl⟩
theorem eQ:KI X (.type "int") (λxs H Q=>(∃i,xs=[.int i]/\Q (.int i) H)∨∃k,xs=[.bl k]/\Q (.int (if k then 1 else 0)) H):=by
 intro ζ s σ H xs us Q I r h
 rcases h with⟨i,rfl,q⟩ | ⟨k,rfl,q⟩
 ·obtain⟨u,rfl,t,rfl⟩:=vals1 r
  exact call_int_int ⟨.int i,H,I,⟨_,rfl⟩,q⟩
 ·obtain⟨u,rfl,r1⟩:=vals1 r
  cases r1;exact call_int_bool ⟨.int (if k then 1 else 0),H,I.tok _,⟨_,rfl⟩,q⟩
end
structure ai(h:C9)(x dx C:AW)(mA:Str->Option AI):Prop where
 obj:h.get? x=some (Ec C dx)
 ns:h.Ns1 dx mA
 ne:dx≠x
theorem dZ{h:C9}{dx:AW}{mA:Str->Option AI}(n:h.Ns1 dx mA):∃od,h.get? dx=some od/\∀name,NH name od=some (mA name):=by
 obtain⟨o,es,ep,ho,hd,hk,_,hm⟩:=n;refine⟨o,ho,λname=>?_⟩;have e:=hm name;unfold nsFind findBy at e;rw[<-Array.find?_toList]at e;unfold NH;rw[hd];dsimp only;split
 ·rename_i y q
  rw[q]at e;exact congrArg some e
 ·rename_i q
  rw[q]at e
  have a:es.toList.any (·.refKey)=false:=by
   rw[fJ];intro y hy;obtain⟨z,t,hkey⟩:=hk y (GZ.mp hy);simp[RL.refKey,hkey]
  have a':¬es.toList.any (·.refKey)=true:=by rw[a];exact AK
  rw[qY a'];exact congrArg some e
theorem ai.look{h}{x dx C}{mA}(I:ai h x dx C mA):∃od,PySem.W.InstAt h x (Ec C dx) C (some od)/\∀name,NH name od=some (mA name):=
 let ⟨od,ho,hl⟩:=dZ I.ns
 ⟨od,⟨I.obj,rfl,rfl,ho⟩,hl⟩
section
variable{prog:Bh}{w:CH}{A:CM}{E:AI->AR->Prop}{s:AR}{K:AG}{x dx C f:AW}{mA:Str->Option AI}{name:Str}{v:AI}
theorem nC(X:K.In s.heap)(I:ai s.heap x dx C mA)(hg:LV K C name=true)(hh:Pe K C=true)
  (ha:Dq K (.ref C) name=some none) (hv:mA name=some v) (zu:cS v=true) (h:Q v { s with toks:=s.toks+1 }) :
  Af (Ao prog w) A (getAttr (.ref x) name expr) Q E s:=by
 obtain⟨od,J,hl⟩:=I.look;exact PySem.W.get_value X J (OT hg).1 (PySem.W.findObj_own hh ha rfl (by rw[hl,hv])) zu h
theorem iu(X:K.In s.heap)(I:ai s.heap x dx C mA)(hg:LV K C name=true)
  (hf:Dq K (.ref C) name=some (some (.ref f))) (ht:WA K (.ref f)=true) (hv:mA name=none) (h:Q (.ref f,[.ref x]) s) :
  Af (Ao prog w) A (eX (.ref x) name pl) Q E s:=by
 obtain⟨od,J,hl⟩:=I.look;exact PySem.W.method_fn X J (OT hg).1 (OT hg).2 hf (beq_iff_eq.mp ht) (by show(NH name od).map (·.isSome)=some false;rw[hl,hv];rfl) h
theorem lQ(X:K.In s.heap)(I:ai s.heap x dx C mA)
  (hs:Dq K (.ref C) "__setattr__" = some (some (.builtin "object.__setattr__"))) (hp:ao K C=true) (ht:Re K C name=some none) (hh:Pe K C=true)
  (hw:Xh mA ns) (hsz:ns.length<=sizeLine)
  (h:∀h',ai h' x dx C (λy=>if y=name then some v else mA y)->FO dx s.heap h'->Q () { s with heap:=h',toks:=s.toks+2 }) :
  Af (Ao prog w) A (setAttr (.ref x) name v) Q E s:=by
 obtain⟨od,J,hl⟩:=I.look;refine PySem.W.set_plain X J hs (PySem.W.osa_open (s:={ s with toks:=s.toks+1 }) (r:=none) X J hp ht λb=>?_);obtain⟨cd,hc,yg⟩:=PySem.W.any_some hh;have hx:s.heap.get? x=some ⟨.ref C,some dx,.plain,#[]⟩:=I.obj;refine AB (AM (AB (AB (wpAny_loadPart hx (AB (tj (s:={ s with toks:=s.toks+1 }) (PySem.W.looks_clsIn X hc) ?_))))));rw[yg];refine AM (a:=some dx) (AB (AM (AB ?_)))
 refine wpAny_nsSet1 (s:={ s with toks:=s.toks+1 }) I.ns λh' xD wQ=>?_
 obtain⟨oD,esD,epD,hoD,hdD,hcD⟩:=xD.count (vw name v hw);refine AB (wpAny_lookBehind hoD (by rw[hdD];exact pastItsLine_dict (Am hcD (by rw[At];lia))) ?_);exact AM (h _ ⟨(wQ.2 _ (Bs I.ne)).trans I.obj,xD,I.ne⟩ wQ)
theorem iL(X:K.In s.heap)(hm:ed K C=true)
  (hi:Dq K (.ref C) "__init__" = some (some (.ref f))) (hf:PySem.W.typeIn K (.ref f)=some (.type "function"))
  (h:ND (Ao prog w) (A.under (.builtin "type.__call__" ⟨.ref C :: vs,kw⟩)) (.call (.ref f) ⟨.ref (s.heap.objs.size+1) :: vs,kw⟩) (PySem.W.InitBack (s.heap.objs.size+1) R)
   { s with heap:=(s.heap.push DN).push (Ec C s.heap.objs.size) }) :
  ND (Ao prog w) A (.call (.ref C) ⟨vs,kw⟩) R s:=by
 obtain⟨hh,g,d,t,os⟩:=s;exact PySem.W.make_core (PySem.W.makes_of X hm) (PySem.W.looks_findIn X hi) (λself=>PySem.W.bind_fn X self hf) (.inl rfl) h
end
def putF(f:Str)(v:V):List (Str×V)->List (Str×V)
 | []=>[(f,v)]
 | (g,x) :: r=>if g=f then(g,v) :: r else(g,x) :: putF f v r
theorem RU(f g:Str)(v:V):∀fs:List (Str×V),(putF f v fs).lookup g=if g=f then some v else fs.lookup g
 | []=>by
  show JK g [(f,v)]=_
  by_cases h:g=f
  ·have hb:(g==f)=true:=beq_iff_eq.mpr h
   simp only[JK,hb,qX h]
  ·have hb:(g==f)=false:=beq_eq_false_iff_ne.mpr h
   simp only[JK,hb,qY h]
 | (k,x) :: r=>by
  have ih:=RU f g v r;rw[show putF f v ((k,x) :: r)=(if k=f then(k,v) :: r else(k,x) :: putF f v r)from rfl]
  by_cases hk:k=f
  ·rw[qX hk]
   by_cases h:g=k
   ·have hb:(g==k)=true:=beq_iff_eq.mpr h
    simp only[JK,hb,qX (h.trans hk)]
   ·have hb:(g==k)=false:=beq_eq_false_iff_ne.mpr h
    simp only[JK,hb,qY (λe:g=f=>h (e.trans hk.symm))]
  ·rw[qY hk]
   by_cases h:g=k
   ·have hb:(g==k)=true:=beq_iff_eq.mpr h
    simp only[JK,hb,qY (λe:g=f=>hk (h.symm.trans e))]
   ·have hb:(g==k)=false:=beq_eq_false_iff_ne.mpr h
    simp only[JK,hb];exact ih
theorem Q2(f:Str)(v:V):∀fs:List (Str×V),f∈(putF f v fs).map (·.1)/\∀g,g∈fs.map (·.1)->g∈(putF f v fs).map (·.1)
 | []=>⟨by simp[putF],λg h=>by simp at h⟩
 | (k,x) :: r=>by
  obtain⟨i1,i2⟩:=Q2 f v r;rw[show putF f v ((k,x) :: r)=(if k=f then(k,v) :: r else(k,x) :: putF f v r)from rfl]
  by_cases hk:k=f
  ·rw[qX hk]
   subst hk;exact⟨by simp,λg h=>by simpa using h⟩
  ·rw[qY hk]
   refine⟨?_,λg h=>?_⟩
   ·rw[BC]
    exact AS _ i1
   ·rw[BC]at h ⊢
    rcases AZ.mp h with e | e
    ·exact AZ.mpr (.inl e)
    ·exact AS _ (i2 g e)
theorem RW(f:Str)(v:V):∀fs:List (Str×V),(putF f v fs).length<=fs.length+1
 | []=>by simp[putF]
 | (k,x) :: r=>by
  have ih:=RW f v r;rw[show putF f v ((k,x) :: r)=(if k=f then(k,v) :: r else(k,x) :: putF f v r)from rfl]
  by_cases hk:k=f
  ·rw[qX hk,At,At];lia
  ·rw[qY hk,At,At];lia
theorem Oa.some_of(r:Oa (some v) o):∃u,o=some u/\RelV v u:=by
 cases o with
 | none=>exact(show False from r).elim
 | some u=>exact⟨u,rfl,r⟩
theorem Oa.none_of(r:Oa none o):o=none:=by
 cases o with
 | none=>rfl
 | some u=>exact(show False from r).elim
theorem dm(r:RelV v u):cS u=true:=by
 cases v with
 | non=>cases(show u=D0 from r);rfl
 | bl b=>cases(show u=Pc b from r);rfl
 | int i=>obtain⟨t,e⟩:=(show ∃t,u=Rb i t from r);cases e;rfl
 | str x=>obtain⟨t,e⟩:=(show ∃t,u=Ra x t from r);cases e;rfl
 | byt b=>obtain⟨t,e⟩:=(show ∃t,u=tK b t from r);cases e;rfl
 | flt b=>obtain⟨t,e⟩:=(show ∃t,u=ZQ b t from r);cases e;rfl
 | ref a=>cases(show u=BM a from r);rfl
 | ty n=>cases(show u=GY n from r);rfl
section
variable{P:Bh}{w:CH}{H:Hp}{h:C9}{a C dx:AW}{fs:List (Str×V)}
theorem SN(hok:HOk P w H h)(e:H a=some (.ins C dx fs)):∃mA,ai h a dx C mA/\(∀f,Oa (fs.lookup f) (mA f))/\Xh mA (fs.map (·.1))/\fs.length<=1000/\H dx=some (.own a):=by
 obtain⟨d,z,ne,ob,mA,n,r,q⟩:=(show DE P w H h a (.ins C dx fs)from hok a _ e);exact⟨mA,⟨ob,n,ne⟩,r,q,z,d⟩
end
structure Cls(K:AG)(C:AW):Prop where
 pg:LV K C Str.empty=true
 hd:Pe K C=true
 po:ao K C=true
 sa:Dq K (.ref C) "__setattr__" = some (some (.builtin "object.__setattr__"))
theorem Cls.get{K}{C}(c:Cls K C)(f:Str):LV K C f=true:=c.pg
def Fb(K:AG)(C:AW)(f:Str):Prop:=Dq K (.ref C) f=some none
theorem Fb.taker{K}{C}{f}(n:Fb K C f):Re K C f=some none:=by
 unfold Re;rw[show Dq K (.ref C) f=some none from n];rfl
structure VQ(K:AG)(C:AW)(m:Str)(f:AW):Prop where
 at_:Dq K (.ref C) m=some (some (.ref f))
 fn:WA K (.ref f)=true
 kp:Ft K (.ref f)=true
section
variable{X:Cx}{ζ:List (AW×Obj)}{σ:St}{H:Hp}{s:AR}{a C dx:AW}{fs:List (Str×V)}{f:Str}{v:V}{A:CM}{E:AI->AR->Prop}
theorem aN(I:Inv X ζ σ H s)(e:H a=some (.ins C dx fs))(c:Cls X.K C)(n:Fb X.K C f)(l:fs.lookup f=some v)
  (h:∀u s',Inv X ζ σ H s'->RelV v u->Q u s'):Af (Ao X.prog X.w) A (getAttr (.ref a) f b) Q E s:=by
 obtain⟨mA,O,r,_,_,_⟩:=SN I.hok e;obtain⟨u,hu,ru⟩:=Oa.some_of (v:=v) (o:=mA f) (by rw[<-l];exact r f);exact nC I.kIn O (c.get f) c.hd n hu (dm ru) (h u _ (I.tok _) ru)
theorem aM(I:Inv X ζ σ H s)(e:H a=some (.ins C dx fs))(c:Cls X.K C)(k:VQ X.K C m g)(l:fs.lookup m=none)
  (h:Q (.ref g,[.ref a]) s):Af (Ao X.prog X.w) A (eX (.ref a) m pl) Q E s:=by
 obtain⟨mA,O,r,_,_,_⟩:=SN I.hok e;have hn:mA m=none:=Oa.none_of (by rw[<-l];exact r m);exact iu I.kIn O (c.get m) k.at_ k.fn hn h
theorem Zr(I:Inv X ζ σ H s)(e:H a=some (.ins C dx fs))(c:Cls X.K C)(n:Fb X.K C f)(hl:fs.length < 1000)(ry:RelV y u)
  (h:∀s',Inv X ζ σ (upd H a (.ins C dx (putF f y fs))) s'->Q () s'):Af (Ao X.prog X.w) A (setAttr (.ref a) f u) Q E s:=by
 obtain⟨mA,O,r,wi,_,ho⟩:=SN I.hok e
 have hz:(fs.map (·.1)).length<=sizeLine:=by rw[AF,jv];lia
 refine lQ I.kIn O c.sa c.po n.taker c.hd wi hz λh' O' sb=>h _ ?_
 have hd:∃o,h'.get? dx=some o:=let ⟨o,_,_,e',_⟩:=O'.ns;⟨o,e'⟩
 refine I.write (x:=a) (e:=dx) (by rw[e];exact FK) (.inr ho) (λb q hb z=>(sb.2 b hb).trans z) hd ?_;refine⟨by rw[Bi O.ne];exact ho,?_,O.ne,O'.obj,_,O'.ns,λg=>?_,λg hg=>?_⟩
 ·have:=RW f y fs;lia
 ·show Oa ((putF f y fs).lookup g) (if g=f then some u else mA g)
  rw[RU]
  by_cases q:g=f
  ·rw[qX q,qX q];exact ry
  ·rw[qY q,qY q];exact r g
 ·by_cases q:g=f
  ·rw[q];exact(Q2 f y fs).1
  ·refine(Q2 f y fs).2 g (wi g λz=>hg ?_)
   show(if g=f then some u else mA g)=none;rw[qY q];exact z
theorem Inv.made(I:Inv X ζ σ H s):Inv X ζ σ (upd (upd H s.heap.objs.size (.own (s.heap.objs.size+1))) (s.heap.objs.size+1) (.ins C s.heap.objs.size []))
  { s with heap:=(s.heap.push DN).push (Ec C s.heap.objs.size) }:=by
 have e1:(s.heap.push DN).get? s.heap.objs.size=some DN:=Ad s.heap rfl
 have e2:((s.heap.push DN).push (Ec C s.heap.objs.size)).get? (s.heap.objs.size+1)=some (Ec C s.heap.objs.size):=by
  have:=Ad (s.heap.push DN) (o:=Ec C s.heap.objs.size) rfl;rwa [C0]at this
 have e3:(s.heap.push DN).Ns s.heap.objs.size (λ_=>none):=⟨DN,#[],_,e1,rfl,(λe he=>zX he (by simp)),λ_=>rfl⟩;have I1:=I.laid (a:=s.heap.objs.size) (o:=.own (s.heap.objs.size+1)) (h':=s.heap.push DN) (t':=s.toks) (λb u q=>AN _ q) (AL _) ⟨_,e1⟩;refine I1.laid (a:=s.heap.objs.size+1) (o:=.ins C s.heap.objs.size []) (t':=s.toks) (λb u q=>AN _ q) (tu (C0 _ _)) ?_;have ne:s.heap.objs.size≠s.heap.objs.size+1:=BF (DL _);refine⟨by rw[Bi ne,B0],Dz _,ne,e2,λ_=>none,(C9.Ns1.of_empty e3).at λo q=>AN _ q,λ_=>FK,λy hy=>zX rfl hy⟩
theorem nj(hb:ID e f env (Cc e env)=Cc e env)
  (h:Af (Ao prog w) A (Cc e env) (λo s₁=>Af (Ao prog w) A (getAttr o f true) Q E s₁) E s):Af (Ao prog w) A (Cc (.Attribute e f pos) env) Q E s:=
 Attribute_any_ h (by rw[arm_eval_Attribute,hb])
end
def tFld(K:AG)(ta:TE)(f:Str):TE:=λσ H Q=>ta σ H λx H1=>∃a C dx fs v,x=.ref a/\H1 a=some (.ins C dx fs)/\Cls K C/\Fb K C f/\fs.lookup f=some v/\Q v H1
def sFld(K:AG)(ta tv:TE)(f:Str):TS:=λD σ H=>tv σ H λy H1=>ta σ H1 λx H2=>∃a C dx fs,x=.ref a/\H2 a=some (.ins C dx fs)/\Cls K C/\Fb K C f/\fs.length < 1000 /\
 D.nx σ (upd H2 a (.ins C dx (putF f y fs)))
section
variable{X:Cx}{o e value:Expr}{f:Str}{pos pos':Pos}{ta tv:TE}
theorem qo(he:PE X e ta)(hb:ID e f X.env (Cc e X.env)=Cc e X.env):PE X (.Attribute e f pos) (tFld X.K ta f):=by
 intro ζ s σ H Q I h;refine nj hb (thn (he ζ s σ H _ I h) λu s1 ⟨x,H1,I1,rx,a,C,dx,fs,v,ex,ea,c,n,l,q⟩=>?_);subst ex;obtain rfl:u=BM a:=rx
 exact aN I1 ea c n l λu' s2 I2 ru=>⟨v,H1,I2,ru,q⟩
theorem qZ(ha:PE X o ta)(hv:PE X value tv)(hs:HJ value (some (.Attribute o f pos')) pos.line X.env=pure false):PS X (.Assign [.Attribute o f pos'] value pos) (sFld X.K ta tv f):=by
 intro ζ s σ H D I h;refine plainObj_wpAny_Assign_Attribute (thn (hv ζ s σ H _ I h) λu s1 ⟨y,H1,I1,ry,q⟩=>thn (ha ζ s1 σ H1 _ I1 q) λov s2 ⟨x,H2,I2,rx,a,C,dx,fs,ex,ea,c,n,l,q2⟩=>?_) hs;subst ex;obtain rfl:ov=BM a:=rx
 exact Zr I2 ea c n l ry λs3 I3=>⟨σ,_,I3,q2⟩
end
section
variable{X:Cx}{ζ:List (AW×Obj)}{σ:St}{H:Hp}{s:AR}{A:CM}{E:AI->AR->Prop}{Q:AI->AR->Prop}{c:AI}{b:Bool}
inductive QP(K:AG)(H:Hp):V->AI->Prop where
 | non:QP K H .non (.type "NoneType")
 | bl (x:Bool):QP K H (.bl x) (.type "bool")
 | int (i:Int):QP K H (.int i) (.type "int")
 | str (x:Str):QP K H (.str x) (.type "str")
 | flt (x:UInt64):QP K H (.flt x) (.type "float")
 | lst {a:AW} {xs:List V} (e:H a=some (.lst xs)):QP K H (.ref a) (.type "list")
 | frz {a:AW} {o:Obj} {xs:List V} (e:H a=some (.frz o (.lst xs))):QP K H (.ref a) (.type "list")
 | tup {a:AW} {xs:List V} (e:H a=some (.tup xs)):QP K H (.ref a) (.type "tuple")
 | dK {a:AW} {f':List (Key×V)} (e:H a=some (.dK f')):QP K H (.ref a) (.type "dict")
 | dT {a:AW} {f':List (List Key×V)} (e:H a=some (.dT f')):QP K H (.ref a) (.type "dict")
 | ins {a C dx:AW} {fs:List (Str×V)} (e:H a=some (.ins C dx fs)) (cl:Cls K C) (ha:Dq K (.ref C) "__class__" = some (some (.builtin "object.__class__")))
   (hn:PySem.W.specialIn K (.builtin "object.__class__") "__get__" = some (some (.builtin "getset_descriptor.__get__"))) (htk:PySem.W.takesIn K (.builtin "object.__class__")=some true)
   (hm:PySem.W.mroIn K C (.type "object")=some true):QP K H (.ref a) (.ref C)
theorem df(I:Inv X ζ σ H s)(rx:RelV x u)(ty:QP X.K H x t)(e:Fs X.K t c=some b)(h:∀tk,Q (.bool b) { s with toks:=tk }) :
  Af (Ao X.prog X.w) A (call (.builtin "isinstance") [u,c]) Q E s:=by
 cases ty with
 | non=>cases(show u=D0 from rx);exact Cy PySem.W.kitx_none I.kIn FK e (λz=>nomatch z) h
 | bl y=>cases(show u=Pc y from rx);exact Cy PySem.W.kitx_bool I.kIn FK e (λz=>nomatch z) h
 | int i=>obtain⟨t,q⟩:=(show ∃t,u=Rb i t from rx);cases q;exact Cy PySem.W.kitx_int I.kIn FK e (λz=>nomatch z) h
 | str y=>obtain⟨t,q⟩:=(show ∃t,u=Ra y t from rx);cases q;exact Cy PySem.W.kitx_str I.kIn FK e (λz=>nomatch z) h
 | flt y=>obtain⟨t,q⟩:=(show ∃t,u=ZQ y t from rx);cases q;exact Cy PySem.W.kitx_float I.kIn FK e (λz=>nomatch z) h
 | @lst a xs ea=>
  cases(show u=BM a from rx);obtain⟨_,_,n,_,h1⟩:=(show DE X.prog X.w H s.heap a (.lst xs)from I.hok a _ ea);exact Cy ap I.kIn ⟨_,h1,rfl⟩ e (λz=>nomatch z) h
 | @frz a ob xs ea=>
  cases(show u=BM a from rx);obtain⟨_,_,_,n,_,h1⟩:=(show DE X.prog X.w H s.heap a (.frz ob (.lst xs))from I.hok a _ ea);exact Cy ap I.kIn ⟨_,h1,rfl⟩ e (λz=>nomatch z) h
 | @tup a xs ea=>
  cases(show u=BM a from rx);obtain⟨_,_,_,p⟩:=(show DE X.prog X.w H s.heap a (.tup xs)from I.hok a _ ea);obtain⟨o,h1,h2,_⟩:=p;exact Cy PySem.W.kitx_tuple I.kIn ⟨o,h1,h2⟩ e (λz=>nomatch z) h
 | @dK a f' ea=>
  cases(show u=BM a from rx);obtain⟨_,_,vs,_,p⟩:=(show DE X.prog X.w H s.heap a (.dK f')from I.hok a _ ea);obtain⟨o,es,ep,h1,h2,_⟩:=p;exact Cy aq I.kIn ⟨o,h1,h2.1⟩ e (λz=>nomatch z) h
 | @dT a f' ea=>
  cases(show u=BM a from rx);obtain⟨_,_,xs,_,o,es,ep,h1,h2,_⟩:=(show DE X.prog X.w H s.heap a (.dT f')from I.hok a _ ea);exact Cy aq I.kIn ⟨o,h1,h2.1⟩ e (λz=>nomatch z) h
 | @ins a C dx fs ea cl ha hn htk hm=>
  cases(show u=BM a from rx);obtain⟨mA,O,_⟩:=SN I.hok ea;obtain⟨od,J,_⟩:=O.look;exact Cy (PySem.W.kitx_own (cl.get _) cl.hd ha hn htk hm) I.kIn J e (λz=>nomatch z) h
end
structure IE(k:Nat)(A:CM):Prop where
 hd:A.handled=none
 dp:A.depth+3 * k+5 < recursionLimit
 un:A.units+16 * k+200 < E4
theorem IE.mono(r:IE k A)(h:j<=k):IE j A:=⟨r.hd,by have:=r.dp;lia,by have:=r.un;lia⟩
theorem IE.deeper(r:IE (k+1) A)(env:Env):IE k (A.deeper env):=
 ⟨r.hd,by have:=r.dp;show A.depth+1+3 * k+5 < _;lia,by have:=r.un;show A.units+3+16 * k+200 < _;lia⟩
theorem aD{A:CM}{C:AW}{us:List AI}{kw:List (Str×AI)}:(A.under (.builtin "type.__call__" ⟨.ref C :: us,kw⟩)).depth=A.depth+1:=by
 first | rfl | simp[Xd,Code.weight,Code.isCreation,Code.isGuard,Code.isCaller,tz,ZF,guardIds]
theorem aC{A:CM}{C:AW}{us:List AI}{kw:List (Str×AI)}:(A.under (.builtin "type.__call__" ⟨.ref C :: us,kw⟩)).units=A.units+1:=by
 first | rfl | simp[Xd,Code.cUnits,tz,ZF]
theorem IE.make{k}{A}(r:IE (k+1) A)(C:AW)(us:List AI)(kw:List (Str×AI)):IE k (A.under (.builtin "type.__call__" ⟨.ref C :: us,kw⟩)):=
 ⟨r.hd,by have:=r.dp;rw[aD];lia,by have:=r.un;rw[aC];lia⟩
theorem IE.depth(r:IE k A):A.depth < recursionLimit:=by have:=r.dp;lia
theorem IE.units(r:IE k A):A.units+64 < E4:=by have:=r.un;lia
def tNil:TA:=λ_ H Q=>Q [] H
def uO(ta:TE)(tr:TA):TA:=λσ H Q=>ta σ H λx H1=>tr σ H1 λxs H2=>Q (x :: xs) H2
section
variable{X:Cx}{e:Expr}{es:List Expr}{te:TE}{t:TA}{pos:Pos}
theorem JG:PA X [] tNil:=λ_ _ _ _ H Q I h=>Calls.spliced_nil ⟨[],H,I,.nil,h⟩
theorem Gb(ha:PE X e te)(hr:PA X es t)(hs:AY (e :: es) X.env=(false,Cc e X.env) :: AY es X.env:=by rfl):PA X (e :: es) (uO te t):=by
 intro pos ζ s σ H Q I h;rw[hs];show Af _ _ (spliced ((false,Cc e X.env) :: D6 pos (AY es X.env))) _ _ s;refine Calls.spliced_cons (thn (ha ζ s σ H _ I h) λu s1 ⟨x,H1,I1,r1,q1⟩=>?_)
 exact thn (hr pos ζ s1 σ H1 _ I1 q1) λus s2 ⟨xs,H2,I2,r2,q2⟩=>⟨x :: xs,H2,I2,.cons r1 r2,q2⟩
def tTup(t:TA):TE:=λσ H Q=>t σ H λxs H1=>xs.length<=sizeLine/\∀p,H1 p=none->Q (.ref p) (upd H1 p (.tup xs))
def tLst(t:TA):TE:=λσ H Q=>t σ H λxs H1=>xs.length<=sizeLine/\∀p,H1 p=none->Q (.ref p) (upd H1 p (.lst xs))
theorem qh{x1}(h:PA X es t):PE X (.Tuple es x1 pos) (tTup t):=by
 intro ζ s σ H Q I hq;refine wpAny_Tuple_spliced (thn (h pos ζ s σ H _ I hq) λus s1 ⟨xs,H1,I1,r,z,q⟩=>⟨by rw[<-r.length];exact z,?_⟩);have hf:H1 s1.heap.objs.size=none:=I1.hok.fresh (AL _);refine⟨.ref s1.heap.objs.size,upd H1 s1.heap.objs.size (.tup xs),I1.laid (t':=s1.toks) (λb u e=>AN _ e) (AL _) ?_,rfl,q _ hf⟩;exact⟨⟨z,⟨_,Ad _ rfl,rfl⟩⟩,us,r,⟨_,Ad _ rfl,rfl,_,rfl⟩⟩
theorem qm(h:PA X es t):PE X (.List es pos) (tLst t):=by
 intro ζ s σ H Q I hq;refine wpAny_List_spliced (thn (h pos ζ s σ H _ I hq) λus s1 ⟨xs,H1,I1,r,z,q⟩=>⟨by rw[<-r.length];exact z,?_⟩);have hf:H1 s1.heap.objs.size=none:=I1.hok.fresh (AL _);refine⟨.ref s1.heap.objs.size,upd H1 s1.heap.objs.size (.lst xs),I1.laid (t':=s1.toks) (λb u e=>AN _ e) (AL _) ?_,rfl,q _ hf⟩;exact⟨z,us,0,r,Ad _ rfl⟩
end
abbrev Sp:=List V->Hp->VK->XK->Prop
abbrev CXT:=List Env->Hp->AR->XK->AI->AR->Prop
structure aj(P:Bh)(w:CH)(K:AG)(mg:Str->Option AI)(base:C9)(A:CM)(outer:List Env)(s:AR)(H:Hp):Prop where
 frames:A.frames=some outer
 mod:Mod K mg base
 bs:∀b o,base.get? b=some o->s.heap.get? b=some o/\H b=none
 bsz:base.objs.size<=s.heap.objs.size
 funs:s.heap.FunFrames base outer
 frf:∀b∈frs outer,H b=none
 hok:HOk P w H s.heap
 bare:LY s.gens
def CE(outer:List Env)(P:Bh)(w:CH)(H:Hp)(s:AR)(Q:VK)(u:AI)(s':AR):Prop:=
 ∃v H',s'.os=s.os/\LY s'.gens/\Un (frs outer) [] H H' s.heap s'.heap/\HOk P w H' s'.heap/\RelV v u/\Q v H'
def CR(CX:CXT)(outer:List Env)(P:Bh)(w:CH)(H:Hp)(s:AR)(Q:VK)(E:XK)(r:Result)(s':AR):Prop:=
 match r with
 | .ok (.ret u)=>CE outer P w H s Q u s'
 | .ok _=>False
 | .error e=>CX outer H s E e s'
structure Cq(P:Bh)(w:CH)(K:AG)(mg:Str->Option AI)(base:C9)(CX:CXT)(k:Nat)(f:AW)(fd:Lz)(ps:List Str)(sp:Sp):Prop where
 len:∀vs H Q E,sp vs H Q E->vs.length=ps.length
 run:∀(A:CM) (outer:List Env) (s:AR) (H:Hp) (args:Args) (us:List AI) (vs:List V) (Q:VK) (E:XK),IE k A->aj P w K mg base A outer s H->ZG s fd args (ps.zip us)->Bw vs us->sp vs H Q E ->
  ND (Ao P w) A (.call (.ref f) args) (CR CX outer P w H s Q E) s
theorem Cq.imp{P}{w}{K}{mg}{base}{CX}{k}{f}{fd}{ps}{sp sp'}(F:Cq P w K mg base CX k f fd ps sp)
  (h:∀vs H Q E,sp' vs H Q E->sp vs H Q E):Cq P w K mg base CX k f fd ps sp':=
 ⟨λvs H Q E q=>F.len vs H Q E (h _ _ _ _ q),λA outer s H args us vs Q E hr he hb hv hs=>F.run A outer s H args us vs Q E hr he hb hv (h _ _ _ _ hs)⟩
theorem aj.make{P}{w}{K}{mg}{base}{A}{outer}{s}{H}(e:aj P w K mg base A outer s H)(C:AW)(us:List AI)(kw:List (Str×AI)) :
  aj P w K mg base (A.under (.builtin "type.__call__" ⟨.ref C :: us,kw⟩)) outer s H:=⟨by first | exact e.frames | (simpa[Xd,Code.envs,ZF,pushEnvs]using e.frames),e.mod,e.bs,e.bsz,e.funs,e.frf,e.hok,e.bare⟩
section
variable{X:Cx}{ζ:List (AW×Obj)}{σ:St}{H:Hp}{s s':AR}
theorem Inv.env0(I:Inv X ζ σ H s):aj X.prog X.w X.K X.mg X.base X.A X.stack s H:=
 ⟨I.ok.frames,I.ok.mod,I.bs,Am I.ok.bsz I.sz,I.stack,I.stkFree,I.hok,I.bare⟩
theorem Inv.after(I:Inv X ζ σ H s)(h:CE X.stack X.prog X.w H s Q u s'):EP X ζ σ Q u s':=by
 obtain⟨v,H',os,bare,un,hok,r,q⟩:=h;obtain⟨hh,g,d,t,os'⟩:=s';obtain rfl:os'=s.os:=os;exact⟨v,H',I.call (h':=hh) (g':=g) (d':=d) (t':=t) (ch:=[]) un hok bare (λb z=>zX z (by simp)),r,q⟩
end
def uP(sp:Sp)(xw:List V)(E:St->XK)(t:TA):TE:=λσ H Q=>t σ H λvs H1=>sp (vs++xw) H1 Q (E σ)
def oQ(C:AW)(m:Str)(sp:Sp)(xw:List V)(E:St->XK)(ta:TE)(t:TA):TE:=λσ H Q=>ta σ H λx H1=>∃a dx fs,x=.ref a/\H1 a=some (.ins C dx fs)/\fs.lookup m=none /\
 t σ H1 λvs H2=>sp (x :: (vs++xw)) H2 Q (E σ)
def uK(C:AW)(sp:Sp)(xw:List V)(E:St->XK)(t:TA):TE:=λσ H Q=>t σ H λvs H1=>∀x dx,H1 x=none->H1 dx=none->dx≠x ->
 sp (.ref x :: (vs++xw)) (upd (upd H1 dx (.own x)) x (.ins C dx [])) (λv H2=>v=.non/\Q (.ref x) H2) (E σ)
def Binds(K:AG)(fd:Lz)(ps:List Str)(ds:List AI):Prop:=
 ∀(s:AR) (us:List AI),K.In s.heap->(us++ds).length=ps.length->ZG s fd ⟨us,[]⟩ (ps.zip (us++ds))
theorem Binds.all{K}{fd}{ps}(h:∀us:List AI,us.length=ps.length->j4 fd ⟨us,[]⟩=pure (ps.zip us)):Binds K fd ps []:=λs us _ hl=>by
 rw[CG]at hl ⊢;exact .of_eq (h us hl)
def Mw(CX:CXT)(X:Cx)(E:St->XK):Prop:=∀(ζ:List (AW×Obj)) (σ:St) (H:Hp) (s:AR) (e:AI) (s':AR),Inv X ζ σ H s->CX X.stack H s (E σ) e s'->X.xe e s'
section
variable{X:Cx}{k:Nat}{f C:AW}{fd:Lz}{ps:List Str}{sp:Sp}{E:St->XK}{x m:Str}{p pos apos:Pos}{e o:Expr}{es:List Expr}{ta:TE}{t:TA}
theorem gf(F:Cq X.prog X.w X.K X.mg X.base CX k f fd ps sp)(hr:IE k X.A)(hb:Binds X.K fd ps ds)(hd:Bw xw ds)(hx:Mw CX X E)
  (I:Inv X ζ σ H s) (r:Bw vs us) (h:sp (vs++xw) H Q (E σ)):Af (Ao X.prog X.w) X.A (call (.ref f) us) (EP X ζ σ Q) X.xe s:=by
 have r2:Bw (vs++xw) (us++ds):=r.append hd
 have hl:(us++ds).length=ps.length:=by rw[<-r2.length];exact F.len _ _ _ _ h
 refine oy (LU (F.run X.A X.stack s H ⟨us,[]⟩ (us++ds) (vs++xw) Q (E σ) hr I.env0 (hb s us I.kIn hl) r2 h) λr s' hq=>?_)
 cases r with
 | error e=>exact hx ζ σ H s e s' I hq
 | ok fl=>
  cases fl with
  | ret u=>exact I.after hq
  | next=>exact Eu hq
  | brk=>exact Eu hq
  | cont=>exact Eu hq
theorem mK(F:Cq X.prog X.w X.K X.mg X.base CX k f fd ps sp)(hr:IE k X.A)(hg:Gl X x)(hm:X.mg x=some (.ref f))(hk:Ft X.K (.ref f)=true)(hb:Binds X.K fd ps ds)(hd:Bw xw ds)(hx:Mw CX X E)
  (ha:PA X (e :: es) t) (xu:(x==("__debug__" : Str))=false:=by decide) (he:AY (e :: es) X.env=(false,Cc e X.env) :: AY es X.env:=by rfl) (wI:(D6 pos (AY es X.env)).any (·.1)=false:=by rfl) :
  PE X (.Call (.Name x p) (e :: es) [] pos) (uP sp xw E t):=by
 intro ζ s σ H Q I h;refine II (W5 I hg hm ?_ xu);refine Ot (h₀:=X.base) I.ok.mod.kin hk (thn (ha pos ζ s σ H _ I h) λus s1 ⟨vs,H1,I1,r,q⟩=>⟨I1.kIn,?_⟩) he wI;exact gf F hr hb hd hx I1 r q
theorem mE(he:PE X o ta)(c:Cls X.K C)(hm:VQ X.K C m f)(F:Cq X.prog X.w X.K X.mg X.base CX k f fd ps sp)(hr:IE k X.A)(hb:Binds X.K fd ps ds)(hd:Bw xw ds)(hx:Mw CX X E)(ha:PA X (e :: es) t)
  (yH:AY (e :: es) X.env=(false,Cc e X.env) :: AY es X.env:=by rfl) (wI:(D6 pos (AY es X.env)).any (·.1)=false:=by rfl)
  (ht:Cc (.Call (.Attribute o m apos) (e :: es) [] pos) X.env=(do
   let ov <-Cc o X.env
   ZC apos.atName
   let (f,fts) <-Oq [ov] (eX ov m pl)
   j3 pos f fts (D6 pos (AY (e :: es) X.env)) (KM pos (Fm [] X.env))):=by rfl) :
  PE X (.Call (.Attribute o m apos) (e :: es) [] pos) (oQ C m sp xw E ta t):=by
 intro ζ s σ H Q I h;refine PySem.W.methodCall_KW (pl:=pl) (thn (he ζ s σ H _ I h) λu s1 ⟨x,H1,I1,rx,a,dx,fs,ex,ea,l,q⟩=>?_) ht;subst ex;obtain rfl:u=BM a:=rx;refine aM I1 ea c hm l ?_;refine Ot (first:=[.ref a]) (h₀:=X.base) I.ok.mod.kin hm.kp (thn (ha pos ζ s1 σ H1 _ I1 q) λus s2 ⟨vs,H2,I2,r,q2⟩=>⟨I2.kIn,?_⟩) yH wI;exact gf (us:=.ref a :: us) (vs:=.ref a :: vs) F hr hb hd hx I2 (.cons rfl r) q2
structure Mk(K:AG)(C f:AW):Prop where
 makes:ed K C=true
 init:Dq K (.ref C) "__init__" = some (some (.ref f))
 fn:WA K (.ref f)=true
 kp:Ft K (.ref C)=true
theorem ge(M:Mk X.K C f)(F:Cq X.prog X.w X.K X.mg X.base CX k f fd ps sp)(hr:IE (k+1) X.A)(hb:Binds X.K fd ps ds)(hd:Bw xw ds)
  (hx:Mw CX X E) (I:Inv X ζ σ H s) (r:Bw vs us)
  (h:∀x dx,H x=none->H dx=none->dx≠x->sp (.ref x :: (vs++xw)) (upd (upd H dx (.own x)) x (.ins C dx [])) (λv H2=>v=.non/\Q (.ref x) H2) (E σ)) :
  Af (Ao X.prog X.w) X.A (call (.ref C) us) (EP X ζ σ Q) X.xe s:=by
 have hq:=h (s.heap.objs.size+1) s.heap.objs.size (I.hok.fresh (JS _)) (I.hok.fresh (AL _)) (BF (DL _));have I2:=Inv.made (C:=C) I;have r2:Bw (V.ref (s.heap.objs.size+1) :: (vs++xw)) (BM (s.heap.objs.size+1) :: (us++ds)):=.cons rfl (r.append hd)
 have hl:(BM (s.heap.objs.size+1) :: us++ds).length=ps.length:=by
  have e:=r2.length;rw[F.len _ _ _ _ hq]at e;exact e.symm
 refine oy (iL (f:=f) I.kIn M.makes M.init (beq_iff_eq.mp M.fn) (LU (F.run _ X.stack _ _ ⟨BM (s.heap.objs.size+1) :: us,[]⟩ (BM (s.heap.objs.size+1) :: (us++ds)) _ _ (E σ) (hr.make C us [])
  (I2.env0.make C us []) (hb _ (BM (s.heap.objs.size+1) :: us) I2.kIn hl) r2 hq) λr s' Z'=>?_))
 cases r with
 | error e=>exact hx ζ σ _ _ e s' I2 Z'
 | ok fl=>
  cases fl with
  | ret u=>
   obtain⟨v,H',I3,rv,ev,q3⟩:=I2.after Z';subst ev;exact⟨rv,⟨V.ref (s.heap.objs.size+1),H',I3,rfl,q3⟩⟩
  | next=>exact Eu Z'
  | brk=>exact Eu Z'
  | cont=>exact Eu Z'
theorem mF(M:Mk X.K C f)(F:Cq X.prog X.w X.K X.mg X.base CX k f fd ps sp)(hr:IE (k+1) X.A)(hg:Gl X x)(hm:X.mg x=some (.ref C))(hb:Binds X.K fd ps ds)(hd:Bw xw ds)(hx:Mw CX X E)
  (ha:PA X (e :: es) t) (xu:(x==("__debug__" : Str))=false:=by decide) (he:AY (e :: es) X.env=(false,Cc e X.env) :: AY es X.env:=by rfl) (wI:(D6 pos (AY es X.env)).any (·.1)=false:=by rfl) :
  PE X (.Call (.Name x p) (e :: es) [] pos) (uK C sp xw E t):=by
 intro ζ s σ H Q I h;refine II (W5 I hg hm ?_ xu);refine Ot (h₀:=X.base) I.ok.mod.kin M.kp (thn (ha pos ζ s σ H _ I h) λus s1 ⟨vs,H1,I1,r,q⟩=>⟨I1.kIn,?_⟩) he wI;exact ge M F hr hb hd hx I1 r q
end
structure BZ(N P:List Str)(sc:Ul):Prop where
 kind:sc.kind=.function
 co:sc.isCoroutine=false
 gen:sc.isGenerator=false
 nd:N.Nodup
 pre:N.take P.length=P
 par:∀x∈P,sc.names.lookup x=some .local∨sc.names.lookup x=some .cell
 nofree:∀y∈sc.names,y.2≠.free
theorem V1{kindOf}{x}:∀{binds:List (Str×AI)} {m:Str->Option AI},(∀v,(x,v)∉binds)->eY kindOf binds m x=m x
 | [],_,_=>rfl
 | (n,v) :: r,m,h=>by
  unfold eY;rw[V1 λw hw=>h w (AS _ hw)];split
  ·have:x≠n:=by rintro rfl;exact h v AT
   simp[this]
  ·rfl
theorem V3{kindOf}{x}:∀{binds:List (Str×AI)} {m:Str->Option AI},(∀v,(x,v)∉binds)->eZ kindOf binds m x=m x
 | [],_,_=>rfl
 | (n,v) :: r,m,h=>by
  unfold eZ;rw[V3 λw hw=>h w (AS _ hw)];split
  ·rfl
  ·have:x≠n:=by rintro rfl;exact h v AT
   simp[this]
theorem V2{kindOf}{x}{v}:∀{P:List Str} {vs:List AI} {i:Nat} {m:Str->Option AI},P.Nodup->P[i]?=some x->vs[i]?=some v->kindOf x=some .local ->
  eY kindOf (P.zip vs) m x=some v
 | [],_,_,_,_,h,_,_=>by simp at h
 | _ :: _,[],_,_,_,_,h,_=>by simp at h
 | p :: P,w :: vs,0,m,nd,h1,h2,hk=>by
  simp at h1 h2;subst h1;subst h2;show eY kindOf ((p,w) :: P.zip vs) m p=_;unfold eY;rw[V1 λv hv=>(Bd.mp nd).1 (Jc hv).1,qX hk];simp
 | p :: P,w :: vs,i+1,m,nd,h1,h2,hk=>by
  show eY kindOf ((p,w) :: P.zip vs) m x=_;unfold eY;exact V2 (i:=i) (Bd.mp nd).2 (by simpa using h1) (by simpa using h2) hk
theorem V4{kindOf}{x}{v}:∀{P:List Str} {vs:List AI} {i:Nat} {m:Str->Option AI},P.Nodup->P[i]?=some x->vs[i]?=some v->kindOf x≠some .local ->
  eZ kindOf (P.zip vs) m x=some v
 | [],_,_,_,_,h,_,_=>by simp at h
 | _ :: _,[],_,_,_,_,h,_=>by simp at h
 | p :: P,w :: vs,0,m,nd,h1,h2,hk=>by
  simp at h1 h2;subst h1;subst h2;show eZ kindOf ((p,w) :: P.zip vs) m p=_;unfold eZ;rw[V3 λv hv=>(Bd.mp nd).1 (Jc hv).1,qY hk];simp
 | p :: P,w :: vs,i+1,m,nd,h1,h2,hk=>by
  show eZ kindOf ((p,w) :: P.zip vs) m x=_;unfold eZ;exact V4 (i:=i) (Bd.mp nd).2 (by simpa using h1) (by simpa using h2) hk
def start(N:List Str)(vs:List V):St:=vs.map some++Bt (N.length - vs.length) none
def aT(CX:CXT)(P:Bh)(w:CH)(K:AG)(mg:Str->Option AI)(base:C9)(N:List Str)(qual:Str)(scope:Ul)(f:AW)(cd:AI)(A:CM)(outer:List Env)(s:AR)(H:Hp)(E:XK):Cx where
 prog:=P
 w:=w
 K:=K
 mg:=mg
 base:=base
 A:=A.deeper (Os qual scope s.heap.objs.size f cd)
 N:=N
 s₀:=s
 H₀:=H
 env:=Os qual scope s.heap.objs.size f cd
 outer:=outer
 stack:=Os qual scope s.heap.objs.size f cd :: outer
 ex:=[]
 calm:=true
 fn:=λ_=>true
 pn:=[]
 xe:=λe s'=>Af (Ao P w) (A.deeper (Os qual scope s.heap.objs.size f cd)) (leaving (Os qual scope s.heap.objs.size f cd) e) (λ_ s''=>CX outer H s E e s'') (λe' s''=>CX outer H s E e' s'') s'
theorem Y2{sc:Ul}{n:Nat}{x:Str}(h:sc.names.lookup x=some .cell):∃c,(CT n sc.names []).lookup x=some c:=by
 have q:=WB sc.names n [] (.inl h);exact Dm.mp q
theorem di{CX:CXT}{P:Bh}{w:CH}{K:AG}{mg:Str->Option AI}{base:C9}{N ps:List Str}{qual:Str}{scope:Ul}{f:AW}{cd:AI}{A:CM}{outer:List Env}{s s1:AR}{H:Hp}{E:XK}{us:List AI}{vs:List V}
  (S:BZ N ps scope) (hd:A.handled=none) (e0:aj P w K mg base A outer s H) (hl:vs.length=ps.length) (r:Bw vs us)
  (x:InCallC s s.heap.objs.size (eY (Os qual scope s.heap.objs.size f cd).kindOf (ps.zip us) λ_=>none) (CT (s.heap.objs.size+1) scope.names []) (eZ (Os qual scope s.heap.objs.size f cd).kindOf (ps.zip us) λ_=>none) s1) :
  Inv (aT CX P w K mg base N qual scope f cd A outer s H E) [] (start N vs) H s1:=by
 have wI:ps.length<=N.length:=by have:=congrArg Oe S.pre;rw[DI]at this;lia
 obtain⟨h1,tk,rfl,hk⟩:=x.done
 have Α:∀b:AW,b∉(aT CX P w K mg base N qual scope f cd A outer s H E).ex:=λb z=>zX (show b∈([]:List AW)from z) (by simp)
 refine⟨⟨e0.mod,S.kind,rfl,rfl,AL _,λy z c h1 h2=>?_,λy hy=>?_,λy c _ h=>?_,λ_=>hd,CM.frames_deeper e0.frames,.inr ⟨rfl,rfl⟩,λb z=>zX z (Α b),e0.bs,e0.bsz,λb _ _=>Α b,λb z=>zX z (Α b),e0.funs,e0.frf⟩,
  rfl,e0.bare,Un.kept hk,⟨_,x.toInCall.ns,λi y v h1 h2 h3=>?_⟩,λy c h=>⟨_,x.cell y c h⟩,e0.hok.fresh (AL _),λy c h=>?_,λp hp=>zX (show p∈([]:List (AW×Obj))from hp) (by simp),e0.hok.kept hk,?_⟩
 ·exact name_of_addr x.apart (D7 h1) (D7 h2)
 ·have hy:scope.names.lookup y=some .cell∨scope.names.lookup y=some .free:=hy
  rcases hy with hy | hy
  ·exact Y2 hy
  ·exact zX rfl (S.nofree _ (D7 hy))
 ·exact NI (x.above y c (D7 h))
 ·have hi:i < vs.length:=by
   unfold start at h2
   by_cases hi:i < vs.length
   ·exact hi
   ·rw[Bf (by simpa using hi)]at h2
    rw[D2]at h2
    split at h2 <;> cases h2
  have ha:vs[i]?=some v:=by
   unfold start at h2;rw[BA (by simpa using hi),Ab]at h2
   cases e:vs[i]? with
   | none=>rw[e]at h2;cases h2
   | some a=>rw[e]at h2;cases h2;rfl
  obtain⟨u,hu,rv⟩:=r.get ha
  have hp:ps[i]?=some y:=by
   rw[<-S.pre,List.getElem?_take_of_lt (by lia)];exact h1
  have ndP:ps.Nodup:=by rw[<-S.pre];exact S.nd.sublist (fC _ _)
  refine⟨u,rv,?_⟩
  rcases S.par y (Aq hp)with k | k
  ·exact .inl ⟨k,V2 ndP hp hu k⟩
  ·obtain⟨c,e⟩:=Y2 (n:=s.heap.objs.size+1) k
   refine .inr ⟨.inl k,c,e,?_⟩;have q:=x.cell y c e;rw[V4 ndP hp hu (by show scope.names.lookup y≠_;rw[k];decide)]at q;exact q
 ·exact e0.hok.fresh (NI (x.above y c (D7 h)))
 ·unfold start
  show _=N.length;rw[Ag,AF,OD]
  lia
theorem vV{CX}{P}{w}{K}{mg}{base}{k}{f}{name qual}{params}{body}{scope}{dV kV doc pm wg ct oc}{an od}
  {yc} {N ps} {sp} (lk:K.lookup f=some ⟨oc,od,.func (JR name qual params body scope dV kV doc pm an wg ct),yc⟩) (xT:Sb K wg qual=true) (S:BZ N ps scope)
  (len:∀vs H Q E,sp vs H Q E->vs.length=ps.length)
  (xx:∀(A:CM) (outer:List Env) (s:AR) (H:Hp) (vs:List V) (Q:VK) (E:XK),IE k (A.deeper (Os qual scope s.heap.objs.size f wg))->sp vs H Q E ->
   ∃t,PSs (aT CX P w K mg base N qual scope f wg A outer s H E) body t/\t { nx:=λ_ H'=>Q .non H',rt:=Q } (start N vs) H) :
  Cq P w K mg base CX (k+1) f (JR name qual params body scope dV kV doc pm an wg ct) ps sp:=by
 refine⟨len,λA outer s H args us vs Q E hr e0 hb r zW=>?_⟩;have hl:=len _ _ _ _ zW
 have KX:K.In s.heap:=e0.mod.kin.keeps λb o e=>(e0.bs b o e).1
 have lim:s.heap.NoLimit:=e0.mod.nolimit.keeps λb o e=>(e0.bs b o e).1
 have Β:∀y∈ps.zip us,scope.names.lookup y.1=some .local∨(scope.names.lookup y.1=some .cell/\((CT (s.heap.objs.size+1) scope.names []).lookup y.1).isSome=true):=λ⟨n,v⟩ hy=>by
  rcases S.par n (Jc hy).1 with q | q
  ·exact .inl q
  ·exact .inr ⟨q,WB _ _ _ (.inl q)⟩
 refine codeAny_call_function hr.depth (KX _ _ lk) rfl S.co S.gen rfl (PySem.W.codeRec_of KX xT) (hb _ _ _ _ ?_)
 refine wpAny_newFunctionEnv_cells S.kind Β λenv he s1 x=>?_
 subst he;refine⟨lim.keeps x.toInCall.keep,codeAny_func ?_⟩;obtain⟨t,ht,hq⟩:=xx A outer s H vs Q E (hr.deeper _) zW;have I:Inv (aT CX P w K mg base N qual scope f wg A outer s H E) [] (start N vs) H s1:=di S hr.hd e0 hl r x
 refine Em (ht [] s1 (start N vs) H _ I hq) (λfl s' hs=>?_) λe s' hs=>hs
 have fin:∀{σ':St} {H':Hp} {v:V} {u:AI},Inv (aT CX P w K mg base N qual scope f wg A outer s H E) [] σ' H' s'->RelV v u->Q v H'->CE outer P w H s Q u s':=
  λ{σ' H' v u} J rv q=>⟨v,H',J.os,J.bare,J.base,J.hok,rv,q⟩
 cases fl with
 | ret u=>
  obtain⟨v,σ',H',J,rv,q⟩:=hs;exact fin J rv q
 | next=>
  obtain⟨σ',H',J,q⟩:=hs;exact fin (v:=V.non) (u:=D0) J rfl q
 | brk=>
  obtain⟨_,_,_,q⟩:=hs;exact Eu q
 | cont=>
  obtain⟨_,_,_,q⟩:=hs;exact Eu q
section
variable{X:Cx}{x:Str}{p pos:Pos}{e:Expr}{es:List Expr}{t:TA}{id T:String}{r:List V->Hp->VK->Prop}
def tCB(r:List V->Hp->VK->Prop)(t:TA):TE:=λσ H Q=>t σ H λvs H1=>r vs H1 Q
theorem NZ(hc:KI X (.builtin id) r)(hg:Gl X x)(hm:X.mg x=none)(hv:Fo x=some (.builtin id))(ha:PA X (e :: es) t)(hn:x≠"__name__":=by decide) (xu:(x==("__debug__" : Str))=false:=by decide)
  (he:AY (e :: es) X.env=(false,Cc e X.env) :: AY es X.env:=by rfl) (wI:(D6 pos (AY es X.env)).any (·.1)=false:=by rfl):PE X (.Call (.Name x p) (e :: es) [] pos) (tCB r t):=by
 intro ζ s σ H Q I h;refine II (Nl I hg hm hv ?_ hn xu);exact vy (thn (ha pos ζ s σ H _ I h) λus s1 ⟨vs,H1,I1,r1,q1⟩=>hc ζ s1 σ H1 vs us Q I1 r1 q1) he wI
theorem Qs(hc:KI X (.type T) r)(hg:Gl X x)(hm:X.mg x=none)(hv:Fo x=some (.type T))(ha:PA X (e :: es) t)(hn:x≠"__name__":=by decide) (xu:(x==("__debug__" : Str))=false:=by decide)
  (he:AY (e :: es) X.env=(false,Cc e X.env) :: AY es X.env:=by rfl) (wI:(D6 pos (AY es X.env)).any (·.1)=false:=by rfl):PE X (.Call (.Name x p) (e :: es) [] pos) (tCB r t):=by
 intro ζ s σ H Q I h;refine II (Nl I hg hm hv ?_ hn xu);exact Dw (thn (ha pos ζ s σ H _ I h) λus s1 ⟨vs,H1,I1,r1,q1⟩=>hc ζ s1 σ H1 vs us Q I1 r1 q1) he wI
end
end L2
namespace HT
open PySem PyProof.Rows
def lexLt:List Int->List Int->Bool
 | [],[]=>false
 | [],_ :: _=>true
 | _ :: _,[]=>false
 | x :: xs,y :: ys=>if x=y then lexLt xs ys else decide (x < y)
theorem aH(x y:Int)(xs ys:List Int):lexLt (x :: xs) (y :: ys)=if x=y then lexLt xs ys else decide (x < y):=rfl
theorem VJ:lexLt [] []=false:=rfl
theorem UA(y:Int)(ys:List Int):lexLt [] (y :: ys)=true:=rfl
theorem UB(x:Int)(xs:List Int):lexLt (x :: xs) []=false:=rfl
theorem jI(A:CM)(s:AR)(a:Int)(t:Tok)(c:Int)(u:Tok):∃e,SeqAt.EqAt A s (.int a t) (.int c u) e/\(e=true↔a=c):=
 ⟨(a==c),SeqAt.EqAt.int_int a t c u,by simp⟩
theorem gj(A:CM)(s:AR)(a:Int)(t:Tok)(c:Int)(u:Tok)(prog:Bh)(w:CH)(E:AI->AR->Prop)(Q:AI->AR->Prop)(h:Q (.bool (decide (a < c))) s) :
  Af (Ao prog w) A (jy .Lt (.int a t) (.int c u)) Q E s:=
 (vx h:Af (Ao prog w) A (B2 .Lt (.int a t) (.int c u)) Q E s)
section
open PySem.SeqAt
open PySem.AutoSeq1 (wpAny_loadPart')
open PySem.MeetsSeq PySem.MeetsSeq2 PySem.MeetsSeq3
theorem Uu(l b:AW)(items wj:Array AI)(n n2:Nat)(dd yZ:Option AW)(sl za:Array (Option AI))(ns ms:List Int)(hi:EF items.toList ns)(hj:EF wj.toList ms) :
  Meets (RM.«tuple.__lt__» ⟨[.ref l,.ref b],[]⟩)
   (λ_ R s=>s.heap.get? l=some { cls:=.type "tuple",dict:=dd,data:=.seq items n,slots:=sl }/\s.heap.get? b=some { cls:=.type "tuple",dict:=yZ,data:=.seq wj n2,slots:=za } /\
    R (.ok (.ret (.bool (lexLt ns ms)))) s):=
 .of_wp λprog w A R s h=>by
  obtain⟨hp,g,d,tk,os⟩:=s;obtain⟨hl,hb,h⟩:=h;have f2:=AutoSeq1.sub_tuple_tuple
  have z1:items.size=ns.length:=by rw[<-hi.length];simp
  have z2:wj.size=ms.length:=by rw[<-hj.length];simp
  wp_walk using Dk hl,Dk hb,wpAny_forIn_list _ (λrest b s'=>b.1=none/\s'=⟨hp,g,d,tk,os⟩/\∃(vs ws:List AI) (zY zZ:List Int),rest=vs.zip ws /\
   EF vs zY/\EF ws zZ/\zY.length+wj.size=zZ.length+items.size/\R (.ok (.ret (.bool (lexLt zY zZ)))) ⟨hp,g,d,tk,os⟩) _
  case turn=>
   rintro⟨y,x⟩ rest b s' ⟨wc,rfl,vs,ws,zY,zZ,hz,hvi,hwi,hlen,hR⟩
   cases hvi with
   | nil=>rw[fB]at hz;cases hz
   | cons a t hvi'=>
    cases hwi with
    | nil=>rw[HN]at hz;cases hz
    | cons c u hwi'=>
     rw[FL]at hz
     injection hz with hyx hrest
     injection hyx with hy hx
     subst hy hx;rw[aH]at hR;simp only[At]at hlen;obtain⟨e,he,Γ⟩:=jI A.in1 ⟨hp,g,d,tk,os⟩ a t c u;refine AB (he prog w _ _ ?_)
     cases e with
     | true=>
      rw[qX (Γ.mp rfl)]at hR
      wp_walk
      exact⟨rfl,rfl,_,_,_,_,hrest,hvi',hwi',by lia,hR⟩
     | false=>
      rw[qY (λq=>zX (Γ.mpr q) AK)]at hR;have hri:=gj A.in1 ⟨hp,g,d,tk,os⟩ a t c u prog w
      wp_walk using hri
      exact⟨_,rfl,by simpa using hR⟩
  case fin=>
   rintro⟨b1,b2⟩ s' ⟨wc,rfl,vs,ws,zY,zZ,hz,hvi,hwi,hlen,hR⟩;simp only at wc;subst wc
   have hv:lexLt zY zZ=decide (items.size < wj.size):=by
    cases hvi with
    | nil=>
     cases hwi with
     | nil=>
      simp only[Fd]at hlen;rw[VJ];exact(wY (by lia)).symm
     | cons c u hw=>
      simp only[Fd,At]at hlen;rw[UA];exact(wX (by lia)).symm
    | cons a t hv=>
     cases hwi with
     | nil=>
      simp only[Fd,At]at hlen;rw[UB];exact(wY (by lia)).symm
     | cons c u hw=>
      rw[FL]at hz;cases hz
   rw[hv]at hR
   wp_walk
   exact⟨_,rfl,by simpa[t5]using hR⟩
  case h=>
   exact⟨rfl,rfl,items.toList,wj.toList,ns,ms,rfl,hi,hj,by lia,h⟩
end
section
variable{prog:Bh}{w:CH}{A:CM}{E:AI->AR->Prop}{s:AR}
theorem aF(hl:ZU s.heap l items)(hb:ZU s.heap b wj)(hi:EF items.toList ns)(hj:EF wj.toList ms)
  (hu:A.units < E4) (h:Q (.bool (lexLt ns ms)) s):Af (Ao prog w) A (B2 .Lt (.ref l) (.ref b)) Q E s:=by
 obtain⟨⟨cls,dd,data,sl⟩,ho,hc,n,hd⟩:=id hl;obtain⟨⟨cls2,yZ,data2,za⟩,ho2,hc2,n2,hd2⟩:=id hb;simp only at hc hd hc2 hd2;subst hc hd hc2 hd2
 exact richCompare_meets_room (op:=.Lt) ⟨_,ho,rfl⟩ ⟨_,ho2,rfl⟩ PySem.F.slot_tuple_lt PySem.F.entry_tuple_lt (PySem.F.args_tuple_lt_2 _ _) (Uu l b items wj n n2 dd yZ sl za ns ms hi hj)
  ⟨ho,ho2,show Pc (lexLt ns ms)≠AI.notImplemented/\Q (.bool (lexLt ns ms)) s from⟨(λx=>nomatch x),h⟩⟩ hu
theorem nZ(ht:ZU s.heap t vs.toArray)(hb:ZU s.heap b ws.toArray)(hv:vs≠[])
  (h1:ws=[]->Q (.ref t) s) (h2:ws≠[]->Q (.ref s.heap.objs.size) { s with heap:=s.heap.push { cls:=.type "tuple",data:=.seq (vs++ws).toArray } })
  (hsz:vs.length+ws.length<=sizeLine):Af (Ao prog w) A (Cw .Add (.ref t) (.ref b)) Q E s:=by
 obtain⟨⟨cls,dd,data,sl⟩,ho,hc,n,hd⟩:=id ht;obtain⟨⟨cls2,yZ,data2,za⟩,ho2,hc2,n2,hd2⟩:=id hb;simp only at hc hd hc2 hd2;subst hc hd hc2 hd2
 have e:vs.toArray++ws.toArray=(vs++ws).toArray:=by simp
 by_cases hw:ws=[]
 ·exact fA ⟨_,ho,rfl⟩ ⟨_,ho2,rfl⟩ V9 cO Lx LW (Kp _ _)
   (tuple_addW1 t b vs.toArray ws.toArray n n2 dd yZ sl za (by simpa using hv) (by simp[hw])) ⟨ho,ho2,h1 hw⟩
 ·refine fA ⟨_,ho,rfl⟩ ⟨_,ho2,rfl⟩ V9 cO Lx LW (Kp _ _)
   (tuple_addW2 t b vs.toArray ws.toArray n n2 dd yZ sl za (by simpa using hv) (by simpa using hw) (by rw[Ah,Ah];exact hsz)) ⟨ho,ho2,?_⟩
  rw[e];exact h2 hw
def sIx(n d:Nat):Option Int->Nat
 | none=>d
 | some v=>if v < 0 then(v+(n:Int)).toNat else min v.toNat n
theorem YI(n d:Nat):sIx n d none=d:=rfl
theorem bP(n d k:Nat):sIx n d (some (k:Int))=min k n:=by
 show(if (k:Int) < 0 then((k:Int)+(n:Int)).toNat else min (k:Int).toNat n)=min k n;rw[qY (by lia),Ak]
theorem qN(n d:Nat)(hd:d<=n)(o:Option Int):sIx n d o<=n:=by
 cases o with
 | none=>exact hd
 | some v=>
  show(if v < 0 then(v+(n:Int)).toNat else min v.toNat n)<=n
  by_cases hv:v < 0
  ·rw[qX hv];lia
  ·rw[qY hv];exact j5 _ _
theorem cG(v:Int)(n d:Nat):(if v < 0 then max (v+(n:Int)) 0 else min v (n:Int))=((sIx n d (some v):Nat):Int):=by
 show(if v < 0 then max (v+(n:Int)) 0 else min v (n:Int))=(((if v < 0 then(v+(n:Int)).toNat else min v.toNat n):Nat):Int)
 by_cases hv:v < 0
 ·simp only[qX hv];lia
 ·simp only[qY hv];lia
theorem ae(lo hi:Option Int)(n:Nat):JD lo hi 1 (n:Int)=(((sIx n 0 lo:Nat):Int),((sIx n n hi:Nat):Int)):=by
 have h1:¬((1:Int) < 0):=by lia
 unfold JD;simp only[h1,if_false];refine au ?_ ?_
 ·cases lo with
  | none=>rfl
  | some v=>exact cG v n 0
 ·cases hi with
  | none=>rfl
  | some v=>exact cG v n n
theorem Z0(i j:Nat):Fe (i:Int) (j:Int) 1=j - i:=by
 unfold Fe
 have h1:(1:Int) > 0:=by lia
 simp only[h1,if_true,Int.ediv_one]
 split <;> lia
theorem TQ(p:Qb v o)(h:Q o s):Af (Ao prog w) A (t6 v) Q E s:=by
 cases p with
 | none=>exact slicePart_none h
 | int i t=>exact slicePart_int h
theorem Lb{sl:AW}{vl vu:AI}{lo hi:Option Int}{n:Nat}{Q:Int×Int×Nat->AR->Prop}(hs:s.heap.IsSliceOf sl vl vu .none)(pl:Qb vl lo)(pu:Qb vu hi)
  (h:Q (((sIx n 0 lo:Nat):Int),1,sIx n n hi - sIx n 0 lo) s):Af (Ao prog w) A (Pj (.ref sl) (pure (n:Int))) Q E s:=by
 obtain⟨os,yI,hcs,Δ⟩:=id hs;unfold Pj t7;refine AB (AB (HB yI Δ (x:=vl) rfl (AB (HB yI Δ (x:=vu) rfl (AB (HB yI Δ (x:=.none) rfl (AM ?_)))))));refine AB (slicePart_none ?_);show Af _ _ (if ((1:Int)==0)=true then _ else _) _ _ s;rw[qY (by decide)];refine AB (TQ pl (AB (TQ pu (AB (AM ?_)))));show Af _ _ (match JD lo hi 1 (n:Int)with | (lo,hi)=>pure (lo,(1:Int),Fe lo hi 1)) _ _ s;rw[ae lo hi n];show Af _ _ (pure (((sIx n 0 lo:Nat):Int),(1:Int),Fe ((sIx n 0 lo:Nat):Int) ((sIx n n hi:Nat):Int) 1)) _ _ s;rw[Z0];exact AM h
theorem gu(xs:Array AI)(i k:Nat):((D4 k).filterMap λ(m:Nat)=>xs[((i:Int)+(m:Int) * 1).toNat]?).toArray=((xs.toList.drop i).take k).toArray:=by
 have e:(λ(m:Nat)=>xs[((i:Int)+(m:Int) * 1).toNat]?)=λm=>xs[i+m]?:=by
  funext m
  have:((i:Int)+(m:Int) * 1).toNat=i+m:=by lia
  rw[this]
 rw[e];have:=pick_run xs i k;rw[List.filterMap_map]at this
 have e2:((λx=>xs[x]?)∘λx=>i+x)=λm=>xs[i+m]?:=rfl
 rw[e2]at this;rw[this]
theorem QB{t sl}{items}{vl vu}{lo hi}{Q}(ht:ZU s.heap t items)(hs:s.heap.IsSliceOf sl vl vu .none)(pl:Qb vl lo)(pu:Qb vu hi)
  (hw:¬(sIx items.size 0 lo=0/\sIx items.size items.size hi=items.size))
  (h:Q (.ref s.heap.objs.size) { s with heap:=s.heap.push { cls:=.type "tuple",data:=.seq ((items.toList.drop (sIx items.size 0 lo)).take (sIx items.size items.size hi - sIx items.size 0 lo)).toArray } })
  (hsz:items.size<=sizeLine):Af (Ao prog w) A (LS (.ref t) (.ref sl)) Q E s:=by
 have xI:sizeOk (.seq ((items.toList.drop (sIx items.size 0 lo)).take (sIx items.size items.size hi - sIx items.size 0 lo)).toArray):=by
  show((items.toList.drop (sIx items.size 0 lo)).take (sIx items.size items.size hi - sIx items.size 0 lo)).toArray.size<=sizeLine;rw[Ah,DI,E6,CF];omega
 have hj:sIx items.size items.size hi<=items.size:=qN _ _ (AL _) hi;obtain⟨os,yI,hcs,Δ⟩:=id hs;have hTs:s.TypeIs (.ref sl) "slice":=⟨os,yI,hcs⟩;unfold LS
 try with_reducible refine E8 ?_
 first | refine AB (AM ?_) | skip
 refine AB (su ht.typeIs (by decide) ?_)
 refine AB (Ci (name:=Gs "__getitem__") ht.typeIs CY
  (DT CY ht.typeIs oE ?_ (pD _ _)))
 show Af _ _ (Pi (.ref t) >>= _) _ _ s;refine AB (tupleItemsOf_ ht ?_);refine AB (Ug hTs ?_);rw[qX (by decide)];refine AB (Lb hs pl pu ?_)
 have hno:¬((((sIx items.size 0 lo:Nat):Int)==0&&(1:Int)==1&&(sIx items.size items.size hi - sIx items.size 0 lo)==items.size)=true):=by
  intro q;rw[Ck,Ck]at q;have q1:((sIx items.size 0 lo:Nat):Int)=0:=eq_of_beq q.1.1;have q2:sIx items.size items.size hi - sIx items.size 0 lo=items.size:=eq_of_beq q.2;exact hw ⟨by lia,by omega⟩
 show Af _ _ (if (((sIx items.size 0 lo:Nat):Int)==0&&(1:Int)==1&&(sIx items.size items.size hi - sIx items.size 0 lo)==items.size)=true then _ else _) _ _ s;rw[qY hno,gu]
 first
  | exact AB (m:=Fy _) (Ch (AM ⟨_,rfl,AM h⟩) xI)
  | exact AB (m:=Fy _) (Ch (AB (AM (AM ⟨_,rfl,AM h⟩))) xI)
  | exact AB (AB (m:=Fy _) (Ch (AM (AM ⟨_,rfl,AM h⟩)) xI))
  | exact AB (AB (m:=Fy _) (Ch (AM ⟨_,rfl,AM h⟩) xI))
end
end HT
namespace L2
open PySem PySem.Spec PyProof.Rows
section
abbrev TO:=St->Hp->(Option Int->Hp->Prop)->Prop
def PO(X:Cx)(e:Option Expr)(t:TO):Prop:=
 ∀(ζ:List (AW×Obj)) (s:AR) (σ:St) (H:Hp) (Q:Option Int->Hp->Prop),Inv X ζ σ H s->t σ H Q ->
  Af (Ao X.prog X.w) X.A (evalPart e X.env) (λu s'=>∃o H',Inv X ζ σ H' s'/\Qb u o/\Q o H') X.xe s
def lF:TO:=λ_ H Q=>Q none H
def uH(t:TE):TO:=λσ H Q=>t σ H λx H1=>∃i,x=.int i/\Q (some i) H1
theorem intsAre_of:∀{us:List AI},Bw (ns.map V.int) us->EF us ns:=by
 induction ns with
 | nil=>intro us r;rw[RK]at r;cases r;exact .nil
 | cons n ns ih=>
  intro us r;rw[BC]at r
  cases r with
  | cons r1 r2=>
   obtain⟨t,e⟩:=r1;subst e;exact .cons n t (ih r2)
section
variable{κ:Type}[DecidableEq κ]
def L8(f':List (κ×V))(k:κ):Option V:=(f'.find? λkv=>decide (kv.1=k)).map (·.2)
def M4(f':List (κ×V))(k:κ)(v:V):List (κ×V):=
 if (f'.any λkv=>decide (kv.1=k))=true then f'.map (λkv=>if kv.1=k then(kv.1,v)else kv)else f'++[(k,v)]
theorem S6{p:κ×V}{r:List (κ×V)}{k:κ}(e:p.1=k):L8 (p :: r) k=some p.2:=by simp[L8,CV,e]
theorem S7{p:κ×V}{r:List (κ×V)}{k:κ}(e:¬p.1=k):L8 (p :: r) k=L8 r k:=by simp[L8,CV,e]
theorem X2(k:κ):∀f':List (κ×V),(f'.any λkv=>decide (kv.1=k))=(L8 f' k).isSome
 | []=>rfl
 | p :: r=>by
  rw[JC]
  by_cases e:p.1=k
  ·simp only[S6 e,wX e,Bool.true_or,av]
  ·rw[S7 e,wY e,pJ];exact X2 k r
theorem RV(f':List (κ×V))(k:κ)(v:V):(M4 f' k v).length<=f'.length+1:=by
 unfold M4;split
 ·rw[AF];lia
 ·rw[Ag,At,Fd];lia
theorem Oa.isSome_eq(r:Oa o u):o.isSome=u.isSome:=by
 cases o with
 | none=>cases u with
  | none=>rfl
  | some _=>exact(show False from r).elim
 | some _=>cases u with
  | none=>exact(show False from r).elim
  | some _=>rfl
theorem KV.val{f':List (κ×V)}{vs:List (κ×AI)}(r:KV f' vs)(k:κ):Oa (L8 f' k) (Ui vs k):=by
 unfold KV at r
 induction r with
 | nil=>exact FK
 | @cons p q ps qs h t ih=>
  obtain⟨h1,h2⟩:=h
  by_cases e:p.1=k
  ·have e':q.1=k:=h1.symm.trans e
   have b:Ui (q :: qs) k=some q.2:=by simp[Ui,CV,e']
   rw[S6 e,b];exact h2
  ·have e':¬q.1=k:=λz=>e (h1.trans z)
   have b:Ui (q :: qs) k=Ui qs k:=by simp[Ui,CV,e']
   rw[S7 e,b];exact ih
theorem KV.any(r:KV f' vs)(k:κ):(f'.any λkv=>decide (kv.1=k))=vs.any λkv=>decide (kv.1=k):=by
 unfold KV at r
 induction r with
 | nil=>rfl
 | cons h t ih=>rw[JC,JC,ih,h.1]
theorem KV.repl(r:KV f' vs)(k:κ)(ry:RelV y u) :
  KV (f'.map λkv=>if kv.1=k then(kv.1,y)else kv) (vs.map λkv=>if kv.1=k then(kv.1,u)else kv):=by
 unfold KV at r ⊢
 induction r with
 | nil=>exact .nil
 | @cons p q ps qs h t ih=>
  rw[BC,BC];refine .cons ?_ ih;obtain⟨h1,h2⟩:=h
  by_cases e:p.1=k
  ·rw[qX e,qX (h1.symm.trans e)];exact⟨h1,ry⟩
  ·rw[qY e,qY (λz=>e (h1.trans z))];exact⟨h1,h2⟩
theorem KV.put(r:KV f' vs)(k:κ)(ry:RelV y u):KV (M4 f' k y) (stored vs k u):=by
 unfold M4 stored;rw[r.any k]
 by_cases e:(vs.any λkv=>decide (kv.1=k))=true
 ·rw[qX e,qX e];exact r.repl k ry
 ·rw[qY e,qY e];exact ZE r ⟨rfl,ry⟩
theorem KV.length(r:KV f' vs):f'.length=vs.length:=FT r
end
theorem Yo(r:RelV (kV k) u):(Ew P w).is k u=true:=by
 cases k with
 | inl i=>obtain⟨t,e⟩:=(show ∃t,u=Rb i t from r);subst e;exact Yh P w i t
 | inr x=>obtain⟨t,e⟩:=(show ∃t,u=Ra x t from r);subst e;exact Yg P w x t
theorem Vq:∀{ks:List Key} {us:List AI},Bw (ks.map kV) us->ItemsAre (Ew P w) ks us
 | [],_,r=>by rw[RK]at r;cases r;exact .nil
 | k :: ks,_,r=>by
  rw[BC]at r
  cases r with
  | cons h t=>exact .cons (Yo h) (Vq t)
abbrev KT(H:Hp):List (List Key×V)->List (List Key×AW×AI)->Prop:=HC λp q=>p.1=q.1/\H q.2.1=some (.tup (p.1.map kV))/\RelV p.2 q.2.2
theorem KT.val{H:Hp}{f':List (List Key×V)}{xs:List (List Key×AW×AI)}(r:KT H f' xs)(k:List Key):Oa (L8 f' k) ((ZO xs k).map (·.2)):=by
 induction r with
 | nil=>exact FK
 | @cons p q ps qs h t ih=>
  obtain⟨h1,_,h2⟩:=h
  by_cases e:p.1=k
  ·have e':q.1=k:=h1.symm.trans e
   have b:ZO (q :: qs) k=some q.2:=by simp[ZO,CV,e']
   rw[S6 e,b];exact h2
  ·have e':¬q.1=k:=λz=>e (h1.trans z)
   have b:ZO (q :: qs) k=ZO qs k:=by simp[ZO,CV,e']
   rw[S7 e,b];exact ih
theorem KT.repl(r:KT H f' xs)(k:List Key)(ry:RelV y u) :
  KT H (f'.map λkv=>if kv.1=k then(kv.1,y)else kv) (xs.map (putAt k u)):=by
 induction r with
 | nil=>exact .nil
 | @cons p q ps qs h t ih=>
  rw[BC,BC];refine .cons ?_ ih;obtain⟨h1,h2,h3⟩:=h;unfold putAt
  by_cases e:p.1=k
  ·rw[qX e,qX (h1.symm.trans e)];exact⟨h1,h2,ry⟩
  ·rw[qY e,qY (λz=>e (h1.trans z))];exact⟨h1,h2,h3⟩
theorem KT.put(r:KT H f' xs)(k:List Key)(hb:H b=some (.tup (k.map kV)))(ry:RelV y u) :
  KT H (M4 f' k y) (storedH xs k b u):=by
 have e:(f'.any λkv=>decide (kv.1=k))=(ZO xs k).isSome:=by
  rw[X2,(r.val k).isSome_eq,IB]
 unfold M4 storedH;rw[e]
 by_cases q:(ZO xs k).isSome=true
 ·rw[qX q,qX q];exact r.repl k ry
 ·rw[qY q,qY q];exact ZE r ⟨rfl,hb,ry⟩
theorem KT.keeps(r:KT H f' xs)(ht:∀b ys,H b=some (.tup ys)->H' b=some (.tup ys)):KT H' f' xs:=
 HC.mapP r λ_ _ z=>⟨z.1,ht _ _ z.2.1,z.2.2⟩
variable{X:Cx}{e:Expr}{lo hi:Option Expr}{pos p2:Pos}
theorem ls:PO X none lF:=by
 intro ζ s σ H Q I h;rw[evalPart_none];exact AM ⟨none,H,I,.none,h⟩
theorem lr(h:PE X e te):PO X (some e) (uH te):=by
 intro ζ s σ H Q I hw;rw[evalPart_some]
 refine thn (h ζ s σ H _ I hw) λu s1 ⟨x,H1,I1,r1,q1⟩=>?_
 obtain⟨i,rfl,q⟩:=q1;obtain⟨t,rfl⟩:=r1;exact⟨some i,H1,I1,.int i t,q⟩
def SlR(X:Cx)(r:V->Option Int->Option Int->Hp->VK->Prop):Prop:=
 ∀(ζ:List (AW×Obj)) (s:AR) (σ:St) (H:Hp) (x:V) (v vl vu:AI) (lo hi:Option Int) (sl:AW) (Q:VK),Inv X ζ σ H s->RelV x v->s.heap.IsSliceOf sl vl vu .none->Qb vl lo->Qb vu hi->r x lo hi H Q ->
  ∃T id,o0 (.type T) "__getitem__" = pure (some (.builtin id))/\s.TypeIs v T/\Af (Ao X.prog X.w) X.A (LS v (.ref sl)) (EP X ζ σ Q) X.xe s
theorem SlR.or(h:SlR X r)(h':SlR X r'):SlR X (λx lo hi H Q=>r x lo hi H Q∨r' x lo hi H Q):=by
 intro ζ s σ H x v vl vu lo hi sl Q I rx hs pl pu q
 rcases q with q | q
 ·exact h ζ s σ H x v vl vu lo hi sl Q I rx hs pl pu q
 ·exact h' ζ s σ H x v vl vu lo hi sl Q I rx hs pl pu q
def tSl(r:V->Option Int->Option Int->Hp->VK->Prop)(te:TE)(tl th:TO):TE:=λσ H Q=>te σ H λx H1=>tl σ H1 λl H2=>th σ H2 λu H3=>r x l u H3 Q
theorem YU(hr:SlR X r)(he:PE X e te)(hl:PO X lo tl)(hu:PO X hi th):PE X (.Subscript e (.Slice lo hi none p2) pos) (tSl r te tl th):=by
 intro ζ s σ H Q I h;refine pE (thn (he ζ s σ H _ I h) λv s1 ⟨x,H1,I1,r1,q1⟩=>?_);refine wpAny_Slice (thn (hl ζ s1 σ H1 _ I1 q1) λvl s2 ⟨l,H2,I2,pl,q2⟩=>thn (hu ζ s2 σ H2 _ I2 q2) λvu s3 ⟨u,H3,I3,pu,q3⟩=>?_);rw[evalPart_none];refine AM ?_
 have I4:Inv X ζ σ H3 { s3 with heap:=s3.heap.push { cls:=.type "slice",data:=.fields #[vl,vu,.none] } }:=I3.kept (t':=s3.toks) λb ob q=>AN _ q
 obtain⟨T,id,hT,ht,hg⟩:=hr ζ { s3 with heap:=s3.heap.push { cls:=.type "slice",data:=.fields #[vl,vu,.none] } } σ H3 x v vl vu l u s3.heap.objs.size Q I4 r1 (tT ..) pl pu q3;show Af (Ao X.prog X.w) X.A (cN e (.Slice lo hi none p2) v (.ref s3.heap.objs.size)) (EP X ζ σ Q) X.xe { s3 with heap:=s3.heap.push { cls:=.type "slice",data:=.fields #[vl,vu,.none] } };exact tail_any (ops:=[.ref s3.heap.objs.size,v]) ht hT hg (by with_unfolding_all rfl)
def R5(xs:List V)(lo hi:Option Int):List V:=(xs.drop (HT.sIx xs.length 0 lo)).take (HT.sIx xs.length xs.length hi - HT.sIx xs.length 0 lo)
theorem RZ(xs:List V)(lo hi:Option Int):(R5 xs lo hi).length<=xs.length:=by
 unfold R5;rw[DI,E6]
 lia
def rSlT(K:AG):V->Option Int->Option Int->Hp->VK->Prop:=λx lo hi H Q=>∃a xs,x=.ref a/\SqT K H a xs /\
 ¬(HT.sIx xs.length 0 lo=0/\HT.sIx xs.length xs.length hi=xs.length)/\∀p,H p=none->Q (.ref p) (upd H p (.tup (R5 xs lo hi)))
theorem gc:SlR X (rSlT X.K):=by
 intro ζ s σ H x v vl vu lo hi sl Q I rx hs pl pu h;obtain⟨a,xs,rfl,hx,hw,q⟩:=h;cases rx;obtain⟨tx,r,ht,hz⟩:=I.tuple hx
 have hlen:tx.toArray.size=xs.length:=by rw[Ah];exact r.length.symm
 refine⟨"tuple",_,CY.lookup,ht.typeIs,?_⟩;refine HT.QB ht hs pl pu (by rw[hlen];exact hw) ?_ (by rw[hlen];exact hz);rw[hlen];refine⟨.ref s.heap.objs.size,_,I.laid (t':=s.toks) (o:=.tup (R5 xs lo hi)) (λb ob q=>AN _ q) (AL _) ?_,rfl,q _ (I.hok.fresh (AL _))⟩;exact⟨⟨Am (RZ xs lo hi) hz,⟨_,Ad _ rfl,rfl⟩⟩,_,(r.drop (HT.sIx xs.length 0 lo)).take (HT.sIx xs.length xs.length hi - HT.sIx xs.length 0 lo),fL _ _⟩
def ud(K:AG):R2:=λx y H Q=>∃a b xs ys,x=.ref a/\y=.ref b/\SqT K H a xs/\SqT K H b ys/\xs≠[]/\xs.length+ys.length<=sizeLine /\
 (ys=[]->Q (.ref a) H)/\(ys≠[]->∀p,H p=none->Q (.ref p) (upd H p (.tup (xs++ys))))
theorem Bw.nil_iff(r:Bw xs us):us=[]↔xs=[]:=by
 cases r with
 | nil=>simp
 | cons _ _=>simp
theorem mR:OpR X (Cw .Add) (ud X.K):=by
 intro ζ s σ H x y v u Q I rx ry h;obtain⟨a,b,xs,ys,rfl,rfl,ha,hb,hx,hz,q1,q2⟩:=h;cases rx;cases ry;obtain⟨tx,r1,p1,_⟩:=I.tuple ha;obtain⟨wK,r2,p2,_⟩:=I.tuple hb;refine HT.nZ p1 p2 (λz=>hx (r1.nil_iff.mp z)) (λz=>⟨.ref a,H,I,rfl,q1 (r2.nil_iff.mp z)⟩) (λz=>?_) (by rw[<-r1.length,<-r2.length];exact hz);refine⟨.ref s.heap.objs.size,_,I.laid (t':=s.toks) (o:=.tup (xs++ys)) (λb ob q=>AN _ q) (AL _) ?_,rfl,q2 (λw=>z (r2.nil_iff.mpr w)) _ (I.hok.fresh (AL _))⟩;exact⟨⟨by rw[Ag];exact hz,⟨_,Ad _ rfl,rfl⟩⟩,_,r1.append r2,fL _ _⟩
end
section
def ixN(n:Nat)(i:Int):Option Nat:=if 0<=i then(if i < n then some i.toNat else none)else if -(n:Int)<=i then some (i+n).toNat else none
def atI{α:Type}(xs:List α)(i:Int):Option α:=(ixN xs.length i).bind λj=>xs[j]?
theorem bp(h:ixN n i=some j):seqIndex? i n=some j/\j < n/\-(n:Int)<=i/\i < n:=by
 unfold ixN at h
 by_cases h0:0<=i
 ·rw[qX h0]at h
  by_cases h1:i < n
  ·rw[qX h1]at h
   have e:i.toNat=j:=Bl h;exact⟨by rw[jw h0 h1,e],by lia,by lia,h1⟩
  ·rw[qY h1]at h;cases h
 ·rw[qY h0]at h
  by_cases h1:-(n:Int)<=i
  ·rw[qX h1]at h
   have e:(i+n).toNat=j:=Bl h;exact⟨by rw[seqIndex_neg (by lia) h1,e],by lia,h1,by lia⟩
  ·rw[qY h1]at h;cases h
theorem cJ{α:Type}{xs:List α}{i:Int}{v:α}(h:atI xs i=some v):∃j,seqIndex? i xs.length=some j/\xs[j]?=some v/\j < xs.length/\-(xs.length:Int)<=i/\i < xs.length:=by
 unfold atI at h
 cases e:ixN xs.length i with
 | none=>rw[e]at h;cases h
 | some j=>
  rw[e]at h;obtain⟨h1,h2,h3,h4⟩:=bp e;exact⟨j,h1,h,h2,h3,h4⟩
def XV(b:Expr):Prop:=∀o i,Xa b false o i=operate [o,i] (LS o i)
def IxR(X:Cx)(r:R2):Prop:=
 ∀(value slice:Expr) (ζ:List (AW×Obj)) (s:AR) (σ:St) (H:Hp) (x y:V) (v u:AI) (Q:VK),Inv X ζ σ H s->RelV x v->RelV y u->r x y H Q ->
  Xa slice false v u=operate [v,u] (LS v u)->Af (Ao X.prog X.w) X.A (cN value slice v u) (EP X ζ σ Q) X.xe s
def MtR(X:Cx)(id:String)(r:V->List V->Hp->VK->Prop):Prop:=
 ∀(ζ:List (AW×Obj)) (s:AR) (σ:St) (H:Hp) (x:V) (xs:List V) (v:AI) (us:List AI) (Q:VK),Inv X ζ σ H s->RelV x v->Bw xs us->r x xs H Q ->
  Af (Ao X.prog X.w) X.A (call (.builtin id) (v :: us)) (EP X ζ σ Q) X.xe s
section
variable{P:Bh}{w:CH}{H:Hp}{h:C9}{a:AW}
theorem oU(ok:HOk P w H h)(e:Rd H a u):DE P w H h a u:=e.ok ok
theorem Yx(ok:HOk P w H h)(e:Rd H a (.dK f')):f'.length<=sizeLine/\(a==EI)=false/\∃vs,KV f' vs/\h.DictOf (Ew P w) a vs:=
 show DE P w H h a (.dK f')from oU ok e
theorem vX(ok:HOk P w H h)(e:H a=some (.dK f')):f'.length<=sizeLine/\(a==EI)=false/\∃vs,KV f' vs/\h.DictOf (Ew P w) a vs:=Yx ok (.inl e)
theorem UF(ok:HOk P w H h)(e:H a=some (.tup (ks.map kV))):(V7 (Ew P w)).is h ks a:=by
 obtain⟨_,tx,r,o,h1,h2,n,h3⟩:=(show DE P w H h a (.tup (ks.map kV))from ok a _ e);exact⟨o,tx.toArray,n,h1,h2,h3,by simpa using Vq r⟩
theorem Yw(ok:HOk P w H h)(e:Rd H a (.dT f')):f'.length<=sizeLine/\(a==EI)=false /\
  ∃xs,KT H f' xs/\h.DictOfH (V7 (Ew P w)) a xs:=by
 obtain⟨z,y,xs,r,o,es,ep,h1,h2,h3,h4,h5⟩:=(show DE P w H h a (.dT f')from oU ok e);refine⟨z,y,xs,r,o,es,ep,h1,h2,h3,h4,λx hx=>?_,h5⟩
 have all:∀{l:List (List Key×V)} {m:List (List Key×AW×AI)},KT H l m->∀x∈m,(V7 (Ew P w)).is h x.1 x.2.1:=by
  intro l m q
  induction q with
  | nil=>intro x hx;exact nomatch hx
  | @cons p q ps qs hq t ih=>
   intro x hx
   rcases AZ.mp hx with e | hx
   ·subst e
    exact UF ok (by rw[<-hq.1];exact hq.2.1)
   ·exact ih x hx
 exact all r x hx
theorem vW(ok:HOk P w H h)(e:H a=some (.dT f')):f'.length<=sizeLine/\(a==EI)=false /\
  ∃xs,KT H f' xs/\h.DictOfH (V7 (Ew P w)) a xs:=Yw ok (.inl e)
end
def QQ(H:Hp)(a:AW)(y:V)(r:Option V):Prop:=
 (∃f' k,Rd H a (.dK f')/\y=kV k/\r=L8 f' k)∨∃f' k b,Rd H a (.dT f')/\y=.ref b/\H b=some (.tup (k.map kV))/\r=L8 f' k
def ZA(H:Hp)(a:AW)(y v:V)(H':Hp):Prop:=
 (∃f' k,H a=some (.dK f')/\y=kV k/\f'.length < sizeLine/\H'=upd H a (.dK (M4 f' k v))) ∨
 ∃f' k b,H a=some (.dT f')/\y=.ref b/\H b=some (.tup (k.map kV))/\f'.length < sizeLine/\H'=upd H a (.dT (M4 f' k v))
theorem QQ.k{H}{a}{f'}{k}(e:H a=some (.dK f')):QQ H a (kV k) (L8 f' k):=.inl ⟨f',k,.inl e,rfl,rfl⟩
theorem QQ.t{H}{a b}{f'}{k}(e:H a=some (.dT f'))(eb:H b=some (.tup (k.map kV))):QQ H a (.ref b) (L8 f' k):=.inr ⟨f',k,b,.inl e,rfl,eb,rfl⟩
theorem ZA.k{H}{a}{f'}{k}{v}(e:H a=some (.dK f'))(hl:f'.length < sizeLine):ZA H a (kV k) v (upd H a (.dK (M4 f' k v))):=.inl ⟨f',k,e,rfl,hl,rfl⟩
theorem ZA.t{H}{a b}{f'}{k}{v}(e:H a=some (.dT f'))(eb:H b=some (.tup (k.map kV)))(hl:f'.length < sizeLine) :
  ZA H a (.ref b) v (upd H a (.dT (M4 f' k v))):=.inr ⟨f',k,b,e,rfl,eb,hl,rfl⟩
variable{X:Cx}{a b:Expr}{ta tb:TE}{pos:Pos}
theorem IxR.or(h:IxR X r)(h':IxR X r'):IxR X (λx y H Q=>r x y H Q∨r' x y H Q):=by
 intro value slice ζ s σ H x y v u Q I rx ry q hs
 rcases q with q | q
 ·exact h value slice ζ s σ H x y v u Q I rx ry q hs
 ·exact h' value slice ζ s σ H x y v u Q I rx ry q hs
theorem ul(hr:IxR X r)(ha:PE X a ta)(hb:PE X b tb)(hs:XV b):PE X (.Subscript a b pos) (tOp r ta tb):=by
 intro ζ s σ H Q I h;exact pE (sf ha hb I h λv u s2 x y H2 I2 rx ry q=>hr a b ζ s2 σ H2 x y v u Q I2 rx ry q (hs _ _))
def rIxL(K:AG):R2:=λx y H Q=>∃p xs i v,x=.ref p/\y=.int i/\SqL K H p xs/\atI xs i=some v/\Q v H
def rIxT(K:AG):R2:=λx y H Q=>∃p xs i v,x=.ref p/\y=.int i/\SqT K H p xs/\atI xs i=some v/\Q v H
theorem mz:IxR X (rIxL X.K):=by
 intro value slice ζ s σ H x y v u Q I rx ry h hs;obtain⟨p,xs,i,z,rfl,rfl,hq,he,q⟩:=h;cases rx;obtain⟨t,rfl⟩:=ry;obtain⟨tx,r,pl,hz⟩:=I.list hq;obtain⟨j,h1,h2,h3,h4,h5⟩:=cJ he;obtain⟨w,ew,xi⟩:=r.get h2;have hl:=r.length;have hn:=Q0;have fin:EP X ζ σ Q w s:=⟨z,H,I,xi,q⟩
 by_cases h0:0<=i
 ·have hj:i.toNat=j:=by
   rw[jw h0 h5]at h1;exact Bl h1
  exact item_listR pl.isList h0 (by lia) (by rw[hj];simpa using ew) fin hs
 ·have hj:(i+(tx.toArray.size:Int)).toNat=j:=by
   rw[seqIndex_neg (by lia) h4]at h1;rw[Ah,<-hl];exact Bl h1
  exact eu (x:=w) pl.isList.typeIs sy.lookup
   (wpAny_getItem_list_neg (Q:=λr s'=>r=w/\EP X ζ σ Q r s') pl.isList (by lia) (by rw[Ah] <;> lia) (by lia) (by rw[hj];simpa using ew) ⟨rfl,fin⟩) hs
theorem re:IxR X (rIxT X.K):=by
 intro value slice ζ s σ H x y v u Q I rx ry h hs;obtain⟨p,xs,i,z,rfl,rfl,hq,he,q⟩:=h;cases rx;obtain⟨t,rfl⟩:=ry;obtain⟨tx,r,pl,hz⟩:=I.tuple hq;obtain⟨j,h1,h2,h3,h4,h5⟩:=cJ he;obtain⟨w,ew,xi⟩:=r.get h2;have hl:=r.length;have hn:=Q0;have fin:EP X ζ σ Q w s:=⟨z,H,I,xi,q⟩
 exact eu (x:=w) pl.typeIs slot_tuple_getitem.lookup
  (getItem_tuple (j:=j) (Q:=λr s'=>r=w/\EP X ζ σ Q r s') pl (by lia) (by lia) (by rw[Ah,<-hl];exact h1) (by simpa using ew) ⟨rfl,fin⟩) hs
theorem aB(tx:List AI)(n j:Nat)(u:AI):Gh (·.setIfInBounds j u) { cls:=.type "list",data:=.seq tx.toArray n }={ cls:=.type "list",data:=.seq (tx.set j u).toArray n }:=by
 simp[Gh]
theorem Inv.lst(I:Inv X ζ σ H s)(h:H p=some (.lst xs)) :
  ∃(tx:List AI) (n:Nat),Bw xs tx/\s.heap.get? p=some { cls:=.type "list",data:=.seq tx.toArray n }/\xs.length<=sizeLine:=by
 obtain⟨z,tx,n,r,e⟩:=I.hok p _ h;exact⟨tx,n,r,e,z⟩
theorem Inv.lstUpd{ζ:List (AW×Obj)}{σ:St}{H:Hp}{s:AR}{p:AW}{xs ys:List V}{tx its':List AI}{n n':Nat}{f:Obj->Obj}(I:Inv X ζ σ H s)(h:H p=some (.lst xs))
  (ho:s.heap.get? p=some { cls:=.type "list",data:=.seq tx.toArray n }) (hf:f { cls:=.type "list",data:=.seq tx.toArray n }={ cls:=.type "list",data:=.seq its'.toArray n' }) (r:Bw ys its') (hz:ys.length<=sizeLine) (t:Nat) :
  Inv X ζ σ (upd H p (.lst ys)) { s with heap:=s.heap.update p f,toks:=t }:=by
 have e:(s.heap.update p f).get? p=some { cls:=.type "list",data:=.seq its'.toArray n' }:=by
  rw[Fn f ho (by rw[hf] <;> rfl),hf]
 refine I.write (x:=p) (e:=p) (by rw[h];trivial) (.inl rfl) (λb u hb q=>(B1 _ _ (Bs hb)).trans q) ⟨_,e⟩ ?_;exact⟨hz,its',n',r,e⟩
def ua:V->V->V->Hp->(Hp->Prop)->Prop:=λo i v H Q=>∃p xs k j,o=.ref p/\i=.int k/\H p=some (.lst xs)/\ixN xs.length k=some j/\Q (upd H p (.lst (xs.set j v)))
theorem gd:vm X ua:=by
 intro ζ s σ H o i v ov iv u Q I ro ri rv h;obtain⟨p,xs,k,j,rfl,rfl,hp,hj,q⟩:=h;cases ro;obtain⟨t,rfl⟩:=ri;obtain⟨tx,n,r,ho,hz⟩:=I.lst hp;obtain⟨h1,h2,h3,h4⟩:=bp hj;have hl:=r.length;have hn:=Q0
 have I':Inv X ζ σ (upd H p (.lst (xs.set j v))) { s with heap:=s.heap.update p (Gh (·.setIfInBounds j u)) }:=
  I.lstUpd hp ho (aB tx n j u) (r.set rv j) (by rw[D5];exact hz) s.toks
 by_cases h0:0<=k
 ·have hk:k.toNat=j:=by
   rw[jw h0 h4]at h1;exact Bl h1
  exact PySem.W.ki_setAt ho h0 (by lia) (by rw[Ah,<-hl];exact h4) (by rw[hk];exact⟨_,I',q⟩)
 ·have hk:(k+(tx.toArray.size:Int)).toNat=j:=by
   rw[seqIndex_neg (by lia) h3]at h1;rw[Ah,<-hl];exact Bl h1
  exact PySem.W.ki_setBack ho (by lia) (by rw[Ah,<-hl];exact h3) (by lia) (by rw[hk];exact⟨_,I',q⟩)
theorem Wc(lo hi:Option Int)(n:Nat):(KL lo hi none n).1=((HT.sIx n 0 lo:Nat):Int)/\(KL lo hi none n).2.1=((HT.sIx n n hi:Nat):Int)/\(KL lo hi none n).2.2=1:=by
 refine⟨?_,?_,rfl⟩
 ·cases lo with
  | none=>simp[KL,HT.sIx]
  | some i=>
   simp only[KL,HT.sIx,ee,show(1:Int) > 0 by decide,if_true]
   by_cases h:i < 0
   ·simp only[h,if_true] <;> lia
   ·simp only[h,if_false] <;> lia
 ·cases hi with
  | none=>simp[KL,HT.sIx]
  | some i=>
   simp only[KL,HT.sIx,ee,show(1:Int) > 0 by decide,if_true]
   by_cases h:i < 0
   ·simp only[h,if_true] <;> lia
   ·simp only[h,if_false] <;> lia
theorem Uv(tx:List AI)(lo hi:Option Int):slicePick tx.toArray lo hi none=((tx.drop (HT.sIx tx.length 0 lo)).take (HT.sIx tx.length tx.length hi - HT.sIx tx.length 0 lo)).toArray:=by
 obtain⟨h1,h2,h3⟩:=Wc lo hi tx.toArray.size;unfold slicePick;rw[h1,h2,h3]
 simp only[sliceRange_one,pick_run,Ah] <;> rfl
def uZ(K:AG):V->Option Int->Option Int->Hp->VK->Prop:=λx lo hi H Q=>∃a xs,x=.ref a/\SqL K H a xs/\∀p,H p=none->Q (.ref p) (upd H p (.lst (R5 xs lo hi)))
theorem lM:SlR X (uZ X.K):=by
 intro ζ s σ H x v vl vu lo hi sl Q I rx hs pl pu h;obtain⟨a,xs,rfl,hx,q⟩:=h;cases rx;obtain⟨tx,r,ht,hz⟩:=I.list hx;have hlen:=r.length;refine⟨"list",_,sy.lookup,ht.isList.typeIs,?_⟩;refine wpAny_getItem_list_slice ht.isList hs pl pu .none (by simp) ?_ (by rw[Ah] <;> lia);rw[Uv,<-hlen];refine⟨.ref s.heap.objs.size,_,I.laid (t':=s.toks) (o:=.lst (R5 xs lo hi)) (λb ob q=>AN _ q) (AL _) ?_,rfl,q _ (I.hok.fresh (AL _))⟩;exact⟨Am (RZ xs lo hi) hz,_,0,(r.drop (HT.sIx xs.length 0 lo)).take (HT.sIx xs.length xs.length hi - HT.sIx xs.length 0 lo),Ad _ rfl⟩
theorem XQ:KI X (.builtin "len") (λxs H Q=>∃p ys,xs=[.ref p]/\(SqL X.K H p ys∨SqT X.K H p ys)/\Q (.int ys.length) H):=by
 intro ζ s σ H xs us Q I r h;obtain⟨p,ys,rfl,hq,q⟩:=h;obtain⟨u,rfl,rx⟩:=vals1 r;cases rx;have hn:=Q0
 rcases hq with hq | hq
 ·obtain⟨tx,r',pl,hz⟩:=I.list hq
  have hlen:=r'.length;exact Calls.call_len_list pl.isList (by simp only[Ah] <;> lia) ⟨.int ys.length,H,I.tok _,⟨s.toks+1,by rw[Ah,hlen]⟩,q⟩
 ·obtain⟨tx,r',pl,hz⟩:=I.tuple hq
  have hlen:=r'.length;exact len_tuple pl (by simp only[Ah] <;> lia) ⟨.int ys.length,H,I.tok _,⟨s.toks+1,by rw[Ah,hlen]⟩,q⟩
theorem XO:KI X (.type "list") (λxs H Q=>∃p ys,xs=[.ref p]/\(SqL X.K H p ys∨SqT X.K H p ys)/\∀l,H l=none->Q (.ref l) (upd H l (.lst ys))):=by
 intro ζ s σ H xs us Q I r h;obtain⟨p,ys,rfl,hq,q⟩:=h;obtain⟨u,rfl,rx⟩:=vals1 r;cases rx
 have fin:∀(tx:List AI),Bw ys tx->ys.length<=sizeLine->∀(h':C9) (c':Nat),(∀b o',s.heap.get? b=some o'->h'.get? b=some o') ->
   h'.get? s.heap.objs.size=some { cls:=.type "list",dict:=none,data:=.seq tx.toArray c',slots:=#[] }->EP X ζ σ Q (.ref s.heap.objs.size) { s with heap:=h' }:=λtx r' hz h' c' kp e=>
  ⟨.ref s.heap.objs.size,_,I.laid (t':=s.toks) kp (AL _) (show DE X.prog X.w _ h' _ (.lst ys)from⟨hz,tx,c',r',e⟩),rfl,q _ (I.hok.fresh (AL _))⟩
 rcases hq with hq | hq
 ·obtain⟨tx,r',pl,hz⟩:=I.list hq
  have hlen:=r'.length;obtain⟨o,ho,hc,n,hd⟩:=pl.isList;exact call_list_seq p (.inl rfl) ho hc hd (λh' c' kp e=>fin tx r' hz h' c' kp e) (by simp only[Ah] <;> lia)
 ·obtain⟨tx,r',pl,hz⟩:=I.tuple hq
  have hlen:=r'.length;obtain⟨o,ho,hc,n,hd⟩:=pl;exact call_list_seq p (.inr rfl) ho hc hd (λh' c' kp e=>fin tx r' hz h' c' kp e) (by simp only[Ah] <;> lia)
theorem VN:KI X (.type "tuple") (λxs H Q=>∃p ys,xs=[.ref p]/\((SqL X.K H p ys/\∀l,H l=none->Q (.ref l) (upd H l (.tup ys)))∨(SqT X.K H p ys/\Q (.ref p) H))):=by
 intro ζ s σ H xs us Q I r h;obtain⟨p,ys,rfl,h⟩:=h;obtain⟨u,rfl,rx⟩:=vals1 r;cases rx
 rcases h with⟨hq,q⟩ | ⟨hq,q⟩
 ·obtain⟨tx,r',pl,hz⟩:=I.list hq
  have hlen:=r'.length;refine call_tuple_list pl.isList (λh' kp=>?_) (by simp only[Ah] <;> lia);have I1:Inv X ζ σ H { s with heap:=h' }:=I.kept (t':=s.toks) kp
  have I2:Inv X ζ σ (upd H h'.objs.size (.tup ys)) { s with heap:=h'.push { cls:=.type "tuple",data:=.seq tx.toArray } }:=
   I1.laid (t':=s.toks) (λb o e=>AN _ e) (AL _) (show DE X.prog X.w _ _ _ (.tup ys)from⟨⟨hz,⟨_,Ad _ rfl,rfl⟩⟩,tx,r',fL _ _⟩)
  exact⟨.ref h'.objs.size,_,I2,rfl,q _ (I1.hok.fresh (AL _))⟩
 ·obtain⟨tx,r',pl,hz⟩:=I.tuple hq
  exact call_tuple_same pl ⟨.ref p,H,I,rfl,q⟩
def tyV(K:AG)(T:String)(x:V)(H:Hp):Prop:=match x with
 | .str _=>T = "str"
 | .int _=>T = "int"
 | .ref p=>(T = "list"/\∃xs,SqL K H p xs)∨(T = "tuple"/\∃o,K.lookup p=some o/\o.cls=.type "tuple"/\o.dict=none) ∨
   (T = "dict"/\((∃f',H p=some (.dK f'))∨∃f',H p=some (.dT f')))∨(T = "set"/\∃S n,H p=some (.set S n))
 | _=>False
theorem gJ(I:Inv X ζ σ H s)(r:RelV x v)(ty:tyV X.K T x H) :
  s.TypeIs v T/\∀a,v=.ref a->∃ob,s.heap.get? a=some ob/\ob.dict=none:=by
 cases x with
 | str z=>
  obtain⟨t,rfl⟩:=r;cases(show T = "str" from ty);exact⟨typeIs_str s z t,λ_ e=>nomatch e⟩
 | int i=>
  obtain⟨t,rfl⟩:=r;cases(show T = "int" from ty);exact⟨typeIs_int s i t,λ_ e=>nomatch e⟩
 | ref p=>
  cases r
  rcases ty with⟨rfl,xs,hq⟩ | ⟨rfl,o,hk,hc,hd⟩ | ⟨rfl,hk⟩ | ⟨rfl,S,n,hk⟩
  ·obtain⟨tx,_,pl,_⟩:=I.list hq
   refine⟨pl.isList.typeIs,λa e=>?_⟩;cases e;obtain⟨o,n,e,c,hd,_⟩:=pl;exact⟨o,e,hd⟩
  ·refine⟨⟨o,I.kIn p o hk,hc⟩,λa e=>?_⟩
   cases e;exact⟨o,I.kIn _ o hk,hd⟩
  ·have z:∃o,s.heap.get? p=some o/\o.ExactDict:=by
    rcases hk with⟨f',hk⟩ | ⟨f',hk⟩
    ·obtain⟨_,_,_,_,o,_,_,e,ex,_⟩:=I.hok p _ hk
     exact⟨o,e,ex⟩
    ·obtain⟨_,_,_,_,o,_,_,e,ex,_⟩:=I.hok p _ hk
     exact⟨o,e,ex⟩
   obtain⟨o,e,ex⟩:=z;refine⟨⟨o,e,ex.1⟩,λa e2=>?_⟩;cases e2;exact⟨o,e,ex.2.1⟩
  ·obtain⟨o,_,_,_,e,ex,_⟩:=I.hok p _ hk
   refine⟨⟨o,e,ex.1⟩,λa e2=>?_⟩;cases e2;exact⟨o,e,ex.2.1⟩
 | _=>exact Eu ty
def tBM0(K:AG)(T:String)(r:V->List V->Hp->VK->Prop)(to:TE):TE:=λσ H Q=>to σ H λx H1=>tyV K T x H1/\r x [] H1 Q
def tBM(K:AG)(T:String)(r:V->List V->Hp->VK->Prop)(to:TE)(t:TA):TE:=λσ H Q=>to σ H λx H1=>tyV K T x H1/\t σ H1 λxs H2=>r x xs H2 Q
variable{o e:Expr}{es:List Expr}{to:TE}{t:TA}{name:Str}{apos wu:Pos}{T id:String}{r:V->List V->Hp->VK->Prop}
theorem qq(pa:PlainAttrs T)(slot:Slot T name id)(hty:typeOf (.builtin id)=pure (.type "method_descriptor")) (hm:MtR X id r) (ho:PE X o to)
  (wW:ID o name X.env (Cc o X.env)=Cc o X.env:=by rfl) (wZ:(apos.endLine==wu.line)=true:=by rfl):PE X (.Call (.Attribute o name apos) [] [] wu) (tBM0 X.K T r to):=by
 intro ζ s σ H Q I h;refine wpAny_Call_method0_late wW wZ (thn (ho ζ s σ H _ I h) λv s1 ⟨x,H1,I1,r1,ty,q1⟩=>?_);obtain⟨h1,h2⟩:=gJ I1 r1 ty;exact⟨T,id,pa,slot,hty,h1,h2,Xr rfl (PySem.evalArgs_none (hm ζ s1 σ H1 x [] v [] Q I1 r1 .nil q1))⟩
theorem um(pa:PlainAttrs T)(slot:Slot T name id)(hty:typeOf (.builtin id)=pure (.type "method_descriptor")) (hm:MtR X id r) (ho:PE X o to) (ha:PA X (e :: es) t)
  (wW:ID o name X.env (Cc o X.env)=Cc o X.env:=by rfl)
  (zw:((D6 wu (AY (e :: es) X.env)).all (λx=>!x.1)&&(KM wu (Fm [] X.env)).all (λx=>x.1.isSome)
    &&decide ((e :: es).length+([]:List tR).length+(if ([]:List tR).isEmpty then 0 else 1) < 30))=true:=by rfl)
  (wZ:(apos.endLine==wu.line)=true:=by rfl) (hs:AY (e :: es) X.env=(false,Cc e X.env) :: AY es X.env:=by rfl) (xc:(D6 wu (AY es X.env)).any (·.1)=false:=by rfl) :
  PE X (.Call (.Attribute o name apos) (e :: es) [] wu) (tBM X.K T r to t):=by
 intro ζ s σ H Q I h;refine wpAny_Call_method_late wW zw wZ rfl (thn (ho ζ s σ H _ I h) λv s1 ⟨x,H1,I1,r1,ty,q1⟩=>?_);obtain⟨h1,h2⟩:=gJ I1 r1 ty;refine⟨T,id,pa,slot,hty,h1,h2,?_⟩;have hA:=ha wu ζ s1 σ H1 _ I1 q1;rw[hs]at hA ⊢;refine Xr (by show(false||(D6 wu (AY es X.env)).any (·.1))=false;rw[xc] <;> rfl) (Calls.evalArgs_plain ?_)
 exact thn hA λus s2 ⟨vs,H2,I2,r2,q2⟩=>hm ζ s2 σ H2 x vs v us Q I2 r1 r2 q2
end
section
def MtM(X:Cx)(id:String)(r:V->List V->Hp->VK->Prop):Prop:=
 ∀(ζ:List (AW×Obj)) (s:AR) (σ:St) (H:Hp) (x:V) (xs:List V) (v:AI) (us:List AI) (Q:VK),Inv X ζ σ H s->RelV x v->Bw xs us->r x xs H Q ->
  Af (Ao X.prog X.w) X.A (call (.builtin id) (v :: us)) (EP X ζ σ Q) X.xe s
theorem Bw.one:∀{x:V} {us:List AI},Bw [x] us->∃u,us=[u]/\RelV x u
 | _,_,.cons r .nil=>⟨_,rfl,r⟩
section
variable{X:Cx}{ζ:List (AW×Obj)}{σ:St}{H:Hp}{s:AR}{a:AW}{y v:V}{u r:AI}{o:Option V}{A:CM}{E:AI->AR->Prop}
theorem Inv.big(I:Inv X ζ σ H s):EI < s.heap.objs.size:=by
 have h:BY < s.heap.objs.size:=(I.mod.glob.keeps I.bk).lt;exact tt (by decide) h
theorem eE(hu:A.units+1 < E4)(I:Inv X ζ σ H s)(g:QQ H a y (some v))(ry:RelV y u)(h:∀w' s',Inv X ζ σ H s'->RelV v w'->Q w' s') :
  Af (Ao X.prog X.w) A (LS (.ref a) u) Q E s:=by
 rcases g with⟨f',k,e,ey,l⟩ | ⟨f',k,b,e,ey,eb,l⟩
 ·subst ey
  obtain⟨z,hd,vs,rel,dd⟩:=Yx I.hok e;obtain⟨w',hw,xi⟩:=Oa.some_of (v:=v) (o:=Ui vs k) (by rw[l];exact rel.val k);exact wpAny_getItem_of (Yo ry) dd.mapOf hw (h w' _ (I.tok _) xi)
 ·subst ey
  cases(show u=BM b from ry);obtain⟨z,hd,xs,rel,dd⟩:=Yw I.hok e;obtain⟨w',hw,xi⟩:=Oa.some_of (v:=v) (o:=(ZO xs k).map (·.2)) (by rw[l];exact rel.val k);obtain⟨p,hp,zb⟩:=FH.mp hw;refine wpAny_getItem_heap (Ls hu) (UF I.hok eb) dd hp ?_;rw[zb];exact h w' _ (I.tok _) xi
theorem d_in(hu:A.units+1 < E4)(I:Inv X ζ σ H s)(g:QQ H a y o)(ry:RelV y u)(h:∀s',Inv X ζ σ H s'->Q (.bool o.isSome) s') :
  Af (Ao X.prog X.w) A (B2 .In u (.ref a)) Q E s:=by
 rcases g with⟨f',k,e,ey,l⟩ | ⟨f',k,b,e,ey,eb,l⟩
 ·subst ey
  obtain⟨z,hd,vs,rel,dd⟩:=Yx I.hok e;refine wpAny_in_of (Yo ry) hd dd.mapOf ?_;rw[<-(rel.val k).isSome_eq,<-l];exact h _ (I.tok _)
 ·subst ey
  cases(show u=BM b from ry);obtain⟨z,hd,xs,rel,dd⟩:=Yw I.hok e;refine wpAny_in_heap (Ls hu) (UF I.hok eb) hd dd ?_;have q:=(rel.val k).isSome_eq;rw[IB]at q;rw[<-q,<-l];exact h _ (I.tok _)
theorem nW(hu:A.units+1 < E4)(I:Inv X ζ σ H s)(g:QQ H a y o)(ry:RelV y u)(h:∀s',Inv X ζ σ H s'->Q (.bool (!o.isSome)) s') :
  Af (Ao X.prog X.w) A (B2 .NotIn u (.ref a)) Q E s:=by
 rcases g with⟨f',k,e,ey,l⟩ | ⟨f',k,b,e,ey,eb,l⟩
 ·subst ey
  obtain⟨z,hd,vs,rel,dd⟩:=Yx I.hok e;refine wpAny_notIn_of (Yo ry) hd dd.mapOf ?_;rw[<-(rel.val k).isSome_eq,<-l];exact h _ (I.tok _)
 ·subst ey
  cases(show u=BM b from ry);obtain⟨z,hd,xs,rel,dd⟩:=Yw I.hok e;refine wpAny_notIn_heap (Ls hu) (UF I.hok eb) hd dd ?_;have q:=(rel.val k).isSome_eq;rw[IB]at q;rw[<-q,<-l];exact h _ (I.tok _)
theorem cC(I:Inv X ζ σ H s)(mu:Mut (H a))(hs:FO a s.heap h')(he:∃q,h'.get? a=some q)(new:DE X.prog X.w (upd H a ob) h' a ob) :
  Inv X ζ σ (upd H a ob) { s with heap:=h',toks:=t' }:=
 I.write (x:=a) (e:=a) mu (.inl rfl) (λb q hb z=>(hs.2 b hb).trans z) he new
theorem sW(z:f'.length<=sizeLine)(hd:(a==EI)=false)(rel:KV f' vs)(dd:h'.DictOf (Ew P w) a vs) :
  DE P w H' h' a (.dK f'):=⟨z,hd,vs,rel,dd⟩
theorem eC(hu:A.units+1 < E4)(I:Inv X ζ σ H s)(g:ZA H a y v H')(ry:RelV y u)(rv:RelV v r)(h:∀s',Inv X ζ σ H' s'->Q () s') :
  Af (Ao X.prog X.w) A (tD (.ref a) u r) Q E s:=by
 rcases g with⟨f',k,e,ey,l,eH⟩ | ⟨f',k,b,e,ey,eb,l,eH⟩
 ·subst ey eH
  obtain⟨z,hd,vs,rel,dd⟩:=vX I.hok e
  have hz:vs.length<=sizeLine:=by rw[<-rel.length];exact z
  have hl:(M4 f' k v).length<=sizeLine:=by have:=RV f' k v;lia
  refine wpAny_setItem_pairs (hsz:=hz) (Yo ry) dd λh' dd' hs=>h _ ?_
  have he:∃q,h'.get? a=some q:=let ⟨q,_,_,hq,_⟩:=dd';⟨q,hq⟩
  exact cC I (by rw[e];exact FK) hs he (sW hl hd (rel.put k rv) dd')
 ·subst ey eH
  cases(show u=BM b from ry);obtain⟨z,hd,xs,rel,dd⟩:=vW I.hok e
  have hz:xs.length<=sizeLine:=by rw[<-FT rel];exact z
  have hl:(M4 f' k v).length<=sizeLine:=by have:=RV f' k v;lia
  refine wpAny_setItem_heap (hsz:=hz) (Ls hu) (UF I.hok eb) dd λh' dd' hs=>h _ ?_
  obtain⟨q,es,ep,hq,h2,h3,h4,_,h5⟩:=dd';refine cC I (by rw[e];exact FK) hs ⟨q,hq⟩ ⟨hl,hd,_,(rel.put k eb rv).keeps λc ys ec=>?_,q,es,ep,hq,h2,h3,h4,h5⟩;rw[Bi (u9 ec e (λz=>nomatch z))];exact ec
variable{X:Cx}{ζ:List (AW×Obj)}{σ:St}{H:Hp}{s:AR}{l:AW}{xs ys:List V}
theorem Inv.lset{tx its':List AI}{n:Nat}{f:Array AI->Array AI}{t':Nat}(I:Inv X ζ σ H s)(hH:H l=some (.lst xs))
  (e:s.heap.get? l=some { cls:=.type "list",data:=.seq tx.toArray n }) (hf:f tx.toArray=its'.toArray) (hv:Bw ys its') (hz:ys.length<=sizeLine) :
  Inv X ζ σ (upd H l (.lst ys)) { s with heap:=s.heap.update l (Gh f),toks:=t' }:=by
 have q:=PySem.IsL.update e f;rw[hf]at q;refine I.write (x:=l) (e:=l) (by rw[hH];exact trivial) (.inl rfl) (λb' u hb hu=>(B1 s.heap (Gh f) (Bs hb)).trans hu) ⟨_,q⟩ ?_;exact⟨hz,its',_,hv,q⟩
theorem Inv.lnew(I:Inv X ζ σ H s)(hv:Bw ys tx)(hz:ys.length<=sizeLine) :
  Inv X ζ σ (upd H s.heap.objs.size (.lst ys)) { s with heap:=s.heap.push { cls:=.type "list",data:=.seq tx.toArray },toks:=t' }:=
 I.laid (λ_ _ q=>AN _ q) (AL _) ⟨hz,tx,0,hv,Ad _ rfl⟩
theorem Inv.fresh(I:Inv X ζ σ H s):H s.heap.objs.size=none:=I.hok.fresh (AL _)
theorem Inv.lstM(I:Inv X ζ σ H s)(hH:H l=some (.lst xs)):xs.length<=sizeLine/\∃(tx:List AI) (n:Nat),Bw xs tx/\xs.length=tx.length/\s.heap.get? l=some { cls:=.type "list",data:=.seq tx.toArray n }:=by
 obtain⟨z,tx,n,r,e⟩:=I.hok l _ hH;exact⟨z,tx,n,r,r.length,e⟩
end
def sk(i:Expr):Prop:=∀ov iv,Xa i false ov iv=operate [ov,iv] (LS ov iv)
theorem lJ{prog}{w}{A}{E}{s}{env}{value slice}{pos}{T id}{Q}
  (hl:o0 (.type T) "__getitem__" = pure (some (.builtin id))) (hs:sk slice)
  (h:Af (Ao prog w) A (Cc value env) (λo s₁=>Af (Ao prog w) A (Cc slice env) (λi s₂=>s₂.TypeIs o T/\Af (Ao prog w) A (LS o i) Q E s₂) E s₁) E s) :
  Af (Ao prog w) A (Cc (.Subscript value slice pos) env) Q E s:=by
 refine pE (Em h (λo s₁ h₁=>Em h₁ (λi s₂ h₂=>?_) λ_ _ x=>x) λ_ _ x=>x);obtain⟨hT,h₂⟩:=h₂;unfold cN;refine AB ?_;rw[getitemInPython_of_ne hT.not_modules];refine AB (wpAny_specialOf hT hl ?_)
 have fin:Af (Ao prog w) A (Xa slice false o i) (λr s₃=>Af (Ao prog w) A (letTemporaryGo value o r >>= λ_=>pure r) Q E s₃) E s₂:=by
  rw[hs o i];exact wpAny_operating (Em h₂ (λr s₃ h₃=>AB (wpAny_letTemporaryGo (AM h₃))) λ_ _ x=>x)
 first
  | exact AM (AB fin)
  | exact AB (AM (AB fin))
  | exact AB fin
theorem Yy(I:Inv X ζ σ H s)(g:QQ H a y o):s.TypeIs (.ref a) "dict":=by
 rcases g with⟨f',k,e,_,_⟩ | ⟨f',k,b,e,_,_,_⟩
 ·obtain⟨_,_,vs,_,dd⟩:=Yx I.hok e
  exact dd.typeIs
 ·obtain⟨_,_,xs,_,dd⟩:=Yw I.hok e
  exact dd.typeIs
def uN(td ty:TE):TE:=λσ H Q=>td σ H λx H1=>ty σ H1 λy H2=>∃a v,x=.ref a/\QQ H2 a y (some v)/\Q v H2
def uM(ty td:TE):TE:=λσ H Q=>ty σ H λy H1=>td σ H1 λx H2=>∃a o,x=.ref a/\QQ H2 a y o/\Q (.bl o.isSome) H2
def bM(ty td:TE):TE:=λσ H Q=>ty σ H λy H1=>td σ H1 λx H2=>∃a o,x=.ref a/\QQ H2 a y o/\Q (.bl (!o.isSome)) H2
def uW(td ty tv:TE):TS:=λD σ H=>tv σ H λv H1=>td σ H1 λx H2=>ty σ H2 λy H3=>∃a H4,x=.ref a/\ZA H3 a y v H4/\D.nx σ H4
variable{X:Cx}
def lV:V->List V->Hp->VK->Prop:=λx vs H Q=>∃l xs y,x=.ref l/\vs=[y]/\H l=some (.lst xs)/\xs.length < sizeLine/\Q .non (upd H l (.lst (xs++[y])))
theorem Vm:MtM X "list.append" lV:=by
 intro ζ s σ H x vs v us Q I rx rv h;obtain⟨l,xs,y,rfl,rfl,hH,hz,q⟩:=h;cases rx;obtain⟨u,rfl,ru⟩:=rv.one;obtain⟨z,tx,n,r,hl,e⟩:=I.lstM hH;refine call_meets F.slot_list_append ⟨_,e,rfl⟩ F.entry_list_append (F.args_list_append_2 _ _) (PySem.list_append l tx.toArray n u (by rw[Ah];lia)) ⟨e,?_⟩;refine⟨.non,_,I.lset (its':=tx++[u]) hH e (by simp) (r.append (.cons ru .nil)) ?_,rfl,q⟩;rw[Ag,Ay]
 lia
def rCat:R2:=λx y H Q=>∃l b xs zs,x=.ref l/\y=.ref b/\H l=some (.lst xs)/\H b=some (.lst zs)/\xs.length+zs.length<=sizeLine/\∀p,H p=none->Q (.ref p) (upd H p (.lst (xs++zs)))
theorem rA:OpR X (Cw .Add) rCat:=by
 intro ζ s σ H x y v u Q I rx ry h;obtain⟨l,b,xs,zs,rfl,rfl,hH,hB,hz,q⟩:=h;cases rx;cases ry;obtain⟨z,tx,n,r,hl,e⟩:=I.lstM hH;obtain⟨z2,wK,n2,r2,xU,e2⟩:=I.lstM hB;refine PySem.P.add_list e e2 ?_ (by rw[Ah,Ah];lia)
 have ea:tx.toArray++wK.toArray=(tx++wK).toArray:=by simp
 rw[ea];exact⟨.ref _,_,I.lnew (t':=s.toks) (r.append r2) (by rw[Ag];omega),rfl,q _ I.fresh⟩
section
variable{X:Cx}{o i value:Expr}{pos pos':Pos}{td ty tv:TE}
theorem mH(hu:X.A.units+1 < E4)(ho:PE X o td)(hi:PE X i ty)(hs:sk i):PE X (.Subscript o i pos) (uN td ty):=by
 intro ζ s σ H Q I h;refine lJ PySem.F.slot_dict_getitem.lookup hs (thn (ho ζ s σ H _ I h) λu s1 ⟨x,H1,I1,rx,q1⟩=>thn (hi ζ s1 σ H1 _ I1 q1) λiv s2 ⟨y,H2,I2,ry,a,v,ex,g,q2⟩=>?_);subst ex;obtain rfl:u=BM a:=rx;exact⟨Yy I2 g,eE hu I2 g ry λw' s3 I3 xi=>⟨v,H2,I3,xi,q2⟩⟩
theorem qr(hu:X.A.units+1 < E4)(hi:PE X i ty)(ho:PE X o td):PC X .In i o (uM ty td):=by
 intro ζ s σ H Q I h
 refine thn (hi ζ s σ H _ I h) λiv s1 ⟨y,H1,I1,ry,q1⟩=>thn (ho ζ s1 σ H1 _ I1 q1) λu s2 ⟨x,H2,I2,rx,a,ov,ex,g,q2⟩=>?_
 subst ex;obtain rfl:u=BM a:=rx
 exact d_in hu I2 g ry λs3 I3=>⟨.bl ov.isSome,H2,I3,rfl,q2⟩
theorem Vh(hu:X.A.units+1 < E4)(hi:PE X i ty)(ho:PE X o td):PC X .NotIn i o (bM ty td):=by
 intro ζ s σ H Q I h
 refine thn (hi ζ s σ H _ I h) λiv s1 ⟨y,H1,I1,ry,q1⟩=>thn (ho ζ s1 σ H1 _ I1 q1) λu s2 ⟨x,H2,I2,rx,a,ov,ex,g,q2⟩=>?_
 subst ex;obtain rfl:u=BM a:=rx
 exact nW hu I2 g ry λs3 I3=>⟨.bl (!ov.isSome),H2,I3,rfl,q2⟩
theorem lj(hu:X.A.units+1 < E4)(ho:PE X o td)(hi:PE X i ty)(hv:PE X value tv)(hs:HJ value (some (.Subscript o i pos')) pos.line X.env=pure false) :
  PS X (.Assign [.Subscript o i pos'] value pos) (uW td ty tv):=by
 intro ζ s σ H D I h;refine wpAny_Assign_Subscript (thn (hv ζ s σ H _ I h) λr s1 ⟨v,H1,I1,rv,q1⟩=>thn (ho ζ s1 σ H1 _ I1 q1) λu s2 ⟨x,H2,I2,rx,q2⟩=>thn (hi ζ s2 σ H2 _ I2 q2) λiv s3 ⟨y,H3,I3,ry,a,H4,ex,g,q3⟩=>?_) hs;subst ex;obtain rfl:u=BM a:=rx
 exact eC hu I3 g ry rv λs4 I4=>⟨σ,H4,I4,q3⟩
end
theorem jN(h:C9)(hb:EI < h.objs.size):DE P w H (h.push { cls:=.type "dict",data:=.dict #[] }) h.objs.size (.dK []):=
 ⟨Dz _,beq_eq_false_iff_ne.mpr (Bs (BF hb)),[],.nil,C9.DictOf.new h⟩
theorem jK(h:C9)(hb:EI < h.objs.size):DE P w H (h.push { cls:=.type "dict",data:=.dict #[] }) h.objs.size (.dT []):=
 ⟨Dz _,beq_eq_false_iff_ne.mpr (Bs (BF hb)),[],.nil,_,#[],0,Ad _ rfl,⟨rfl,rfl,rfl⟩,rfl,rfl,EX⟩
def qB:TE:=λ_ H Q=>∀p,H p=none->Q (.ref p) (upd H p (.dK []))
def qA:TE:=λ_ H Q=>∀p,H p=none->Q (.ref p) (upd H p (.dT []))
variable{s:AR}
section
variable{X:Cx}{pos:Pos}
theorem g7:PE X (.Dict [] [] pos) qB:=λζ s σ H Q I h=>
 tY ⟨.ref s.heap.objs.size,_,I.laid (a:=s.heap.objs.size) (o:=.dK []) (t':=s.toks) (λ_ _ q=>AN _ q) (AL _) (jN s.heap I.big),rfl,h _ (I.hok.fresh (AL _))⟩
theorem gz:PE X (.Dict [] [] pos) qA:=λζ s σ H Q I h=>
 tY ⟨.ref s.heap.objs.size,_,I.laid (a:=s.heap.objs.size) (o:=.dT []) (t':=s.toks) (λ_ _ q=>AN _ q) (AL _) (jK s.heap I.big),rfl,h _ (I.hok.fresh (AL _))⟩
end
end
end L2
namespace Att
open PySem PySem.W PySem.Calls PyProof.Rows
theorem R3:∀(ns:List Int) (vs:List AI),WellAll P h vs (ns.map vt)->EF vs ns:=by
 intro ns
 induction ns with
 | nil=>
  intro vs w;rw[RK]at w;cases w;exact .nil
 | cons n ns ih=>
  intro vs w;rw[BC]at w
  cases w with
  | cons a b=>
   cases a;exact .cons _ _ (ih _ b)
theorem dC{l:OpenLaw}{n:Nat}(hn:l.most=some n){P:Params}{h:C9}{args:List WData}{vals:List AI}
  (yJ:l.row.toRowW.claim.pre args=true) (hwl:WellAll P h vals args) :
  ∃a vs ns,vals=[BM a]/\args=[WData.list (ns.map vt)]/\h.get? a=some { cls:=.type "list",data:=.seq vs.toArray }/\EF vs ns/\ns.length<=n:=by
 have hsh:WShape.hasAll [] args [.list .int]=true:=(pre_splitW yJ).1;have hc:l.pre.holds [] { args:=args }=true:=(pre_splitW yJ).2;obtain⟨d,r,rfl,h1,h2⟩:=hasAllW_cons hsh;obtain rfl:=hasAllW_nil h2;obtain⟨xs,rfl,h3⟩:=hasW_list h1;obtain⟨ns,rfl⟩:=items_int h3
 have hlen:ns.length<=n:=by
  unfold OpenLaw.pre at hc
  have h4:(WTm.not (.lt (.lit (.int (n:Int))) (.len (.arg 0)))).holds [] { args:=[.list (ns.map .int)] }=true:=by
   have h4:=(holds_andW hc).1;rw[hn]at h4;exact h4
  have h5:=condW_of h4 (w_not (w_lt w_lit (w_len_list (w_arg rfl))));rw[AF]at h5
  refine Si λq=>?_
  have q':(n:Int) < ((ns.length:Nat):Int):=by omega
  first
   | (rw[wX q']at h5;exact zX h5 (by decide))
   | (simp at h5;omega)
 cases hwl with
 | cons w1 w2=>
  cases w2
  cases w1 with
  | list ho yh=>exact⟨_,_,ns,rfl,rfl,ho,R3 ns _ yh,hlen⟩
theorem dN(l:OpenLaw)(args:List WData):l.row.toRowW.claim.post args (.bool true) args=true:=
 postW_of (r:=l.row.toRowW) (X:=(true==true))
  (show tI [] (.bool true) .bool=true by first | rfl | decide | simp[tI,WShape.arms,WShape.armsAll])
  (show(WTm.eq .res (.lit (.bool true))).value [] { args:=args,res:=some (.bool true),after:=args }=some (.bool (true==true))from w_eq_bool (w_res rfl) w_lit) rfl
theorem Y5{l:OpenLaw}{n:Nat}{q:Bh}{loose:List Str}{XP:(Str->Option AI)->C9->Prop}{YP:CH->C9->Prop}{d:DefRec}
  (hn:l.most=some n) (Ε:d.params.defaults=[])
  (call:∀(w:CH) (s₀ s₁:AR) (mg mb:Str->Option AI) (fa:AW) (o:Obj) (pm cd doc:AI) (a:AW) (vs:List AI) (ns:List Int),
   Ground q loose [] XP w s₀ mg mb s₁.heap->YP w s₁.heap ->
   s₁.heap.get? fa=some o->o.data=.func (docDef d.name d.params d.body d.scope pm cd doc)->s₁.heap.CodeRec cd d.name->mg d.name=some (.ref fa) ->
   s₁.heap.get? a=some { cls:=.type "list",data:=.seq vs.toArray }->EF vs ns->ns.length<=n->s₁.gens = #[] ->
   ND (Ao l.prog w) Uk (.call (.ref fa) ⟨[.ref a],[]⟩) (λr s'=>r=.ok (.ret (.bool true))/\OldK s₁.heap s'.heap/\s'.os=s₁.os/\LY s'.gens) s₁) :
  WalkO q loose XP YP l.row.toRowW d [] (λf vs=>cR f vs):=by
 intro w s₀ s₁ mg mb G Y fa o pm cd doc dV kV ho hd xT hD zy hg args vals as yJ hlay hrd hwl zz;obtain rfl:dV=.none:=Dflts.none hD Ε;obtain rfl:kV=.none:=Dflts.noKw hD;obtain⟨a,vs,ns,rfl,rfl,zA,hints,hlen⟩:=dC hn yJ hwl;refine enter_call (LU (call w s₀ s₁ mg mb fa o pm cd doc a vs ns G Y ho (fd_plain hd) xT zy zA hints hlen hg) λr s' hq=>?_);obtain⟨rfl,h2,h3,h4⟩:=hq;exact⟨.inl ⟨.bool true,.bool true,[],rfl,λ_=>rfl,.bool true,dN l _,λ_=>⟨tw,λ_ hm=>(nomatch hm)⟩⟩,h2,h3,h4⟩
end Att
namespace L2
open PySem PySem.Spec PyProof.Rows
theorem VZ:∀{vs:List AI} {ns:List Int},EF vs ns->Bw (ns.map V.int) vs
 | _,_,.nil=>.nil
 | _,_,.cons n t h=>.cons ⟨t,rfl⟩ (VZ h)
def n9(H:Hp):Prop:=∀b,H b=none∨∃o xs,H b=some (.frz o (.lst xs))
theorem iU{P}{w}{K}{mg mb}{CX}{k}{fa a}{fd}{x}{sp}{s₁}{vs}{ns}
  (KX:K.In s₁.heap) (yi:s₁.heap.Ns BY mg) (hb:s₁.heap.Ns ZN mb) (Ζ:∀x:Str,x≠"__name__"->mb x=Fo x) (hlim:s₁.heap.NoLimit) (hg:s₁.gens = #[])
  (ha:s₁.heap.get? a=some { cls:=.type "list",data:=.seq vs.toArray }) (hi:EF vs ns) (hl:ns.length<=sizeLine) (hr:IE k Uk)
  (F:∀base:C9,K.In base->base.Ns BY mg->Cq P w K mg base CX k fa fd [x] sp) (Η:∀(s:AR) (u:AI),ZG s fd ⟨[u],[]⟩ [(x,u)])
  (zW:∀H:Hp,n9 H->SqL K H a (ns.map V.int)->sp [.ref a] H (λv _=>v=.bl true) λ_ _ _=>False)
  (hCX:∀H e s',CX [] H s₁ (λ_ _ _=>False) e s'->False) :
  ND (Ao P w) Uk (.call (.ref fa) ⟨[.ref a],[]⟩) (λr s'=>r=.ok (.ret (.bool true))/\OldK s₁.heap s'.heap/\s'.os=s₁.os/\LY s'.gens) s₁:=by
 have rv:=VZ hi;have lenV:=hi.length
 have core:∀H:Hp,n9 H->SqL K H a (ns.map V.int)->HOk P w H s₁.heap->(∀b,H b≠none->b=a)->(H a≠none->K.lookup a=none) ->
   ND (Ao P w) Uk (.call (.ref fa) ⟨[.ref a],[]⟩) (λr s'=>r=.ok (.ret (.bool true))/\OldK s₁.heap s'.heap/\s'.os=s₁.os/\LY s'.gens) s₁:=by
  intro H hO hS hok hA hK
  have xJ:∀{b:AW} {o:Obj},s₁.heap.get? b=some o->H b=none->(W8 s₁.heap H).get? b=some o:=λe n=>ik e n
  have Α:∀{b:AW} {o:Obj} {es:Array RL} {ep:Nat},s₁.heap.get? b=some o->o.data=.dict es ep->H b=none:=λ{b o es ep} e d=>by
   cases q:H b with
   | none=>rfl
   | some u=>
    have e':b=a:=hA b (by rw[q];simp);subst e';rw[ha]at e;cases e;have d':Data.seq vs.toArray _=Data.dict es ep:=d;cases d'
  have nsK:∀{b:AW} {m:Str->Option AI},s₁.heap.Ns b m->(W8 s₁.heap H).Ns b m:=λ{b m} ⟨o,es,ep,e,d,r⟩=>⟨o,es,ep,xJ e (Α e d),d,r⟩
  have hKb:K.In (W8 s₁.heap H):=λb o e=>xJ (KX b o e) (by
   cases q:H b with
   | none=>rfl
   | some u=>
    have e':b=a:=hA b (by rw[q];simp);subst e'
    rw[hK (by rw[q];simp)]at e;cases e)
  have hM:Mod K mg (W8 s₁.heap H):=⟨hKb,nsK yi,⟨mb,nsK hb,Ζ⟩,let ⟨mc,h1,h2⟩:=hlim;⟨mc,nsK h1,h2⟩⟩;have e0:aj P w K mg (W8 s₁.heap H) Uk [] s₁ H:=⟨rfl,hM,λb o e=>mW e,tu (dk _ _),trivial,λb hb=>zX (show b∈([]:List AW)from hb) (by simp),hok,.of_eq hg⟩
  refine LU ((F _ hKb (nsK yi)).run Uk [] s₁ H ⟨[.ref a],[]⟩ [.ref a] [.ref a] _ _ hr e0 (Η s₁ (.ref a)) (.cons rfl .nil) (zW H hO hS)) λr s' h=>?_
  cases r with
  | error e=>exact(hCX H e s' h).elim
  | ok fl=>
   cases fl with
   | next=>exact Eu h
   | brk=>exact Eu h
   | cont=>exact Eu h
   | ret u=>
    obtain⟨v,H',os,bare,un,hok',r',q⟩:=h;have q':v=.bl true:=q;subst q';obtain rfl:u=Pc true:=r';refine⟨rfl,OldK.of_keep λb o e=>?_,os,bare⟩
    cases q:H b with
    | none=>exact un.keep b o e q (by intro z;exact zX (show b∈([]:List AW)from z) (by simp)) (by simp)
    | some u=>
     rcases hO b with z | ⟨ob,xs,z⟩
     ·rw[q]at z;cases z
     ·have z2:=un.frzs b ob _ z
      obtain⟨e1,_⟩:=hok b _ z;obtain⟨e2,_⟩:=hok' b _ z2;rw[e]at e1;cases e1;exact e2
 cases hk:K.lookup a with
 | some o=>
  have e:=KX a o hk;rw[ha]at e;cases e
  refine core (λ_=>none) (λ_=>.inl rfl) (.inr ⟨_,vs.toArray,_,hk,rfl,rfl,rfl,by rw[Ah,lenV];exact hl,by simpa using rv⟩) (λb u z=>by have z':(none:Option HO)=some u:=z;cases z') (λb z=>zX rfl z) λz=>zX rfl z
 | none=>
  refine core (λb=>if b=a then some (.frz { cls:=.type "list",data:=.seq vs.toArray } (.lst (ns.map V.int)))else none) (λb=>?_) (.inl (.inr ⟨{ cls:=.type "list",data:=.seq vs.toArray },qX rfl⟩)) (λb u z=>?_) (λb z=>?_) λ_=>hk
  ·by_cases hb:b=a
   ·exact .inr ⟨_,_,qX hb⟩
   ·exact .inl (qY hb)
  ·by_cases hb:b=a
   ·have z':=(qX hb).symm.trans z
    cases z';subst hb;exact⟨ha,by rw[AF];exact hl,vs,_,rv,ha⟩
   ·have z':=(qY hb).symm.trans z
    cases z'
  ·by_cases hb:b=a
   ·exact hb
   ·exact zX (qY hb) z
theorem kG{l:PySem.W.OpenLaw}{n k:Nat}{q:Bh}{loose:List Str}{XP:(Str->Option AI)->C9->Prop}{YP:CH->C9->Prop}{d:DefRec}{K:Params->AG}{CX:CH->CXT}{sp:CH->Sp}{x:Str}
  (hn:l.most=some n) (xD:n<=sizeLine) (Ε:d.params.defaults=[]) (hr:IE k Uk)
  (hY:∀(w:CH) (h:C9),YP w h->(K w.params).In h)
  (F:∀(w:CH) (mg:Str->Option AI) (fa:AW) (h:C9),(K w.params).In h->h.Ns BY mg->mg d.name=some (.ref fa) ->
   ∃fd:Lz,(∀(s:AR) (u:AI),ZG s fd ⟨[u],[]⟩ [(x,u)]) /\
    ∀base:C9,(K w.params).In base->base.Ns BY mg->Cq l.prog w (K w.params) mg base (CX w) k fa fd [x] (sp w))
  (zW:∀(w:CH) (H:Hp) (a:AW) (ns:List Int),ns.length<=n->n9 H->SqL (K w.params) H a (ns.map V.int)->sp w [.ref a] H (λv _=>v=.bl true) λ_ _ _=>False)
  (hCX:∀(w:CH) (H:Hp) (s:AR) (e:AI) (s':AR),CX w [] H s (λ_ _ _=>False) e s'->False) :
  PySem.W.WalkO q loose XP YP l.row.toRowW d [] (λf vs=>cR f vs):=by
 refine Att.Y5 hn Ε λw s₀ s₁ mg mb fa o pm cd doc a vs ns G Y ho hd xT zy zA hints hlen hg=>?_
 have KX:=hY w _ Y;obtain⟨fd,hb,hF⟩:=F w mg fa _ KX G.T.g zy
 exact iU KX G.T.g G.T.b G.T.builtins G.T.nolimit hg zA hints (Am hlen xD) hr hF hb (λH hO hS=>zW w H a ns hlen hO hS) λH e s'=>hCX w H s₁ e s'
def Kk(s:DK)(j:Nat):DK:=match s with
 | .ClassDef _ _ _ body _ _ _ _ _ _ _=>body.getD j (.Pass ⟨0,0,0,0⟩)
 | _=>.Pass ⟨0,0,0,0⟩
def Mm(s:DK):Arguments:=match s with
 | .FunctionDef _ a _ _ _ _ _ _ _ _=>a
 | _=>{ posonlyargs:=[],args:=[],vararg:=none,kwonlyargs:=[],kw_defaults:=[],kwarg:=none,defaults:=[] }
def Jb(s:DK):List DK:=match s with
 | .FunctionDef _ _ b _ _ _ _ _ _ _=>b
 | _=>[]
def BB(s:DK):Ul:=match s with
 | .FunctionDef _ _ _ _ _ _ sc _ _ _=>sc
 | _=>{ kind:=.function,names:=[],isGenerator:=false,isCoroutine:=false }
structure Fun(K:AG)(x qual:Str)(st:DK)(f:AW)(fd:Lz):Prop where
 ex:∃(oc:AI) (od:Option AW) (kV doc pm:AI) (an:Option AW) (wg ct:AI) (yc:Array (Option AI)),
  fd=JR x qual (Mm st) (Jb st) (BB st) .none kV doc pm an wg ct/\K.lookup f=some ⟨oc,od,.func fd,yc⟩/\Sb K wg qual=true
 kp:Ft K (.ref f)=true
section
variable{K:AG}
theorem Fun.binds{x qual}{st}{f}{fd}{ps}(F:Fun K x qual st f fd)
  (h:∀(kV doc pm:AI) (an:Option AW) (wg ct:AI) (us:List AI),us.length=ps.length->j4 (JR x qual (Mm st) (Jb st) (BB st) .none kV doc pm an wg ct) ⟨us,[]⟩=pure (ps.zip us)):Binds K fd ps []:=by
 obtain⟨oc,od,kV,doc,pm,an,wg,ct,yc,rfl,lk,xT⟩:=F.ex;exact .all (h kV doc pm an wg ct)
theorem i7{x qual}{st}{f}{oc}{od an}{yc}{kV doc pm wg ct}(l:K.lookup f=some ⟨oc,od,.func (JR x qual (Mm st) (Jb st) (BB st) .none kV doc pm an wg ct),yc⟩)
  (c:Sb K wg qual=true) (k:Ft K (.ref f)=true):Fun K x qual st f (JR x qual (Mm st) (Jb st) (BB st) .none kV doc pm an wg ct):=⟨⟨oc,od,kV,doc,pm,an,wg,ct,yc,rfl,l,c⟩,k⟩
end
section
variable{X:Cx}
theorem pv(i:Nat)(hN:X.N[i]?=some x:=by rfl)(hv:Vis X.env.scope x:=by first | exact PX rfl | exact OB (PX rfl) | exact OB (OB rfl))(hd:(x==("__debug__" : Str))=false:=by decide)
  (xT:(x==("__classdict__" : Str))=false:=by decide):PE X (.Name x pos) (p7 i):=qg hN hv hd xT
end
inductive D where
 | non | bl (b:Bool) | int (i:Int) | str (x:Str) | tup (ds:List D) | fro (ds:List D) | ref (n:Nat) | exc (C:AW)
def VR(K:AG)(H:Hp)(a:AW)(vs:List V):Prop:=
 (∃o,H a=some (.frz o (.lst vs))) ∨
  ∃(o:Obj) (tx:Array AI) (n:Nat),K.lookup a=some o/\o.cls=.type "list"/\o.dict=none/\o.data=.seq tx n/\tx.size<=sizeLine/\Bw vs tx.toList
theorem VR.sq{K}{H}{a}{vs}(h:VR K H a vs):SqL K H a vs:=by
 rcases h with h | h
 ·exact .inl (.inr h)
 ·exact .inr h
def ExcO(o:Obj)(C:AW):Prop:=o.cls=.ref C/\o.dict=none/\∃vs,o.data=.fields vs
mutual
inductive CA(K:AG)(ρ:List AW)(H:Hp):D->V->Prop where
 | non:CA K ρ H .non .non
 | bl (b:Bool):CA K ρ H (.bl b) (.bl b)
 | int (i:Int):CA K ρ H (.int i) (.int i)
 | str (x:Str):CA K ρ H (.str x) (.str x)
 | tup {ds:List D} {a:AW} {vs:List V}:H a=some (.tup vs)->Ax K ρ H ds vs->CA K ρ H (.tup ds) (.ref a)
 | fro {ds:List D} {a:AW} {vs:List V}:VR K H a vs->Ax K ρ H ds vs->CA K ρ H (.fro ds) (.ref a)
 | ref {n:Nat} {a:AW}:ρ[n]?=some a->CA K ρ H (.ref n) (.ref a)
 | exc {C a:AW} {o:Obj} {u:HO}:H a=some (.frz o u)->ExcO o C->CA K ρ H (.exc C) (.ref a)
inductive Ax(K:AG)(ρ:List AW)(H:Hp):List D->List V->Prop where
 | nil:Ax K ρ H [] []
 | cons {d:D} {v:V} {ds:List D} {vs:List V}:CA K ρ H d v->Ax K ρ H ds vs->Ax K ρ H (d :: ds) (v :: vs)
end
structure Le(K:AG)(ρ:List AW)(H:Hp)(ρ':List AW)(H':Hp):Prop where
 pre:∀(n:Nat) a,ρ[n]?=some a->ρ'[n]?=some a
 tup:∀a xs,H a=some (.tup xs)->H' a=some (.tup xs)
 frz:∀a o u,H a=some (.frz o u)->H' a=some (.frz o u)
 oth:∀a o,H a=some o->(∀n:Nat,ρ[n]?≠some a)->H' a=some o/\∀n:Nat,ρ'[n]?≠some a
theorem VR.mono{K}{H H'}{a}{xs}(l:∀a o u,H a=some (.frz o u)->H' a=some (.frz o u))(h:VR K H a xs):VR K H' a xs:=by
 rcases h with⟨o,h⟩ | h
 ·exact .inl ⟨o,l _ _ _ h⟩
 ·exact .inr h
section
variable{K:AG}{ρ ρ' ρ'':List AW}{H H' yj:Hp}
theorem Le.fro(l:Le K ρ H ρ' H'):∀a xs,VR K H a xs->VR K H' a xs:=λ_ _ h=>h.mono l.frz
theorem Le.refl:Le K ρ H ρ H:=⟨λ_ _ h=>h,λ_ _ h=>h,λ_ _ _ h=>h,λ_ _ h n=>⟨h,n⟩⟩
theorem Le.trans(a:Le K ρ H ρ' H')(b:Le K ρ' H' ρ'' yj):Le K ρ H ρ'' yj:=
 ⟨λn x h=>b.pre n x (a.pre n x h),λx xs h=>b.tup x xs (a.tup x xs h),λx o u h=>b.frz x o u (a.frz x o u h),λx o h n=>b.oth x o (a.oth x o h n).1 (a.oth x o h n).2⟩
mutual
theorem CA.mono(l:Le K ρ H ρ' H'):∀{d:D} {v:V},CA K ρ H d v->CA K ρ' H' d v
 | _,_,.non=>.non
 | _,_,.bl b=>.bl b
 | _,_,.int i=>.int i
 | _,_,.str x=>.str x
 | _,_,.tup h r=>.tup (l.tup _ _ h) (Ax.mono l r)
 | _,_,.fro h r=>.fro (l.fro _ _ h) (Ax.mono l r)
 | _,_,.ref h=>.ref (l.pre _ _ h)
 | _,_,.exc h e=>.exc (l.frz _ _ _ h) e
theorem Ax.mono(l:Le K ρ H ρ' H'):∀{ds:List D} {vs:List V},Ax K ρ H ds vs->Ax K ρ' H' ds vs
 | _,_,.nil=>.nil
 | _,_,.cons r t=>.cons (CA.mono l r) (Ax.mono l t)
end
mutual
theorem CA.more(l:∀(n:Nat) a,ρ[n]?=some a->ρ'[n]?=some a):∀{d:D} {v:V},CA K ρ H d v->CA K ρ' H d v
 | _,_,.non=>.non
 | _,_,.bl b=>.bl b
 | _,_,.int i=>.int i
 | _,_,.str x=>.str x
 | _,_,.tup h r=>.tup h (Ax.more l r)
 | _,_,.fro h r=>.fro h (Ax.more l r)
 | _,_,.ref h=>.ref (l _ _ h)
 | _,_,.exc h e=>.exc h e
theorem Ax.more(l:∀(n:Nat) a,ρ[n]?=some a->ρ'[n]?=some a):∀{ds:List D} {vs:List V},Ax K ρ H ds vs->Ax K ρ' H ds vs
 | _,_,.nil=>.nil
 | _,_,.cons r t=>.cons (CA.more l r) (Ax.more l t)
end
mutual
theorem CA.keep(h1:∀a xs,H a=some (.tup xs)->H' a=some (.tup xs))(h2:∀a o u,H a=some (.frz o u)->H' a=some (.frz o u)):∀{d:D} {v:V},CA K ρ H d v->CA K ρ H' d v
 | _,_,.non=>.non
 | _,_,.bl b=>.bl b
 | _,_,.int i=>.int i
 | _,_,.str x=>.str x
 | _,_,.tup h r=>.tup (h1 _ _ h) (Ax.keep h1 h2 r)
 | _,_,.fro h r=>.fro (h.mono h2) (Ax.keep h1 h2 r)
 | _,_,.ref h=>.ref h
 | _,_,.exc h e=>.exc (h2 _ _ _ h) e
theorem Ax.keep(h1:∀a xs,H a=some (.tup xs)->H' a=some (.tup xs))(h2:∀a o u,H a=some (.frz o u)->H' a=some (.frz o u)):∀{ds:List D} {vs:List V},Ax K ρ H ds vs->Ax K ρ H' ds vs
 | _,_,.nil=>.nil
 | _,_,.cons r t=>.cons (CA.keep h1 h2 r) (Ax.keep h1 h2 t)
end
theorem Ax.length:∀{ds:List D} {vs:List V},Ax K ρ H ds vs->ds.length=vs.length
 | _,_,.nil=>rfl
 | _,_,.cons _ t=>by rw[At,At,Ax.length t]
theorem Ax.get:∀{ds:List D} {vs:List V} {i:Nat} {d:D},Ax K ρ H ds vs->ds[i]?=some d->∃v,vs[i]?=some v/\CA K ρ H d v
 | _,_,_,_,.nil,e=>by simp at e
 | _,_,0,_,.cons r _,e=>by simp at e;subst e;exact⟨_,rfl,r⟩
 | _,_,i+1,d,.cons _ t,e=>by
  obtain⟨v,h1,h2⟩:=Ax.get (i:=i) (d:=d) t (by simpa using e);exact⟨v,by simpa using h1,h2⟩
theorem Ax.get':∀{ds:List D} {vs:List V} {i:Nat} {v:V},Ax K ρ H ds vs->vs[i]?=some v->∃d,ds[i]?=some d/\CA K ρ H d v
 | _,_,_,_,.nil,e=>by simp at e
 | _,_,0,_,.cons r _,e=>by simp at e;subst e;exact⟨_,rfl,r⟩
 | _,_,i+1,d,.cons _ t,e=>by
  obtain⟨v,h1,h2⟩:=Ax.get' (i:=i) (v:=d) t (by simpa using e);exact⟨v,by simpa using h1,h2⟩
theorem Ax.append:∀{ds es:List D} {vs us:List V},Ax K ρ H ds vs->Ax K ρ H es us->Ax K ρ H (ds++es) (vs++us)
 | _,_,_,_,.nil,s=>s
 | _,_,_,_,.cons r t,s=>.cons r (Ax.append t s)
theorem Ax.take:∀{ds:List D} {vs:List V} (n:Nat),Ax K ρ H ds vs->Ax K ρ H (ds.take n) (vs.take n)
 | _,_,0,_=>.nil
 | _,_,_+1,.nil=>.nil
 | _,_,n+1,.cons r t=>.cons r (Ax.take n t)
theorem Ax.drop:∀{ds:List D} {vs:List V} (n:Nat),Ax K ρ H ds vs->Ax K ρ H (ds.drop n) (vs.drop n)
 | _,_,0,r=>r
 | _,_,_+1,.nil=>.nil
 | _,_,n+1,.cons _ t=>Ax.drop n t
theorem Ax.set(r:CA K ρ H d v):∀{ds:List D} {vs:List V} (i:Nat),Ax K ρ H ds vs->Ax K ρ H (ds.set i d) (vs.set i v)
 | _,_,_,.nil=>.nil
 | _,_,0,.cons _ t=>.cons r t
 | _,_,i+1,.cons q t=>.cons q (Ax.set r i t)
theorem Ax.reverse(h:Ax K ρ H ds vs):Ax K ρ H ds.reverse vs.reverse:=by
 induction ds generalizing vs with
 | nil=>cases h;exact .nil
 | cons d ds ih=>
  cases h with
  | cons r t=>rw[fD,fD];exact(ih t).append (.cons r .nil)
theorem Ax.of_ints:∀(ns:List Int),Ax K ρ H (ns.map D.int) (ns.map V.int)
 | []=>.nil
 | n :: ns=>.cons (.int n) (Ax.of_ints ns)
theorem Ax.ints:∀{ns:List Int} {vs:List V},Ax K ρ H (ns.map D.int) vs->vs=ns.map V.int
 | [],_,.nil=>rfl
 | n :: ns,_,.cons r t=>by
  cases r;rw[Ax.ints (ns:=ns) t];rfl
end
inductive Ob where
 | lst (ds:List D)
 | dK (f':List (Key×D))
 | dT (f':List (List Key×D))
 | ins (C:AW) (fs:List (Str×D))
 | fK (f':List (Key×D))
 | fT (f':List (List Key×D))
 | mem (L:Key->Int)
abbrev Sto:=List Ob
def W2:List Key:=(D4 1000).map λ(i:Nat)=>Dg (i:Int)
abbrev KVR{κ:Type}(K:AG)(ρ:List AW)(H:Hp):List (κ×D)->List (κ×V)->Prop:=HC λ(p:κ×D) (q:κ×V)=>p.1=q.1/\CA K ρ H p.2 q.2
def Ea(K:AG)(ρ:List AW)(H:Hp)(a:AW):Ob->Prop
 | .lst ds=>∃vs,H a=some (.lst vs)/\Ax K ρ H ds vs
 | .dK f'=>∃w6,H a=some (.dK w6)/\KVR K ρ H f' w6
 | .dT f'=>∃w6,H a=some (.dT w6)/\KVR K ρ H f' w6
 | .ins C fs=>∃dx yA,H a=some (.ins C dx yA)/\KVR K ρ H fs yA
 | .fK f'=>∃ob w6,H a=some (.frz ob (.dK w6))/\KVR K ρ H f' w6
 | .fT f'=>∃ob w6,H a=some (.frz ob (.dT w6))/\KVR K ρ H f' w6
 | .mem L=>∃w6,H a=some (.dK w6)/\(w6.map (·.1)).Nodup/\∀x∈w6,x.1∈W2/\x.2=V.int (L x.1)
structure CP(K:AG)(ρ:List AW)(S:Sto)(H:Hp):Prop where
 len:ρ.length=S.length
 nd:∀(i j:Nat) a,ρ[i]?=some a->ρ[j]?=some a->i=j
 ob:∀(n:Nat) o a,S[n]?=some o->ρ[n]?=some a->Ea K ρ H a o
section
variable{K:AG}{ρ ρ':List AW}{H H':Hp}{S:Sto}{a p:AW}{o:Ob}{n:Nat}{ho:HO}
theorem KVR.mono{κ:Type}(l:Le K ρ H ρ' H'){x:List (κ×D)}{y:List (κ×V)}(h:KVR K ρ H x y):KVR K ρ' H' x y:=HC.mapP h λ_ _ z=>⟨z.1,z.2.mono l⟩
theorem KVR.keys{κ:Type}:∀{x:List (κ×D)} {y:List (κ×V)},KVR K ρ H x y->x.map (·.1)=y.map (·.1)
 | _,_,.nil=>rfl
 | _,_,.cons r t=>by rw[BC,BC,r.1,KVR.keys t]
theorem Ea.has(h:Ea K ρ H a o):H a≠none:=by
 cases o with
 | lst ds=>obtain⟨_,e,_⟩:=h;rw[e];exact λz=>nomatch z
 | dK ds=>obtain⟨_,e,_⟩:=h;rw[e];exact λz=>nomatch z
 | dT ds=>obtain⟨_,e,_⟩:=h;rw[e];exact λz=>nomatch z
 | ins C fs=>obtain⟨_,_,e,_⟩:=h;rw[e];exact λz=>nomatch z
 | fK ds=>obtain⟨_,_,e,_⟩:=h;rw[e];exact λz=>nomatch z
 | fT ds=>obtain⟨_,_,e,_⟩:=h;rw[e];exact λz=>nomatch z
 | mem L=>obtain⟨_,e,_⟩:=h;rw[e];exact λz=>nomatch z
theorem Ea.mono(l:Le K ρ H ρ' H')(e:H' a=H a)(h:Ea K ρ H a o):Ea K ρ' H' a o:=by
 cases o with
 | lst ds=>obtain⟨vs,h1,h2⟩:=h;exact⟨vs,e.trans h1,h2.mono l⟩
 | dK ds=>obtain⟨vs,h1,h2⟩:=h;exact⟨vs,e.trans h1,h2.mono l⟩
 | dT ds=>obtain⟨vs,h1,h2⟩:=h;exact⟨vs,e.trans h1,h2.mono l⟩
 | ins C fs=>obtain⟨dx,vs,h1,h2⟩:=h;exact⟨dx,vs,e.trans h1,h2.mono l⟩
 | fK ds=>obtain⟨dx,vs,h1,h2⟩:=h;exact⟨dx,vs,e.trans h1,h2.mono l⟩
 | fT ds=>obtain⟨dx,vs,h1,h2⟩:=h;exact⟨dx,vs,e.trans h1,h2.mono l⟩
 | mem L=>obtain⟨vs,h1,h2⟩:=h;exact⟨vs,e.trans h1,h2⟩
theorem Ea.keep(h1:∀a xs,H a=some (.tup xs)->H' a=some (.tup xs))(h2:∀a o u,H a=some (.frz o u)->H' a=some (.frz o u))(e:H' a=H a)(h:Ea K ρ H a o):Ea K ρ H' a o:=by
 cases o with
 | lst ds=>obtain⟨vs,q1,q2⟩:=h;exact⟨vs,e.trans q1,q2.keep h1 h2⟩
 | dK ds=>obtain⟨vs,q1,q2⟩:=h;exact⟨vs,e.trans q1,HC.mapP q2 λ_ _ z=>⟨z.1,z.2.keep h1 h2⟩⟩
 | dT ds=>obtain⟨vs,q1,q2⟩:=h;exact⟨vs,e.trans q1,HC.mapP q2 λ_ _ z=>⟨z.1,z.2.keep h1 h2⟩⟩
 | ins C fs=>obtain⟨dx,vs,q1,q2⟩:=h;exact⟨dx,vs,e.trans q1,HC.mapP q2 λ_ _ z=>⟨z.1,z.2.keep h1 h2⟩⟩
 | fK ds=>obtain⟨dx,vs,q1,q2⟩:=h;exact⟨dx,vs,e.trans q1,HC.mapP q2 λ_ _ z=>⟨z.1,z.2.keep h1 h2⟩⟩
 | fT ds=>obtain⟨dx,vs,q1,q2⟩:=h;exact⟨dx,vs,e.trans q1,HC.mapP q2 λ_ _ z=>⟨z.1,z.2.keep h1 h2⟩⟩
 | mem L=>obtain⟨vs,q1,q2⟩:=h;exact⟨vs,e.trans q1,q2⟩
theorem Ea.mono'(l:∀(n:Nat) a,ρ[n]?=some a->ρ'[n]?=some a)(h:Ea K ρ H a o):Ea K ρ' H a o:=by
 cases o with
 | lst ds=>obtain⟨vs,h1,h2⟩:=h;exact⟨vs,h1,h2.more l⟩
 | dK ds=>obtain⟨vs,h1,h2⟩:=h;exact⟨vs,h1,HC.mapP h2 λ_ _ z=>⟨z.1,z.2.more l⟩⟩
 | dT ds=>obtain⟨vs,h1,h2⟩:=h;exact⟨vs,h1,HC.mapP h2 λ_ _ z=>⟨z.1,z.2.more l⟩⟩
 | ins C fs=>obtain⟨dx,vs,h1,h2⟩:=h;exact⟨dx,vs,h1,HC.mapP h2 λ_ _ z=>⟨z.1,z.2.more l⟩⟩
 | fK ds=>obtain⟨dx,vs,h1,h2⟩:=h;exact⟨dx,vs,h1,HC.mapP h2 λ_ _ z=>⟨z.1,z.2.more l⟩⟩
 | fT ds=>obtain⟨dx,vs,h1,h2⟩:=h;exact⟨dx,vs,h1,HC.mapP h2 λ_ _ z=>⟨z.1,z.2.more l⟩⟩
 | mem L=>exact h
theorem Ho(hp:H p=none∨Mut (H p)):(∀a xs,H a=some (.tup xs)->upd H p ho a=some (.tup xs))/\∀a o u,H a=some (.frz o u)->upd H p ho a=some (.frz o u):=by
 have ne:∀a u,H a=some u->¬Mut (some u)->a≠p:=λa u e nm z=>by
  subst z
  rcases hp with h | h
  ·rw[e]at h;cases h
  ·rw[e]at h;exact nm h
 refine⟨λa xs e=>?_,λa o u e=>?_⟩
 ·rw[Bi (ne a _ e λz=>z)];exact e
 ·rw[Bi (ne a _ e λz=>z)];exact e
theorem Le.fresh(hp:H p=none):Le K ρ H ρ (upd H p ho):=
 ⟨λ_ _ h=>h,(Ho (.inl hp)).1,(Ho (.inl hp)).2,λa o e n=>⟨by rw[Bi (Cn e hp)];exact e,n⟩⟩
theorem Le.write(hn:ρ[n]?=some p)(hm:Mut (H p)):Le K ρ H ρ (upd H p ho):=
 ⟨λ_ _ h=>h,(Ho (.inr hm)).1,(Ho (.inr hm)).2,λa o e h=>⟨by rw[Bi λz=>h n (by rw[z];exact hn)];exact e,h⟩⟩
theorem J4{α:Type}{l:List α}{x:α}{m:Nat}{a:α}(e:(l++[x])[m]?=some a):(l[m]?=some a/\m < l.length)∨(m=l.length/\a=x):=by
 by_cases hm:m < l.length
 ·rw[BA hm]at e;exact .inl ⟨e,hm⟩
 ·rw[Bf (by lia)]at e
  have:m - l.length=0:=by
   have:=(AC.mp e).1;simp at this;omega
  rw[this]at e;exact .inr ⟨by lia,by simpa using e.symm⟩
theorem Le.alloc(hp:H p=none):Le K ρ H (ρ++[p]) (upd H p ho):=by
 refine⟨λn a h=>by rw[BA (AC.mp h).1];exact h,(Ho (.inl hp)).1,(Ho (.inl hp)).2,λa o e h=>⟨by rw[Bi (Cn e hp)];exact e,λn q=>?_⟩⟩
 rcases J4 q with⟨q,_⟩ | ⟨_,q⟩
 ·exact h n q
 ·exact Cn e hp q
theorem CP.at(h:CP K ρ S H)(e:S[n]?=some o):∃a,ρ[n]?=some a/\Ea K ρ H a o:=by
 have hn:n < ρ.length:=by rw[h.len];exact(AC.mp e).1
 exact⟨ρ[n],by simp[hn],h.ob n o _ e (by simp[hn])⟩
theorem CP.there(h:CP K ρ S H){m:Nat}(e:ρ[m]?=some a):∃o,S[m]?=some o/\Ea K ρ H a o:=by
 have hn:m < S.length:=by rw[<-h.len];exact(AC.mp e).1
 exact⟨S[m],by simp[hn],h.ob m _ a (by simp[hn]) e⟩
theorem CP.notIn(h:CP K ρ S H)(hp:H p=none){m:Nat}(e:ρ[m]?=some p):False:=by
 obtain⟨o,_,r⟩:=h.there e;exact r.has hp
theorem CP.alloc(h:CP K ρ S H)(hp:H p=none)(Θ:Ea K (ρ++[p]) (upd H p ho) p o):CP K (ρ++[p]) (S++[o]) (upd H p ho)/\Le K ρ H (ρ++[p]) (upd H p ho)/\(ρ++[p])[S.length]?=some p:=by
 have le:Le K ρ H (ρ++[p]) (upd H p ho):=Le.alloc hp
 have at':∀(m:Nat) a,(ρ++[p])[m]?=some a->(ρ[m]?=some a/\m < ρ.length)∨(m=ρ.length/\a=p):=λm a e=>J4 e
 refine⟨⟨by simp[h.len],λi j a hi hj=>?_,λm ob a hm ha=>?_⟩,le,by rw[<-h.len];simp⟩
 ·rcases at' i a hi with⟨yB,_⟩ | ⟨yB,ea⟩ <;> rcases at' j a hj with⟨xV,_⟩ | ⟨xV,ea'⟩
  ·exact h.nd i j a yB xV
  ·rw[ea']at yB;exact(h.notIn hp yB).elim
  ·rw[ea]at xV;exact(h.notIn hp xV).elim
  ·lia
 ·rcases at' m a ha with⟨ha1,wk⟩ | ⟨rfl,rfl⟩
  ·rw[BA (by rw[<-h.len];exact wk)]at hm
   refine(h.ob m ob a hm ha1).mono le (Bi λz=>?_);rw[z]at ha1;exact h.notIn hp ha1
  ·rw[h.len]at hm
   simp at hm;subst hm;exact Θ
theorem CP.write(h:CP K ρ S H)(hn:ρ[n]?=some a)(Θ:Ea K ρ (upd H a ho) a o)(le:Le K ρ H ρ (upd H a ho)):CP K ρ (S.set n o) (upd H a ho)/\Le K ρ H ρ (upd H a ho):=by
 refine⟨⟨by simp[h.len],h.nd,λm ob b hm hb=>?_⟩,le⟩
 by_cases e:m=n
 ·subst e
  rw[hn]at hb;cases hb;rw[Ap (by rw[<-h.len];exact(AC.mp hn).1)]at hm;cases hm;exact Θ
 ·rw[Ac (Bs e)]at hm
  refine(h.ob m ob b hm hb).mono le (Bi λz=>?_);subst z;exact e (h.nd m n b hb hn)
theorem Le.back{S':Sto}(l:Le K ρ H ρ' H')(s:CP K ρ S H)(s':CP K ρ' S' H')(hp:H' p=none):H p=none:=by
 cases q:H p with
 | none=>rfl
 | some o=>
  by_cases hn:∃n:Nat,ρ[n]?=some p
  ·obtain⟨n,hn⟩:=hn
   exact(s'.notIn hp (l.pre n p hn)).elim
  ·have:=(l.oth p o q λn h=>hn ⟨n,h⟩).1
   rw[hp]at this;cases this
theorem CP.adopt(h:CP K ρ S H)(hn:∀m:Nat,ρ[m]?≠some p)(Θ:Ea K (ρ++[p]) H p o):CP K (ρ++[p]) (S++[o]) H/\(ρ++[p])[S.length]?=some p:=by
 have le:∀a ob,Ea K ρ H a ob->Ea K (ρ++[p]) H a ob:=λa ob r=>by
  have l0:∀(n:Nat) a,ρ[n]?=some a->(ρ++[p])[n]?=some a:=λn a h=>by rw[BA (AC.mp h).1];exact h
  exact r.mono' l0
 refine⟨⟨by simp[h.len],λi j a hi hj=>?_,λm ob a hm ha=>?_⟩,by rw[<-h.len];simp⟩
 ·rcases J4 hi with⟨yB,_⟩ | ⟨yB,ea⟩ <;> rcases J4 hj with⟨xV,_⟩ | ⟨xV,ea'⟩
  ·exact h.nd i j a yB xV
  ·rw[ea']at yB;exact(hn i yB).elim
  ·rw[ea]at xV;exact(hn j xV).elim
  ·lia
 ·rcases J4 ha with⟨ha,wk⟩ | ⟨rfl,rfl⟩
  ·rw[BA (by rw[<-h.len];exact wk)]at hm
   exact le a ob (h.ob m ob a hm ha)
  ·rw[h.len]at hm
   simp at hm;subst hm;exact Θ
end
inductive Res(α:Type) where
 | ok (a:α) (S:Sto) | err (c:AW) (S:Sto) | bad
def Res.bind{α β:Type}(r:Res α)(f:α->Sto->Res β):Res β:=match r with
 | .ok a S=>f a S
 | .err c S=>.err c S
 | .bad=>.bad
abbrev Lo:=List (Option D)
abbrev ME:=Lo->Sto->Res D
abbrev MT:=Lo->Sto->Res Bool
abbrev ML:=Lo->Sto->Res (List D)
inductive Fl where
 | nx (e:Lo) | rt (d:D) | bk (e:Lo) | ct (e:Lo) | ex (c:AW) (e:Lo)
abbrev MS:=Lo->Sto->Res Fl
abbrev MG:=D->Lo->Sto->Res Lo
abbrev RI:=Sto->Option (List D)
abbrev MI:=Lo->Sto->Res RI
structure G5(K:AG)(ρ:List AW)(H:Hp)(e:Lo)(σ:St):Prop where
 len:e.length=σ.length
 at':∀(i:Nat) d,e[i]?=some (some d)->∃v,σ[i]?=some (some v)/\CA K ρ H d v
section
variable{K:AG}{ρ ρ':List AW}{H H':Hp}{e:Lo}{σ:St}
theorem G5.mono(l:Le K ρ H ρ' H')(h:G5 K ρ H e σ):G5 K ρ' H' e σ:=⟨h.len,λi d q=>by
 obtain⟨v,h1,h2⟩:=h.at' i d q
 exact⟨v,h1,h2.mono l⟩⟩
theorem G5.set(h:G5 K ρ H e σ)(r:CA K ρ H d v)(i:Nat):G5 K ρ H (e.set i (some d)) (σ.set i (some v)):=by
 refine⟨by simp[h.len],λj d' q=>?_⟩
 by_cases hj:i=j
 ·subst hj
  have hi:i < e.length:=by
   have:=(AC.mp q).1;simpa using this
  rw[Ap hi]at q;cases q;exact⟨v,by rw[Ap (by rw[<-h.len];exact hi)],r⟩
 ·rw[Ac hj]at q ⊢
  exact h.at' j d' q
end
abbrev EW:=AW->St->Hp->Prop
abbrev EH:=AW->Hp->Prop
abbrev noE:EW:=λ_ _ _=>False
abbrev noH:EH:=λ_ _=>False
def Cb{α:Type}(K:AG)(E:EH)(ρ:List AW)(H:Hp)(r:Res α)(k:α->Sto->Prop):Prop:=match r with
 | .ok a S=>k a S
 | .err c S=>∀ρ' H',Le K ρ H ρ' H'->CP K ρ' S H'->E c H'
 | .bad=>False
section
variable{K:AG}{E:EH}{ρ ρ1:List AW}{H H1:Hp}
theorem Cb.seq(h:Cb K E ρ H (r.bind F) k)(f:∀a S,Cb K E ρ H (F a S) k->k' a S):Cb K E ρ H r k':=by
 cases r with
 | ok a S=>exact f a S h
 | err c S=>exact h
 | bad=>exact h
theorem Cb.later(h:Cb K E ρ H r k)(l:Le K ρ H ρ1 H1):Cb K E ρ1 H1 r k:=by
 cases r with
 | ok a S=>exact h
 | err c S=>exact λρ' H' l'=>h ρ' H' (l.trans l')
 | bad=>exact h
theorem Cb.imp(h:Cb K E ρ H r k)(f:∀a S,k a S->k' a S):Cb K E ρ H r k':=by
 cases r with
 | ok a S=>exact f a S h
 | err c S=>exact h
 | bad=>exact h
theorem Cb.go(h:Cb K E ρ H r k)(l:Le K ρ H ρ1 H1)(f:∀a S,k a S->k' a S):Cb K E ρ1 H1 r k':=(h.later l).imp f
end
def okR{α:Type}:Res α->Res α
 | .ok a S=>.ok a S
 | _=>.bad
theorem Cb.okR{α:Type}{K:AG}{E:EH}{ρ:List AW}{H:Hp}{r:Res α}{k:α->Sto->Prop}(h:Cb K E ρ H (L2.okR r) k):∃a S,r=.ok a S/\k a S:=by
 cases r with
 | ok a S=>exact⟨a,S,rfl,h⟩
 | err c S=>exact h.elim
 | bad=>exact h.elim
section
variable(K:AG)(E:EW)
def gE(m:ME):TE:=λσ H Q=>∃ρ e S,G5 K ρ H e σ/\CP K ρ S H/\Cb K (λc=>E c σ) ρ H (m e S) λd S'=>∀ρ' H' x,Le K ρ H ρ' H'->CP K ρ' S' H'->CA K ρ' H' d x->Q x H'
def gT(m:MT):TT:=λσ H Q=>∃ρ e S,G5 K ρ H e σ/\CP K ρ S H/\Cb K (λc=>E c σ) ρ H (m e S) λb S'=>∀ρ' H',Le K ρ H ρ' H'->CP K ρ' S' H'->Q b H'
def gA(m:ML):TA:=λσ H Q=>∃ρ e S,G5 K ρ H e σ/\CP K ρ S H/\Cb K (λc=>E c σ) ρ H (m e S) λds S'=>∀ρ' H' xs,Le K ρ H ρ' H'->CP K ρ' S' H'->Ax K ρ' H' ds xs->Q xs H'
def gL(m:ML):TE:=λσ H Q=>∃ρ e S,G5 K ρ H e σ/\CP K ρ S H/\Cb K (λc=>E c σ) ρ H (m e S) λds S'=>∀ρ' H' p xs,Le K ρ H ρ' H'->CP K ρ' S' H'->Ax K ρ' H' ds xs->H' p=some (.lst xs)->(∀n:Nat,ρ'[n]?≠some p)->H p=none->Q (.ref p) H'
def gQ(m:ML):TE:=λσ H Q=>∃ρ e S,G5 K ρ H e σ/\CP K ρ S H/\Cb K (λc=>E c σ) ρ H (m e S) λds S'=>∀ρ' H' p xs,Le K ρ H ρ' H'->CP K ρ' S' H'->Ax K ρ' H' ds xs->(SqL K H' p xs∨SqT K H' p xs)->Q (.ref p) H'
def R4(K:AG)(E:EW)(ρ:List AW)(H:Hp)(S':Sto)(D:eS):Fl->Prop
 | .ex c e'=>∀ρ' H' σ',Le K ρ H ρ' H'->CP K ρ' S' H'->G5 K ρ' H' e' σ'->E c σ' H'
 | .nx e'=>∀ρ' H' σ',Le K ρ H ρ' H'->CP K ρ' S' H'->G5 K ρ' H' e' σ'->D.nx σ' H'
 | .bk e'=>∀ρ' H' σ',Le K ρ H ρ' H'->CP K ρ' S' H'->G5 K ρ' H' e' σ'->D.bk σ' H'
 | .ct e'=>∀ρ' H' σ',Le K ρ H ρ' H'->CP K ρ' S' H'->G5 K ρ' H' e' σ'->D.ct σ' H'
 | .rt d=>∀ρ' H' x,Le K ρ H ρ' H'->CP K ρ' S' H'->CA K ρ' H' d x->D.rt x H'
def gS(m:MS):TS:=λD σ H=>∃ρ e S,G5 K ρ H e σ/\CP K ρ S H/\Cb K noH ρ H (m e S) λfl S'=>R4 K E ρ H S' D fl
def gG(m:MG):TG:=λv σ H Q=>∃ρ e S d,CA K ρ H d v/\G5 K ρ H e σ/\CP K ρ S H/\Cb K noH ρ H (m d e S) λe' S'=>∀ρ' H' σ',Le K ρ H ρ' H'->CP K ρ' S' H'->G5 K ρ' H' e' σ'->Q σ' H'
def Mu(ρ0:List AW)(H0:Hp)(J:It)(v:RI):Prop:=∀ρ H S ds (i:Nat),Le K ρ0 H0 ρ H->CP K ρ S H->v S=some ds ->
 (ds[i]?=none->J.stop i H)/\∀d,ds[i]?=some d->J.go i H/\∀x H',J.yld i H x H'->∃ρ',Le K ρ H ρ' H'/\CP K ρ' S H'/\CA K ρ' H' d x
def gI(m:MI):TI:=λσ H R=>∃ρ e S,G5 K ρ H e σ/\CP K ρ S H/\Cb K (λc=>E c σ) ρ H (m e S) λv S'=>∀ρ' H' J,Le K ρ H ρ' H'->CP K ρ' S' H'->Mu K ρ' H' J v->R J H'
end
abbrev GE(X:Cx)(E:EW)(e:Expr)(m:ME):Prop:=PE X e (gE X.K E m)
abbrev GT(X:Cx)(E:EW)(e:Expr)(m:MT):Prop:=PT X e (gT X.K E m)
abbrev GA(X:Cx)(E:EW)(es:List Expr)(m:ML):Prop:=PA X es (gA X.K E m)
abbrev GL(X:Cx)(E:EW)(e:Expr)(m:ML):Prop:=PE X e (gL X.K E m)
abbrev GQ(X:Cx)(E:EW)(e:Expr)(m:ML):Prop:=PE X e (gQ X.K E m)
abbrev GS(X:Cx)(E:EW)(s:DK)(m:MS):Prop:=PS X s (gS X.K E m)
abbrev GSs(X:Cx)(E:EW)(s:List DK)(m:MS):Prop:=PSs X s (gS X.K E m)
abbrev GG(X:Cx)(t:Expr)(m:MG):Prop:=PG X t (gG X.K m)
abbrev GI(X:Cx)(E:EW)(tg t:Expr)(m:MI):Prop:=PI X tg t (gI X.K E m)
theorem PE.imp(h:PE X e t)(i:∀σ H Q,t' σ H Q->t σ H Q):PE X e t':=λζ s σ H Q I q=>h ζ s σ H Q I (i σ H Q q)
theorem PT.imp(h:PT X e t)(i:∀σ H Q,t' σ H Q->t σ H Q):PT X e t':=λζ s σ H Q I q=>h ζ s σ H Q I (i σ H Q q)
theorem PW.imp(h:PW X e t)(i:∀σ H Q,t' σ H Q->t σ H Q):PW X e t':=λwh ζ s σ H Q I q=>h wh ζ s σ H Q I (i σ H Q q)
theorem PA.imp(h:PA X e t)(i:∀σ H Q,t' σ H Q->t σ H Q):PA X e t':=λpos ζ s σ H Q I q=>h pos ζ s σ H Q I (i σ H Q q)
theorem PS.imp(h:PS X e t)(i:∀D σ H,t' D σ H->t D σ H):PS X e t':=λζ s σ H D I q=>h ζ s σ H D I (i D σ H q)
theorem PSs.imp(h:PSs X e t)(i:∀D σ H,t' D σ H->t D σ H):PSs X e t':=λζ s σ H D I q=>h ζ s σ H D I (i D σ H q)
theorem PG.imp(h:PG X e t)(i:∀v σ H Q,t' v σ H Q->t v σ H Q):PG X e t':=λζ s σ H v u Q I r q=>h ζ s σ H v u Q I r (i v σ H Q q)
theorem PI.imp(h:PI X tg e t)(i:∀σ H R,t' σ H R->t σ H R):PI X tg e t':=λζ s σ H R I q=>h ζ s σ H R I (i σ H R q)
theorem OpR.imp(h:OpR X f r)(i:∀x y H Q,r' x y H Q->r x y H Q):OpR X f r':=λζ s σ H x y v u Q I rx ry q=>h ζ s σ H x y v u Q I rx ry (i x y H Q q)
theorem IxR.imp(h:IxR X r)(i:∀x y H Q,r' x y H Q->r x y H Q):IxR X r':=λva sl ζ s σ H x y v u Q I rx ry q=>h va sl ζ s σ H x y v u Q I rx ry (i x y H Q q)
def AE(i:Nat):ME:=λe S=>match e[i]? with
 | some (some d)=>.ok d S
 | _=>.bad
def mC(d:D):ME:=λ_ S=>.ok d S
section
variable{X:Cx}{E:EW}{e a b:Expr}{pos:Pos}{ma mb:ME}
theorem AA(h:PE X e (p7 i)):GE X E e (AE i):=h.imp λσ H Q ⟨ρ,l,S,hl,hs,hm⟩=>by
 unfold AE at hm;split at hm
 ·rename_i d' hd
  obtain⟨v,h1,h2⟩:=hl.at' i _ hd;exact⟨v,h1,hm ρ H v .refl hs h2⟩
 ·exact hm.elim
theorem i5(h:PE X e (tC v))(hd:∀ρ H,CA X.K ρ H d v):GE X E e (mC d):=h.imp λσ H Q ⟨ρ,l,S,hl,hs,hm⟩=>by
 exact hm ρ H v .refl hs (hd _ _)
theorem ge_int{i j pos}:GE X E (.Constant (.int i) j pos) (mC (.int i)):=i5 gx λ_ _=>.int i
theorem Iv{b j pos}:GE X E (.Constant (.bool b) j pos) (mC (.bl b)):=i5 uo λ_ _=>.bl b
theorem No{j pos}:GE X E (.Constant .none j pos) (mC .non):=i5 ql λ_ _=>.non
theorem UN{x j pos}:GE X E (.Constant (.str x) j pos) (mC (.str x)):=i5 qi λ_ _=>.str x
theorem Yu(hg:Gl X x)(hm:X.mg x=some (.int i tk))(hd:(x==("__debug__" : Str))=false:=by decide):GE X E (.Name x pos) (mC (.int i)):=
 i5 (mG (v:=.int i) hg hm ⟨tk,rfl⟩ hd) λ_ _=>.int i
def m2(f:D->D->Sto->Res D)(ma mb:ME):ME:=λe S=>(ma e S).bind λx S1=>(mb e S1).bind λy S2=>okR (f x y S2)
def rD(K:AG)(f:D->D->Sto->Res D):R2:=λu v H Q=>∃ρ S x y d S',CP K ρ S H/\CA K ρ H x u/\CA K ρ H y v/\f x y S=.ok d S' /\
 ∀ρ' H' z,Le K ρ H ρ' H'->CP K ρ' S' H'->CA K ρ' H' d z->Q z H'
theorem Oy{K:AG}{f:D->D->Sto->Res D}{σ:St}{H:Hp}{Q:VK}(h:gE K E (m2 f ma mb) σ H Q):tOp (rD K f) (gE K E ma) (gE K E mb) σ H Q:=by
 obtain⟨ρ,l,S,hl,hs,hm⟩:=h;refine⟨ρ,l,S,hl,hs,hm.seq λx S1 hm ρ1 H1 u l1 s1 r1=>⟨ρ1,l,S1,hl.mono l1,s1,(hm.later l1).seq λy S2 hm ρ2 H2 v l2 s2 r2=>?_⟩⟩;obtain⟨d,S',e,k⟩:=hm.okR;exact⟨ρ2,S2,x,y,d,S',s2,r1.mono l2,r2,e,λρ' H' z l' s' r'=>k ρ' H' z (l1.trans (l2.trans l')) s' r'⟩
theorem BV(ho:OpR X (Cw op) (rD X.K f))(ha:GE X E a ma)(hb:GE X E b mb):GE X E (.BinOp a op b pos) (m2 f ma mb):=(uk ho ha hb).imp λ_ _ _ h=>Oy h
theorem XC(ho:OpR X (B2 op) (rD X.K f))(ha:GE X E a ma)(hb:GE X E b mb)(hm:Cp op b=false):GE X E (.Compare a [op] [b] pos) (m2 f ma mb):=(mJ ho ha hb hm).imp λ_ _ _ h=>Oy h
theorem vT(ho:IxR X (rD X.K f))(ha:GE X E a ma)(hb:GE X E b mb)(hs:XV b:=by intro _ _;rfl):GE X E (.Subscript a b pos) (m2 f ma mb):=(ul ho ha hb hs).imp λ_ _ _ h=>Oy h
def mB(m:ME):MT:=λe S=>(m e S).bind λd S1=>match d with
 | .bl b=>.ok b S1
 | _=>.bad
def RS(d:D)(S:Sto):Option Bool:=match d with
 | .non=>some false
 | .bl b=>some b
 | .int i=>some (i != 0)
 | .tup ds=>some (!ds.isEmpty)
 | .fro ds=>some (!ds.isEmpty)
 | .ref n=>match S[n]? with
  | some (.lst ds)=>some (!ds.isEmpty)
  | some (.dK f')=>some (!f'.isEmpty)
  | _=>none
 | _=>none
def FX(m:ME):MT:=λe S=>(m e S).bind λd S1=>match RS d S1 with
 | some b=>.ok b S1
 | none=>.bad
theorem Ax.empty{K}{ρ}{H}{ds}{vs}(h:Ax K ρ H ds vs):ds.isEmpty=vs.isEmpty:=by cases h <;> rfl
theorem KVR.empty{κ:Type}{K:AG}{ρ:List AW}{H:Hp}{x:List (κ×D)}{y:List (κ×V)}(h:KVR K ρ H x y):x.isEmpty=y.isEmpty:=by cases h <;> rfl
theorem lC{K:AG}{ρ:List AW}{H:Hp}{S:Sto}{d:D}{x:V}{b:Bool}(hs:CP K ρ S H)(r:CA K ρ H d x)(h:RS d S=some b):si K x H b:=by
 cases r with
 | non=>cases h;rfl
 | bl c=>cases h;rfl
 | int i=>cases h;rfl
 | str x=>cases h
 | tup h1 h2=>cases h;rw[h2.empty];exact .inr (.inl ⟨_,.inl (.inl h1),rfl⟩)
 | fro h1 h2=>cases h;rw[h2.empty];exact .inl ⟨_,h1.sq,rfl⟩
 | exc _ _=>cases h
 | @ref n a hn=>
  obtain⟨o,ho,ro⟩:=hs.there hn;unfold RS at h;simp only[ho]at h
  cases o with
  | lst ds=>cases h;obtain⟨vs,e,rr⟩:=ro;rw[rr.empty];exact .inl ⟨_,.inl (.inl e),rfl⟩
  | dK f'=>cases h;obtain⟨vs,e,rr⟩:=ro;rw[KVR.empty rr];exact .inr (.inr ⟨_,e,rfl⟩)
  | dT f'=>cases h
  | ins C fs=>cases h
  | fK _=>cases h
  | fT _=>cases h
  | mem _=>cases h
theorem im(h:GE X E e ma)(he:∀whole,ZK e X.env whole=(do let v <-whole;ZC e.pos;Oq [v] (pA v)):=by intro _;rfl):GT X E e (mB ma):=(qS h he).imp λσ H Q ⟨ρ,l,S,hl,hs,hm⟩=>by
 refine⟨ρ,l,S,hl,hs,hm.seq λd S1 hm ρ1 H1 x l1 s1 r1=>?_⟩
 cases d <;> first | exact hm.elim | skip
 cases r1;exact⟨_,rfl,hm ρ1 H1 l1 s1⟩
theorem EM(h:GE X E e ma)(he:∀whole,ZK e X.env whole=(do let v <-whole;ZC e.pos;Oq [v] (pA v)):=by intro _;rfl):GT X E e (FX ma):=(gk h he).imp λσ H Q ⟨ρ,l,S,hl,hs,hm⟩=>by
 refine⟨ρ,l,S,hl,hs,hm.seq λd S1 hm ρ1 H1 x l1 s1 r1=>?_⟩
 cases hb:RS d S1 with
 | none=>rw[hb]at hm;exact hm.elim
 | some c=>
  rw[hb]at hm;exact⟨c,lC s1 r1 hb,hm ρ1 H1 l1 s1⟩
theorem DX{op}{f}(ho:OpR X (B2 op) (rD X.K f))(ha:GE X E a ma)(hb:GE X E b mb)(hm:Cp op b=false):GT X E (.Compare a [op] [b] pos) (mB (m2 f ma mb)):=(lZ ho ha hb hm).imp λσ H Q ⟨ρ,l,S,hl,hs,hm⟩=>by
 refine Oy (Q:=λx H'=>∃k,x=.bl k/\Q k H') ⟨ρ,l,S,hl,hs,hm.seq λd S1 hm ρ1 H1 x l1 s1 r1=>?_⟩
 cases d <;> first | exact hm.elim | skip
 cases r1;exact⟨_,rfl,hm ρ1 H1 l1 s1⟩
def OX(m:MT):MT:=λe S=>(m e S).bind λb S1=>.ok (!b) S1
def P3(ma mb:MT):MT:=λe S=>(ma e S).bind λb S1=>if b=true then mb e S1 else .ok false S1
def mOr(ma mb:MT):MT:=λe S=>(ma e S).bind λb S1=>if b=true then .ok true S1 else mb e S1
variable{ta tb:MT}{rest:List Expr}
theorem Md(h:GT X E a ta):GT X E (.UnaryOp .Not a pos) (OX ta):=(qT h).imp λσ H Q ⟨ρ,l,S,hl,hs,hm⟩=>by
 exact⟨ρ,l,S,hl,hs,hm.seq λd S1 hm ρ1 H1 l1 s1=>hm ρ1 H1 l1 s1⟩
theorem lH{K}{σ}{H}{Q}(h:gT K E (P3 ta tb) σ H Q):uS (gT K E ta) (gT K E tb) σ H Q:=by
 obtain⟨ρ,l,S,hl,hs,hm⟩:=h;refine⟨ρ,l,S,hl,hs,hm.seq λc S1 hm ρ1 H1 l1 s1=>?_⟩
 cases c with
 | true=>rw[qX rfl]at hm ⊢;exact⟨ρ1,l,S1,hl.mono l1,s1,hm.go l1 λ_ _ k ρ2 H2 l2 s2=>k ρ2 H2 (l1.trans l2) s2⟩
 | false=>rw[qY AK]at hm ⊢;exact hm ρ1 H1 l1 s1
theorem p8{K}{σ}{H}{Q}(h:gT K E (mOr ta tb) σ H Q):tOr (gT K E ta) (gT K E tb) σ H Q:=by
 obtain⟨ρ,l,S,hl,hs,hm⟩:=h;refine⟨ρ,l,S,hl,hs,hm.seq λc S1 hm ρ1 H1 l1 s1=>?_⟩
 cases c with
 | false=>rw[qY AK]at hm ⊢;exact⟨ρ1,l,S1,hl.mono l1,s1,hm.go l1 λ_ _ k ρ2 H2 l2 s2=>k ρ2 H2 (l1.trans l2) s2⟩
 | true=>rw[qX rfl]at hm ⊢;exact hm ρ1 H1 l1 s1
abbrev GW(X:Cx)(E:EW)(e:Expr)(m:MT):Prop:=PW X e (gT X.K E m)
theorem P9(ha:GT X E a ta):GW X E (.BoolOp .And [a] pos) ta:=lX ha
theorem W9(ha:GT X E a ta):GW X E (.BoolOp .Or [a] pos) ta:=qQ ha
theorem UK(ha:GT X E a ta)(hb:GW X E (.BoolOp .And (b :: rest) pos) tb):GW X E (.BoolOp .And (a :: b :: rest) pos) (P3 ta tb):=(qR ha hb).imp λ_ _ _ h=>lH h
theorem Yq(ha:GT X E a ta)(hb:GW X E (.BoolOp .Or (b :: rest) pos) tb):GW X E (.BoolOp .Or (a :: b :: rest) pos) (mOr ta tb):=(ug ha hb).imp λ_ _ _ h=>p8 h
theorem XA(h:GW X E e t):GT X E e t:=PW.pt h
def dY(ma mb:ME):ME:=λe S=>(ma e S).bind λd S1=>match d with
 | .bl true=>.ok (.bl true) S1
 | .bl false=>mb e S1
 | _=>.bad
def bd(ma:ME):ME:=λe S=>(ma e S).bind λd S1=>match d with
 | .bl c=>.ok (.bl (!c)) S1
 | _=>.bad
theorem iz{op}(h:GE X E a ma):GE X E (.BoolOp op [a] pos) ma:=qj h
theorem om(ha:GE X E a ma)(hb:GE X E (.BoolOp .Or (b :: rest) pos) mb):GE X E (.BoolOp .Or (a :: b :: rest) pos) (dY ma mb):=(uj ha hb).imp λσ H Q ⟨ρ,l,S,hl,hs,hm⟩=>by
 refine⟨ρ,l,S,hl,hs,hm.seq λc S1 hm ρ1 H1 x l1 s1 r1=>?_⟩
 cases c with
 | bl c=>
  cases r1;refine⟨c,rfl,?_⟩
  cases c with
  | false=>rw[qY AK];exact⟨ρ1,l,S1,hl.mono l1,s1,hm.go l1 λ_ _ k ρ2 H2 z l2 s2 r2=>k ρ2 H2 z (l1.trans l2) s2 r2⟩
  | true=>rw[qX rfl];exact hm ρ1 H1 _ l1 s1 (.bl true)
 | _=>exact hm.elim
theorem sK(ha:GE X E a ma):GE X E (.UnaryOp .Not a pos) (bd ma):=(qk ha).imp λσ H Q ⟨ρ,l,S,hl,hs,hm⟩=>by
 refine⟨ρ,l,S,hl,hs,hm.seq λc S1 hm ρ1 H1 x l1 s1 r1=>?_⟩
 cases c with
 | bl c=>cases r1;exact⟨c,rfl,hm ρ1 H1 _ l1 s1 (.bl _)⟩
 | _=>exact hm.elim
def W3(t:MT)(ma mb:ME):ME:=λe S=>(t e S).bind λb S1=>if b=true then ma e S1 else mb e S1
theorem QD(hc:GT X E c ta)(ha:GE X E a ma)(hb:GE X E b mb):GE X E (.IfExp c a b pos) (W3 ta ma mb):=(gy hc ha hb).imp λσ H Q ⟨ρ,l,S,hl,hs,hm⟩=>by
 refine⟨ρ,l,S,hl,hs,hm.seq λc S1 hm ρ1 H1 l1 s1=>?_⟩
 cases c with
 | true=>rw[qX rfl]at hm ⊢;exact⟨ρ1,l,S1,hl.mono l1,s1,hm.go l1 λ_ _ k ρ2 H2 z l2 s2 r2=>k ρ2 H2 z (l1.trans l2) s2 r2⟩
 | false=>rw[qY AK]at hm ⊢;exact⟨ρ1,l,S1,hl.mono l1,s1,hm.go l1 λ_ _ k ρ2 H2 z l2 s2 r2=>k ρ2 H2 z (l1.trans l2) s2 r2⟩
def m3(f g:D->D->Sto->Res D)(ma mb mc:ME):ME:=λe S=>(ma e S).bind λx S1=>(mb e S1).bind λy S2=>(okR (f x y S2)).bind λz S3=>match z with
 | .bl true=>(mc e S3).bind λw S4=>okR (g y w S4)
 | .bl false=>.ok (.bl false) S3
 | _=>.bad
def BO:ML:=λ_ S=>.ok [] S
def AO(m:ME)(r:ML):ML:=λe S=>(m e S).bind λd S1=>(r e S1).bind λds S2=>.ok (d :: ds) S2
variable{es:List Expr}{ml:ML}
theorem An:GA X E [] BO:=JG.imp λσ H Q ⟨ρ,l,S,hl,hs,hm⟩=>by
 exact hm ρ H [] .refl hs .nil
theorem AJ(ha:GE X E e ma)(hr:GA X E es ml)(hs:AY (e :: es) X.env=(false,Cc e X.env) :: AY es X.env:=by rfl):GA X E (e :: es) (AO ma ml):=(Gb ha hr hs).imp λσ H Q ⟨ρ,l,S,hl,hs,hm⟩=>by
 exact⟨ρ,l,S,hl,hs,hm.seq λd S1 hm ρ1 H1 x l1 s1 r1=>⟨ρ1,l,S1,hl.mono l1,s1,(hm.later l1).seq λxm S2 hm ρ2 H2 xs l2 s2 r2=>hm ρ2 H2 (x :: xs) (l1.trans l2) s2 (.cons (r1.mono l2) r2)⟩⟩
def Jy(m:ML):ME:=λe S=>(m e S).bind λds S1=>if ds.length<=sizeLine then .ok (.tup ds) S1 else .bad
theorem HW{K}{ρ}{H}{S}{p}{ho}(hs:CP K ρ S H)(hp:H p=none):CP K ρ S (upd H p ho)/\Le K ρ H ρ (upd H p ho):=by
 have le:Le K ρ H ρ (upd H p ho):=Le.fresh hp;refine⟨⟨hs.len,hs.nd,λn o a h1 h2=>(hs.ob n o a h1 h2).mono le (Bi λz=>?_)⟩,le⟩;subst z;exact hs.notIn hp h2
theorem Hq{x1}(h:GA X E es ml):GE X E (.Tuple es x1 pos) (Jy ml):=(qh h).imp λσ H Q ⟨ρ,l,S,hl,hs,hm⟩=>by
 refine⟨ρ,l,S,hl,hs,hm.seq λds S1 hm ρ1 H1 xs l1 s1 r1=>?_⟩;split at hm
 ·rename_i hz
  refine⟨by rw[<-r1.length];exact hz,λp hp=>?_⟩;obtain⟨s2,l2⟩:=HW (ho:=.tup xs) s1 hp;exact hm ρ1 _ _ (l1.trans l2) s2 (.tup B0 (r1.mono l2))
 ·exact hm.elim
def GJ(m:ML):ML:=λe S=>(m e S).bind λds S1=>if ds.length<=sizeLine then .ok ds S1 else .bad
theorem JH(h:GA X E es ml):GL X E (.List es pos) (GJ ml):=(qm h).imp λσ H Q ⟨ρ,l,S,hl,hs,hm⟩=>by
 refine⟨ρ,l,S,hl,hs,hm.seq λds S1 hm ρ1 H1 xs l1 s1 r1=>?_⟩;split at hm
 ·rename_i hz
  refine⟨by rw[<-r1.length];exact hz,λp hp=>?_⟩;obtain⟨s2,l2⟩:=HW (ho:=.lst xs) s1 hp;exact hm ρ1 _ p xs (l1.trans l2) s2 (r1.mono l2) B0 (λn q=>s1.notIn hp q) (l1.back hs s1 hp)
 ·exact hm.elim
def Eh(m:ML):ME:=λe S=>(m e S).bind λds S1=>.ok (.ref S1.length) (S1++[.lst ds])
theorem DH(h:GL X E e ml):GE X E e (Eh ml):=PE.imp h λσ H Q ⟨ρ,l,S,hl,hs,hm⟩=>by
 refine⟨ρ,l,S,hl,hs,hm.seq λds S1 hm ρ1 H1 p xs l1 s1 r1 hp hn zB=>?_⟩
 have l0:∀(n:Nat) a,ρ1[n]?=some a->(ρ1++[p])[n]?=some a:=λn a h=>by rw[BA (AC.mp h).1];exact h
 obtain⟨s2,at2⟩:=s1.adopt (o:=.lst ds) hn ⟨xs,hp,r1.more l0⟩;refine hm _ _ _ ⟨λn a h=>l0 n a (l1.pre n a h),l1.tup,l1.frz,λa o e h=>⟨(l1.oth a o e h).1,λn q=>?_⟩⟩ s2 (.ref at2)
 rcases J4 q with⟨q,_⟩ | ⟨_,q⟩
 ·exact(l1.oth a o e h).2 n q
 ·exact Cn e zB q
def Gj(d:D)(S:Sto):Option (List D):=match d with
 | .tup ds=>some ds
 | .fro ds=>some ds
 | .ref n=>match S[n]? with
  | some (.lst ds)=>some ds
  | _=>none
 | _=>none
def Tz(m:ME):ML:=λe S=>(m e S).bind λd S1=>match Gj d S1 with
 | some ds=>.ok ds S1
 | none=>.bad
theorem SK{K}{ρ}{H}{S}{d}{x}{ds}(hs:CP K ρ S H)(r:CA K ρ H d x)(h:Gj d S=some ds):∃p xs,x=.ref p/\Ax K ρ H ds xs/\(SqL K H p xs∨SqT K H p xs):=by
 cases r with
 | tup h1 h2=>cases h;exact⟨_,_,rfl,h2,.inr (.inl (.inl h1))⟩
 | fro h1 h2=>cases h;exact⟨_,_,rfl,h2,.inl h1.sq⟩
 | @ref n a hn=>
  obtain⟨o,ho,ro⟩:=hs.there hn;unfold Gj at h;simp only[ho]at h
  cases o with
  | lst es=>cases h;obtain⟨vs,e,rr⟩:=ro;exact⟨_,_,rfl,rr,.inl (.inl (.inl e))⟩
  | _=>cases h
 | _=>cases h
theorem ip(h:GE X E e ma):GQ X E e (Tz ma):=PE.imp h λσ H Q ⟨ρ,l,S,hl,hs,hm⟩=>by
 refine⟨ρ,l,S,hl,hs,hm.seq λx S1 hm ρ1 H1 v l1 s1 r1=>?_⟩
 cases hq:Gj x S1 with
 | none=>rw[hq]at hm;exact hm.elim
 | some ds=>
  rw[hq]at hm;obtain⟨p,xs,rfl,r2,sq⟩:=SK s1 r1 hq;exact hm ρ1 H1 p xs l1 s1 r2 sq
end
def Res.lift{α:Type}(r:Res α)(e:Lo)(f:α->Sto->Res Fl):Res Fl:=match r with
 | .ok a S=>f a S
 | .err c S=>.ok (.ex c e) S
 | .bad=>.bad
theorem Cb.lift{α:Type}{K:AG}{E:EW}{ρ ρ1:List AW}{H H1:Hp}{σ:St}{e:Lo}{D:eS}{r:Res α}{F:α->Sto->Res Fl}{k':α->Sto->Prop}(h:Cb K noH ρ1 H1 (r.lift e F) λfl S'=>R4 K E ρ H S' D fl)(hl:G5 K ρ1 H1 e σ)(l:Le K ρ H ρ1 H1)
  (f:∀a S,(Cb K noH ρ1 H1 (F a S) λfl S'=>R4 K E ρ H S' D fl)->k' a S):Cb K (λc=>E c σ) ρ1 H1 r k':=by
 cases r with
 | ok a S=>exact f a S h
 | err c S=>exact λρ' H' l' s'=>h ρ' H' σ (l.trans l') s' (hl.mono l')
 | bad=>exact h
def sNx:MS:=λe S=>.ok (.nx e) S
def Td:MS:=λ_ _=>.bad
def BE(a b:MS):MS:=λe S=>(a e S).bind λf S1=>match f with
 | .nx e1=>b e1 S1
 | f=>.ok f S1
def Ir(m:ME):MS:=λe S=>(m e S).lift e λ_ S1=>.ok (.nx e) S1
def CS(m:ME):MS:=λe S=>(m e S).lift e λd S1=>.ok (.rt d) S1
def sIf(t:MT)(a b:MS):MS:=λe S=>(t e S).lift e λc S1=>if c=true then a e S1 else b e S1
def uX(m:ME)(g:MG):MS:=λe S=>(m e S).lift e λd S1=>(g d e S1).bind λe1 S2=>.ok (.nx e1) S2
def tgN(i:Nat):MG:=λd e S=>.ok (e.set i (some d)) S
def CN(i:Nat)(m:ME):MS:=uX m (tgN i)
section
variable{X:Cx}{E:EW}{st:DK}{rest:List DK}{e:Expr}{pos:Pos}{a b:MS}{t:MT}
theorem R4.later{K}{ρ ρ1}{H H1}{S}{D}{f}(l:Le K ρ H ρ1 H1)(h:R4 K E ρ H S D f):R4 K E ρ1 H1 S D f:=by
 cases f with
 | nx e=>exact λρ' H' σ' l'=>h ρ' H' σ' (l.trans l')
 | bk e=>exact λρ' H' σ' l'=>h ρ' H' σ' (l.trans l')
 | ct e=>exact λρ' H' σ' l'=>h ρ' H' σ' (l.trans l')
 | ex c e=>exact λρ' H' σ' l'=>h ρ' H' σ' (l.trans l')
 | rt d=>exact λρ' H' x l'=>h ρ' H' x (l.trans l')
theorem Bp:GSs X E [] sNx:=lg.imp λD σ H ⟨ρ,l,S,hl,hs,hm⟩=>by
 exact hm ρ H σ .refl hs hl
theorem AQ(h1:GS X E st a)(h2:GSs X E rest b):GSs X E (st :: rest) (BE a b):=(gn h1 h2).imp λD σ H ⟨ρ,l,S,hl,hs,hm⟩=>by
 refine⟨ρ,l,S,hl,hs,hm.seq λg S1 hm=>?_⟩
 cases g with
 | nx e'=>exact λρ1 H1 σ1 l1 s1 r1=>⟨ρ1,e',S1,r1,s1,hm.go l1 λ_ _ k=>k.later l1⟩
 | rt d=>exact hm
 | bk d=>exact hm
 | ct d=>exact hm
 | ex c d=>exact hm
theorem AX(h1:GS X E st a):GSs X E [st] a:=lc h1
theorem J2:GS X E st Td:=(gq (X:=X) (st:=st)).imp λD σ H ⟨ρ,l,S,hl,hs,hm⟩=>hm.elim
theorem JZ(he:GE X E e m)(hs:HJ e none pos.line X.env=pure false:=by rfl):GS X E (.Expr e pos) (Ir m):=(lh he hs).imp λD σ H ⟨ρ,l,S,hl,hs,hm⟩=>by
 exact⟨ρ,l,S,hl,hs,hm.lift hl .refl λd S1 hm ρ1 H1 x l1 s1 r1=>hm ρ1 H1 σ l1 s1 (hl.mono l1)⟩
theorem BX(he:GE X E e m):GS X E (.Return (some e) pos) (CS m):=(qV he).imp λD σ H ⟨ρ,l,S,hl,hs,hm⟩=>by
 exact⟨ρ,l,S,hl,hs,hm.lift hl .refl λd S1 hm ρ1 H1 x l1 s1 r1=>hm ρ1 H1 x l1 s1 r1⟩
theorem DU{c}{sa sb}(hc:GT X E c t)(ha:GSs X E sa a)(hb:GSs X E sb b):GS X E (.If c sa sb pos) (sIf t a b):=(uh hc ha hb).imp λD σ H ⟨ρ,l,S,hl,hs,hm⟩=>by
 refine⟨ρ,l,S,hl,hs,hm.lift hl .refl λc S1 hm ρ1 H1 l1 s1=>?_⟩
 cases c with
 | true=>rw[qX rfl]at hm ⊢;exact⟨ρ1,l,S1,hl.mono l1,s1,hm.go l1 λ_ _ k=>k.later l1⟩
 | false=>rw[qY AK]at hm ⊢;exact⟨ρ1,l,S1,hl.mono l1,s1,hm.go l1 λ_ _ k=>k.later l1⟩
theorem nB(h:PG X tg (b5 i)):GG X tg (tgN i):=h.imp λv σ H Q ⟨ρ,l,S,d,hd,hl,hs,hm⟩=>by
 exact hm ρ H _ .refl hs (hl.set hd i)
theorem sB{i}{x}{pos'}(hN:X.N.Nodup)(hi:X.N[i]?=some x)(hx:Loc X.env.scope x)(he:GE X E e m)(hs:HJ e (some (.Name x pos')) pos.line X.env=pure false:=by rfl)
  (hf:X.fn x=true∨X.env.scope.names.lookup x=some .local:=by first | exact .inl rfl | exact .inr rfl | assumption):GS X E (.Assign [.Name x pos'] e pos) (CN i m):=(qU hN hi hx he hs hf).imp λD σ H ⟨ρ,l,S,hl,hs,hm⟩=>by
 exact⟨ρ,l,S,hl,hs,hm.lift hl .refl λd S1 hm ρ1 H1 x l1 s1 r1=>hm ρ1 H1 _ l1 s1 ((hl.mono l1).set r1 i)⟩
def M9(v:RI)(g:MG)(b:MS):Nat->Nat->Lo->Sto->Res Fl
 | k,i,e,S=>match v S with
  | none=>.bad
  | some ds=>match ds[i]? with
   | none=>.ok (.nx e) S
   | some d=>match k with
    | 0=>.bad
    | k+1=>(g d e S).bind λe1 S1=>(b e1 S1).bind λf S2=>match f with
     | .nx e2=>M9 v g b k (i+1) e2 S2
     | .ct e2=>M9 v g b k (i+1) e2 S2
     | .bk e2=>.ok (.nx e2) S2
     | .rt d=>.ok (.rt d) S2
     | .ex c e2=>.ok (.ex c e2) S2
def EQ(v:RI)(S:Sto):Nat:=match v S with
 | none=>0
 | some ds=>ds.length
def FJ(m:MI)(g:MG)(b:MS):MS:=λe S=>(m e S).lift e λv S1=>M9 v g b (EQ v S1) 0 e S1
theorem DB{tg iter}{body}{mi}{g}(hp:WD (Ao X.prog X.w) X.A X.env X.xe)(hc:X.calm=true)(hi:GI X E tg iter mi)(hg:GG X tg g)(hb:GSs X E body b)
  (hs:∀x,Go iter X.env x=pure x:=by intro _;rfl):GS X E (.For tg iter body [] pos) (FJ mi g b):=(qW hp hc hi hg hb hs).imp λD σ H ⟨ρ,l,S,hl,hs,hm⟩=>by
 refine⟨ρ,l,S,hl,hs,hm.lift hl .refl λv S1 hm ρ1 H1 J l1 s1 vo=>?_⟩;refine⟨λi n σ2 H2=>∃ρ2 e2 S2,Le X.K ρ1 H1 ρ2 H2/\G5 X.K ρ2 H2 e2 σ2/\CP X.K ρ2 S2 H2/\Cb X.K noH ρ2 H2 (M9 v g b n i e2 S2) λfl S'=>R4 X.K E ρ H S' D fl,⟨EQ v S1,ρ1,l,S1,.refl,hl.mono l1,s1,hm.later l1⟩,?_⟩;rintro i n σ2 H2 ⟨ρ2,e2,S2,l2,r2,s2,w8⟩;unfold M9 at w8
 cases hv:v S2 with
 | none=>rw[hv]at w8;exact w8.elim
 | some ds=>
  rw[hv]at w8;dsimp only at w8;obtain⟨v1,v2⟩:=vo ρ2 H2 S2 ds i l2 s2 hv
  cases hd:ds[i]? with
  | none=>
   rw[hd]at w8;exact .inl ⟨v1 hd,w8 ρ2 H2 σ2 (l1.trans l2) s2 r2⟩
  | some d=>
   rw[hd]at w8;dsimp only at w8;obtain⟨go,yl⟩:=v2 d hd
   cases n with
   | zero=>exact w8.elim
   | succ n=>
    dsimp only at w8;refine .inr ⟨go,λσ' H'=>∃ρ2 e2 S2,Le X.K ρ1 H1 ρ2 H'/\G5 X.K ρ2 H' e2 σ'/\CP X.K ρ2 S2 H'/\Cb X.K noH ρ2 H' (M9 v g b n (i+1) e2 S2) λfl S'=>R4 X.K E ρ H S' D fl,λσ' H' q=>⟨n,DL n,q⟩,λx H' y=>?_⟩;obtain⟨ρ3,l3,s3,rd⟩:=yl x H' y;refine⟨ρ3,e2,S2,d,rd,r2.mono l3,s3,(w8.later l3).seq λe3 S3 w8 ρ4 H4 σ4 l4 s4 r4=>?_⟩;refine⟨ρ4,e3,S3,r4,s4,(w8.later l4).seq λf4 S4 w8=>?_⟩
    cases f4 with
    | nx e5=>exact λρ5 H5 σ5 l5 s5 r5=>⟨ρ5,e5,S4,l2.trans (l3.trans (l4.trans l5)),r5,s5,w8.later l5⟩
    | ct e5=>exact λρ5 H5 σ5 l5 s5 r5=>⟨ρ5,e5,S4,l2.trans (l3.trans (l4.trans l5)),r5,s5,w8.later l5⟩
    | bk e5=>exact λρ5 H5 σ5 l5 s5 r5=>w8 ρ5 H5 σ5 (l1.trans (l2.trans (l3.trans (l4.trans l5)))) s5 r5
    | ex c e5=>exact λρ5 H5 σ5 l5 s5 r5=>w8 ρ5 H5 σ5 (l1.trans (l2.trans (l3.trans (l4.trans l5)))) s5 r5
    | rt d5=>exact λρ5 H5 x5 l5 s5 r5=>w8 ρ5 H5 x5 (l1.trans (l2.trans (l3.trans (l4.trans l5)))) s5 r5
def IQ(c:MT)(b:MS):Nat->MS
 | 0=>λ_ _=>.bad
 | n+1=>λe S=>(c e S).lift e λt S1=>if t=true then(b e S1).bind λf S2=>match f with
   | .nx e2=>IQ c b n e2 S2
   | .ct e2=>IQ c b n e2 S2
   | .bk e2=>.ok (.nx e2) S2
   | .rt d=>.ok (.rt d) S2
   | .ex c e2=>.ok (.ex c e2) S2
  else .ok (.nx e) S1
theorem UM{c}{body}(N:Nat)(hp:WD (Ao X.prog X.w) X.A X.env X.xe)(hc:GT X E c t)(hb:GSs X E body b):GS X E (.While c body [] pos) (IQ t b N):=(gp hp hc hb).imp λD σ H ⟨ρ,l,S,hl,hs,hm⟩=>by
 refine⟨λn σ2 H2=>∃ρ2 e2 S2,Le X.K ρ H ρ2 H2/\G5 X.K ρ2 H2 e2 σ2/\CP X.K ρ2 S2 H2/\Cb X.K noH ρ2 H2 (IQ t b n e2 S2) λfl S'=>R4 X.K E ρ H S' D fl,⟨N,ρ,l,S,.refl,hl,hs,hm⟩,?_⟩;rintro n σ2 H2 ⟨ρ2,e2,S2,l2,r2,s2,w8⟩
 cases n with
 | zero=>exact w8.elim
 | succ n=>
  refine⟨ρ2,e2,S2,r2,s2,w8.lift r2 l2 λtc S3 w8 ρ3 H3 l3 s3=>?_⟩
  cases tc with
  | false=>rw[qY AK]at w8 ⊢;exact w8 ρ3 H3 σ2 (l2.trans l3) s3 (r2.mono l3)
  | true=>
   rw[qX rfl]at w8 ⊢;refine⟨λσ' H'=>∃ρ2 e2 S2,Le X.K ρ H ρ2 H'/\G5 X.K ρ2 H' e2 σ'/\CP X.K ρ2 S2 H'/\Cb X.K noH ρ2 H' (IQ t b n e2 S2) λfl S'=>R4 X.K E ρ H S' D fl,λσ' H' q=>⟨n,DL n,q⟩,?_⟩;refine⟨ρ3,e2,S3,r2.mono l3,s3,(w8.later l3).seq λf4 S4 w8=>?_⟩
   cases f4 with
   | nx e5=>exact λρ5 H5 σ5 l5 s5 r5=>⟨ρ5,e5,S4,l2.trans (l3.trans l5),r5,s5,w8.later l5⟩
   | ct e5=>exact λρ5 H5 σ5 l5 s5 r5=>⟨ρ5,e5,S4,l2.trans (l3.trans l5),r5,s5,w8.later l5⟩
   | bk e5=>exact λρ5 H5 σ5 l5 s5 r5=>w8 ρ5 H5 σ5 (l2.trans (l3.trans l5)) s5 r5
   | ex c e5=>exact λρ5 H5 σ5 l5 s5 r5=>w8 ρ5 H5 σ5 (l2.trans (l3.trans l5)) s5 r5
   | rt d5=>exact λρ5 H5 x5 l5 s5 r5=>w8 ρ5 H5 x5 (l2.trans (l3.trans l5)) s5 r5
end
section
variable{X:Cx}{E:EW}{tg e:Expr}{m:ME}{K:AG}
def RO(d:D):RI:=λS=>match d with
 | .ref n=>match S[n]? with
  | some (.lst ds)=>some ds
  | _=>none
 | .fro ds=>some ds
 | _=>none
def Gx(ds:List D):RI:=λ_=>some ds
def vO(m:ME):MI:=λe S=>(m e S).bind λd S1=>match RO d S1 with
 | some _=>.ok (RO d) S1
 | none=>.bad
def oj(m:ME):MI:=λe S=>(m e S).bind λd S1=>match d with
 | .tup ds=>.ok (Gx ds) S1
 | _=>.bad
theorem Sx(s:CP K ρ S H)(r:CA K ρ H d (.ref a))(hv:RO d S=some ds):∃xs,SqL K H a xs/\Ax K ρ H ds xs:=by
 cases r with
 | tup h1 h2=>cases hv
 | exc _ _=>cases hv
 | fro h1 h2=>cases hv;exact⟨_,h1.sq,h2⟩
 | @ref n _ hn=>
  obtain⟨o,ho,ro⟩:=s.there hn;unfold RO at hv;simp only[ho]at hv
  cases o with
  | lst es=>
   cases hv;obtain⟨vs,e,rr⟩:=ro;exact⟨vs,.inl (.inl e),rr⟩
  | _=>cases hv
theorem Sv(r:CA K ρ H d (.ref a)):Mu K ρ H (Itl K a) (RO d):=by
 intro ρ2 H2 S ds i l s hv;obtain⟨xs,sq,rr⟩:=Sx s (r.mono l) hv;refine⟨λhn=>⟨xs,sq,by rw[<-rr.length];exact Dc.mp hn⟩,λd hd=>?_⟩;obtain⟨x,hx,rx⟩:=rr.get hd;refine⟨⟨xs,x,sq,hx⟩,λy H' ⟨e,hy⟩=>?_⟩;subst e;have:=hy xs sq;rw[hx]at this;cases this;exact⟨ρ2,.refl,s,rx⟩
theorem sH(h:GE X E e m):GI X E tg e (vO m):=(lv h).imp λσ H R ⟨ρ,l,S,hl,hs,hm⟩=>by
 refine⟨ρ,l,S,hl,hs,hm.seq λd S1 hm ρ1 H1 x l1 s1 r1=>?_⟩
 cases hv:RO d S1 with
 | none=>rw[hv]at hm;exact hm.elim
 | some ds=>
  rw[hv]at hm
  have:∃a,x=.ref a:=by
   cases r1 <;> first | exact⟨_,rfl⟩ | (cases hv;done)
  obtain⟨a,rfl⟩:=this;obtain⟨xs,sq,_⟩:=Sx s1 r1 hv;exact⟨a,rfl,⟨xs,sq⟩,hm ρ1 H1 _ l1 s1 (Sv r1)⟩
theorem Ss(h1:H a=some (.tup xs))(h2:Ax K ρ H ds xs):Mu K ρ H (Itt K a) (Gx ds):=by
 intro ρ2 H2 S xm i l s hv;cases hv;have rr:=h2.mono l;have sq:SqT K H2 a xs:=.inl (.inl (l.tup _ _ h1));refine⟨λhn=>⟨xs,sq,by rw[<-rr.length];exact Dc.mp hn⟩,λd hd=>?_⟩;obtain⟨x,hx,rx⟩:=rr.get hd;refine⟨⟨xs,x,sq,hx⟩,λy H' ⟨e,hy⟩=>?_⟩;subst e;have:=hy xs sq;rw[hx]at this;cases this;exact⟨ρ2,.refl,s,rx⟩
theorem sG(h:GE X E e m):GI X E tg e (oj m):=(qd h).imp λσ H R ⟨ρ,l,S,hl,hs,hm⟩=>by
 refine⟨ρ,l,S,hl,hs,hm.seq λd S1 hm ρ1 H1 x l1 s1 r1=>?_⟩
 cases d <;> first | exact hm.elim | skip
 cases r1 with
 | tup q1 q2=>exact⟨_,rfl,⟨_,.inl (.inl q1)⟩,hm ρ1 H1 _ l1 s1 (Ss q1 q2)⟩
def Jv(lo:Int)(n:Nat):List D:=(D4 n).map λi:Nat=>D.int (lo+i)
theorem Vg(lo:Int)(n i:Nat):(Jv lo n)[i]?=if i < n then some (.int (lo+i))else none:=by
 unfold Jv;rw[Ab]
 by_cases h:i < n
 ·rw[EB h,qX h];rfl
 ·rw[qY h,Dc.mpr (by simpa using h)];rfl
theorem Su(lo:Int)(n:Nat):Mu K ρ H (Itr lo n) (Gx (Jv lo n)):=by
 intro ρ2 H2 S xm i l s hv;cases hv;rw[Vg];refine⟨λhn=>?_,λd hd=>?_⟩
 ·split at hn
  ·cases hn
  ·rename_i h;exact Si h
 ·split at hd
  ·rename_i h
   cases hd;refine⟨h,λy H' ⟨e,hy⟩=>?_⟩;subst e;subst hy;exact⟨ρ2,.refl,s,.int _⟩
  ·cases hd
def iR1(ml:ML):MI:=λe S=>(ml e S).bind λds S1=>match ds with
 | [.int j]=>if -(2 ^ 62)<=j/\j < 2 ^ 62 then .ok (Gx (Jv 0 j.toNat)) S1 else .bad
 | _=>.bad
def iR2(ml:ML):MI:=λe S=>(ml e S).bind λds S1=>match ds with
 | [.int i,.int j]=>if -(2 ^ 62)<=i/\i < 2 ^ 62/\-(2 ^ 62)<=j/\j < 2 ^ 62 then .ok (Gx (Jv i (j - i).toNat)) S1 else .bad
 | _=>.bad
theorem Ed(hg:Gl X "range") (hm:X.mg "range" = none) (ha:GA X E [a] ml) (hs:AY [a] X.env=[(false,Cc a X.env)]:=by rfl):GI X E tg (.Call (.Name "range" p) [a] [] pos) (iR1 ml):=(dP hg hm ha hs).imp λσ H R ⟨ρ,l,S,hl,hs,hm⟩=>by
 refine⟨ρ,l,S,hl,hs,hm.seq λds S1 hm ρ1 H1 xs l1 s1 r1=>?_⟩;split at hm
 ·rename_i j
  split at hm
  ·rename_i hj
   cases r1 with
   | cons r t=>
    cases t;cases r;exact⟨j,rfl,hj.1,hj.2,hm ρ1 H1 _ l1 s1 (Su 0 j.toNat)⟩
  ·exact hm.elim
 ·exact hm.elim
theorem OQ(hg:Gl X "range") (hm:X.mg "range" = none) (ha:GA X E [a,b] ml) (hs:AY [a,b] X.env=[(false,Cc a X.env),(false,Cc b X.env)]:=by rfl) (wQ:AY [b] X.env=[(false,Cc b X.env)]:=by rfl) :
  GI X E tg (.Call (.Name "range" p) [a,b] [] pos) (iR2 ml):=(dO hg hm ha hs wQ).imp λσ H R ⟨ρ,l,S,hl,hs,hm⟩=>by
 refine⟨ρ,l,S,hl,hs,hm.seq λds S1 hm ρ1 H1 xs l1 s1 r1=>?_⟩;split at hm
 ·rename_i i j
  split at hm
  ·rename_i hj
   cases r1 with
   | cons r t=>
    cases t with
    | cons r' t=>
     cases t;cases r;cases r';exact⟨i,j,rfl,hj,hm ρ1 H1 _ l1 s1 (Su i _)⟩
  ·exact hm.elim
 ·exact hm.elim
end
def KY:List D->Lo->Sto->Res Lo
 | [],e,S=>.ok e S
 | _,_,_=>.bad
def Df(g:MG)(r:List D->Lo->Sto->Res Lo):List D->Lo->Sto->Res Lo
 | d :: ds,e,S=>(g d e S).bind λe1 S1=>r ds e1 S1
 | [],_,_=>.bad
def Jk(n:Nat)(r:List D->Lo->Sto->Res Lo):MG:=λd e S=>match d with
 | .tup ds=>if ds.length=n then r ds e S else .bad
 | _=>.bad
section
variable{X:Cx}
def gGs(K:AG)(r:List D->Lo->Sto->Res Lo):TGs:=λvs σ H Q=>∃ρ e S ds,Ax K ρ H ds vs/\G5 K ρ H e σ/\CP K ρ S H/\Cb K noH ρ H (r ds e S) λe' S'=>∀ρ' H' σ',Le K ρ H ρ' H'->CP K ρ' S' H'->G5 K ρ' H' e' σ'->Q σ' H'
abbrev GGs(X:Cx)(ts:List Expr)(r:List D->Lo->Sto->Res Lo):Prop:=PGs X ts (gGs X.K r)
theorem PGs.imp(h:PGs X ts t)(i:∀vs σ H Q,t' vs σ H Q->t vs σ H Q):PGs X ts t':=λζ s σ H vs us Q I r q=>h ζ s σ H vs us Q I r (i vs σ H Q q)
theorem Me:GGs X [] KY:=lz.imp λvs σ H Q ⟨ρ,l,S,ds,hd,hl,hs,hm⟩=>by
 cases ds with
 | nil=>cases hd;exact⟨rfl,hm ρ H σ .refl hs hl⟩
 | cons d ds=>exact hm.elim
theorem Ek(h1:GG X e g)(h2:GGs X es r)
  (hs:(IJ (e :: es) X.env).map (·.2)=ZP e X.env :: (IJ es X.env).map (·.2):=by rfl):GGs X (e :: es) (Df g r):=(gw h1 h2 hs).imp λvs σ H Q ⟨ρ,l,S,ds,hd,hl,hs,hm⟩=>by
 cases ds with
 | nil=>exact hm.elim
 | cons d ds=>
  cases hd with
  | cons q1 q2=>
   exact⟨_,_,rfl,ρ,l,S,d,q1,hl,hs,hm.seq λe1 S1 hm ρ1 H1 σ1 l1 s1 r1=>⟨ρ1,e1,S1,ds,q2.mono l1,r1,s1,hm.go l1 λ_ _ k ρ2 H2 σ2 l2 s2 r2=>k ρ2 H2 σ2 (l1.trans l2) s2 r2⟩⟩
theorem PJ(hc:X.calm=true)(h:GGs X es r)
  (hn:(IJ es X.env).length=n:=by rfl) (yH:(IJ es X.env).findIdx? (·.1)=none:=by rfl):GG X (.Tuple es k pos) (Jk n r):=(qf hc h hn yH).imp λv σ H Q ⟨ρ,l,S,d,hd,hl,hs,hm⟩=>by
 cases d <;> first | exact hm.elim | skip
 rename_i ds
 cases hd with
 | tup q1 q2=>
  unfold Jk at hm;dsimp only at hm;split at hm
  ·rename_i hlen
   exact⟨_,_,rfl,.inl (.inl q1),by rw[<-q2.length];exact hlen,ρ,l,S,ds,q2,hl,hs,hm⟩
  ·exact hm.elim
end
def spM(K:AG)(n:Nat)(f:List D->Sto->Res D):Sp:=λvs H Q E=>∃ρ ds S,ds.length=n/\Ax K ρ H ds vs/\CP K ρ S H/\Cb K (λc H'=>E (.ref c) none H') ρ H (f ds S) λd S'=>
 ∀ρ' H' x,Le K ρ H ρ' H'->CP K ρ' S' H'->CA K ρ' H' d x->Q x H'
theorem spM.len{K}{n}{f}{vs}{H}{Q}{E}(h:spM K n f vs H Q E):vs.length=n:=by
 obtain⟨ρ,ds,S,h1,h2,_⟩:=h;rw[<-h2.length];exact h1
def CB(n:Nat)(f:List D->Sto->Res D)(m:ML):ME:=λe S=>(m e S).bind λds S1=>if ds.length=n then f ds S1 else .bad
def RT(C:AW)(n:Nat)(f:List D->Sto->Res D)(m:ML):ME:=λe S=>(m e S).bind λds S1=>if ds.length+1=n then(f (.ref S1.length :: ds) (S1++[.ins C []])).bind (λd S2=>match d with
  | .non=>.ok (.ref S1.length) S2
  | _=>.bad)else .bad
def WL(E:EW)(σ:St):XK:=λv o H=>o=none/\∃c,v=.ref c/\E c σ H
section
variable{X:Cx}{E:EW}{k n:Nat}{x:Str}{e:Expr}{es:List Expr}
theorem Cb.xk{α:Type}{K:AG}{σ:St}{ρ ρ1:List AW}{H H1:Hp}{r:Res α}{k k':α->Sto->Prop}(h:Cb K (λc=>E c σ) ρ H r k)(l:Le K ρ H ρ1 H1)(f:∀a S,k a S->k' a S):Cb K (λc H'=>WL E σ (.ref c) none H') ρ1 H1 r k':=by
 cases r with
 | ok a S=>exact f a S h
 | err c S=>exact λρ' H' l' s=>⟨rfl,c,rfl,h ρ' H' (l.trans l') s⟩
 | bad=>exact h
theorem XD(F:Cq X.prog X.w X.K X.mg X.base CX k f fd ps (spM X.K n g))(hx:Mw CX X (WL E))(hr:IE k X.A)(hg:Gl X x)(hm:X.mg x=some (.ref f))(hk:Ft X.K (.ref f)=true)(hb:Binds X.K fd ps [])
  (ha:GA X E (e :: es) ml) (xu:(x==("__debug__" : Str))=false:=by decide) (he:AY (e :: es) X.env=(false,Cc e X.env) :: AY es X.env:=by rfl) (wI:(D6 pos (AY es X.env)).any (·.1)=false:=by rfl) :
  GE X E (.Call (.Name x p) (e :: es) [] pos) (CB n g ml):=(mK (E:=WL E) F hr hg hm hk hb .nil hx ha xu he wI).imp λσ H Q ⟨ρ,l,S,hl,hs,hm⟩=>by
 refine⟨ρ,l,S,hl,hs,hm.seq λds S1 hm ρ1 H1 xs l1 s1 r1=>?_⟩;split at hm
 ·rename_i hlen
  rw[CG];exact⟨ρ1,ds,S1,hlen,r1,s1,hm.xk l1 λ_ _ k ρ' H' z l' s' r'=>k ρ' H' z (l1.trans l') s' r'⟩
 ·exact hm.elim
theorem bz(M:Mk X.K C f)(F:Cq X.prog X.w X.K X.mg X.base CX k f fd ps (spM X.K n g))(hx:Mw CX X (WL E))(hr:IE (k+1) X.A)(hg:Gl X x)(hm:X.mg x=some (.ref C))(hb:Binds X.K fd ps [])
  (ha:GA X E (e :: es) ml) (xu:(x==("__debug__" : Str))=false:=by decide) (he:AY (e :: es) X.env=(false,Cc e X.env) :: AY es X.env:=by rfl) (wI:(D6 pos (AY es X.env)).any (·.1)=false:=by rfl) :
  GE X E (.Call (.Name x p) (e :: es) [] pos) (RT C n g ml):=(mF (E:=WL E) M F hr hg hm hb .nil hx ha xu he wI).imp λσ H Q ⟨ρ,l,S,hl,hs,hm⟩=>by
 refine⟨ρ,l,S,hl,hs,hm.seq λds S1 hm ρ1 H1 xs l1 s1 r1 a dx ha hdx wd=>?_⟩;split at hm
 ·rename_i hlen
  rw[CG];obtain⟨s2,l2⟩:=HW (ho:=.own a) s1 hdx
  have ha2:upd H1 dx (.own a) a=none:=by rw[Bi (Bs wd)];exact ha
  obtain⟨s3,l3,at3⟩:=s2.alloc (p:=a) (ho:=.ins C dx []) (o:=.ins C []) ha2 ⟨dx,[],B0,.nil⟩;refine⟨ρ1++[a],.ref S1.length :: ds,S1++[.ins C []],by simpa using hlen,.cons (.ref at3) (r1.mono (l2.trans l3)),s3,Cb.xk (hm.seq λz S2 hm=>hm) (l1.trans (l2.trans l3)) λz S2 hm ρ' H' y l' s' r'=>?_⟩
  cases z <;> first | exact hm.elim | skip
  cases r';exact⟨rfl,hm ρ' H' _ (l1.trans (l2.trans (l3.trans l'))) s' (.ref (l'.pre _ _ at3))⟩
 ·exact hm.elim
end
theorem KVR.lookup{K}{ρ}{H}(f:Str):∀{x:List (Str×D)} {y:List (Str×V)} {d:D},KVR K ρ H x y->x.lookup f=some d->∃v,y.lookup f=some v/\CA K ρ H d v
 | _,_,_,.nil,h=>by simp at h
 | (g,a) :: x,(g',b) :: y,d,.cons r t,h=>by
  obtain⟨r1,r2⟩:=r;dsimp only at r1 r2;subst r1;rw[Ba]at h ⊢
  cases hq:(f==g)with
  | true=>rw[hq]at h;cases h;exact⟨b,rfl,r2⟩
  | false=>rw[hq]at h;exact KVR.lookup f t h
def KO(f:Str)(v:D):List (Str×D)->List (Str×D)
 | []=>[(f,v)]
 | (g,x) :: r=>if g=f then(g,v) :: r else(g,x) :: KO f v r
theorem KVR.putF{K}{ρ}{H}(f:Str){d}{v}(rd:CA K ρ H d v):∀{x:List (Str×D)} {y:List (Str×V)},KVR K ρ H x y->KVR K ρ H (KO f d x) (putF f v y)
 | _,_,.nil=>.cons ⟨rfl,rd⟩ .nil
 | (g,a) :: x,(g',b) :: y,.cons r t=>by
  obtain⟨r1,r2⟩:=r;dsimp only at r1 r2;subst r1;unfold KO L2.putF
  by_cases hq:g=f
  ·rw[qX hq,qX hq];exact .cons ⟨rfl,rd⟩ t
  ·rw[qY hq,qY hq];exact .cons ⟨rfl,r2⟩ (KVR.putF f rd t)
theorem KVR.length{κ:Type}{K:AG}{ρ:List AW}{H:Hp}{x:List (κ×D)}{y:List (κ×V)}(h:KVR K ρ H x y):x.length=y.length:=FT h
def Dj(C:AW)(f:Str)(m:ME):ME:=λe S=>(m e S).bind λd S1=>match d with
 | .ref n=>match S1[n]? with
  | some (.ins C' fs)=>if C'=C then(match fs.lookup f with | some v=>.ok v S1 | none=>.bad)else .bad
  | _=>.bad
 | _=>.bad
def KZ(C:AW)(f:Str)(mo mv:ME):MS:=λe S=>(mv e S).lift e λv S1=>(mo e S1).lift e λd S2=>match d with
 | .ref n=>match S2[n]? with
  | some (.ins C' fs)=>if C'=C/\fs.length < 1000 then .ok (.nx e) (S2.set n (.ins C (KO f v fs)))else .bad
  | _=>.bad
 | _=>.bad
section
variable{X:Cx}{E:EW}{o e value:Expr}{m mv:ME}
theorem Co(hc:Cls X.K C)(hn:Fb X.K C f)(he:GE X E e m)(hb:ID e f X.env (Cc e X.env)=Cc e X.env:=by rfl):GE X E (.Attribute e f pos) (Dj C f m):=(qo he hb).imp λσ H Q ⟨ρ,l,S,hl,hs,hm⟩=>by
 refine⟨ρ,l,S,hl,hs,hm.seq λx S1 hm ρ1 H1 v l1 s1 r1=>?_⟩
 cases x <;> first | exact hm.elim | skip
 rename_i n;dsimp only at hm
 cases ho:S1[n]? with
 | none=>rw[ho]at hm;exact hm.elim
 | some ob=>
  rw[ho]at hm
  cases ob <;> first | exact hm.elim | skip
  rename_i C' fs;dsimp only at hm;split at hm
  ·rename_i hC
   rw[hC]at ho
   cases r1 with
   | ref xq=>
    obtain⟨dx,yA,e1,e2⟩:=s1.ob n _ _ ho xq
    cases hq:fs.lookup f with
    | none=>rw[hq]at hm;exact hm.elim
    | some w=>
     rw[hq]at hm;obtain⟨v,h3,h4⟩:=KVR.lookup f e2 hq;exact⟨_,_,dx,yA,v,rfl,e1,hc,hn,h3,hm ρ1 H1 v l1 s1 h4⟩
  ·exact hm.elim
theorem K9(hc:Cls X.K C)(hn:Fb X.K C f)(ha:GE X E o m)(hv:GE X E value mv)(hs:HJ value (some (.Attribute o f pos')) pos.line X.env=pure false:=by rfl):GS X E (.Assign [.Attribute o f pos'] value pos) (KZ C f m mv):=(qZ ha hv hs).imp λD σ H ⟨ρ,l,S,hl,hs,hm⟩=>by
 refine⟨ρ,l,S,hl,hs,hm.lift hl .refl λv S1 hm ρ1 H1 y l1 s1 r1=>⟨ρ1,l,S1,hl.mono l1,s1,(hm.later l1).lift (hl.mono l1) l1 λx S2 hm ρ2 H2 u l2 s2 r2=>?_⟩⟩
 cases x <;> first | exact hm.elim | skip
 rename_i n;dsimp only at hm
 cases ho:S2[n]? with
 | none=>rw[ho]at hm;exact hm.elim
 | some ob=>
  rw[ho]at hm
  cases ob <;> first | exact hm.elim | skip
  rename_i C' fs;dsimp only at hm;split at hm
  ·rename_i hC
   obtain⟨hC,hlen⟩:=hC;rw[hC]at ho
   cases r2 with
   | ref xq=>
    obtain⟨dx,yA,e1,e2⟩:=s2.ob n _ _ ho xq;have le:Le X.K ρ2 H2 ρ2 (upd H2 _ (.ins C dx (putF f y yA))):=Le.write xq (by rw[e1];trivial);obtain⟨s3,l3⟩:=s2.write (ho:=.ins C dx (putF f y yA)) (o:=.ins C (KO f v fs)) xq ⟨dx,_,B0,(KVR.putF f (r1.mono l2) e2).mono le⟩ le;refine⟨_,C,dx,yA,rfl,e1,hc,hn,by rw[<-KVR.length e2];exact hlen,?_⟩;exact hm ρ2 _ σ (l1.trans (l2.trans l3)) s3 (hl.mono (l1.trans (l2.trans l3)))
  ·exact hm.elim
end
def ExAt(Nw:AW->Prop)(F:Option AI->Prop)(ea C:AW)(H:Hp)(h:C9):Prop:=
 H ea=none/\Nw ea/\∃(oe:Obj) (vs:Array AI) (a0:AI),h.get? ea=some oe/\oe.cls=.ref C/\(oe.dict=none/\oe.data=.fields vs)/\vs[0]?=some a0 /\
  ((F none/\vs[1]?=some .none)∨∃(T:AW) (oT:Obj) (ts:Array AI) (fl:AI),F (some fl)/\vs[1]?=some (.ref T)/\T≠ea/\H T=none/\Nw T/\h.get? T=some oT/\oT.data=.fields ts/\ts[3]?=some fl)
def CXG(P:Bh)(w:CH):CXT:=λouter H s E e s'=>∃ea C H',e=.ref ea/\s'.os=s.os/\LY s'.gens/\Un (frs outer) [] H H' s.heap s'.heap/\HOk P w H' s'.heap/\ExAt (λb=>s.heap.get? b=none) (· = some .none) ea C H' s'.heap/\E (.ref C) none H'
theorem Inv.with(I:Inv X ζ σ H s)(z:AI->AR->Prop):Inv { X with xe:=z } ζ σ H s:=by
 obtain⟨ok,a,b,c,d,e,f,g,i,j,l⟩:=I;obtain⟨o1,o2,o3,o4,o5,o6,o7,o8,o9,o10,o11,o12,o13,o14,o15,o16,o17,o18⟩:=ok;exact⟨⟨o1,o2,o3,o4,o5,o6,o7,o8,o9,o10,o11,o12,o13,o14,o15,o16,o17,o18⟩,a,b,c,d,e,f,g,i,j,l⟩
theorem Inv.without(I:Inv { X with xe:=z } ζ σ H s):Inv X ζ σ H s:=by
 have:=I.with X.xe
 exact this
structure Good(X:Cx)(E:EW):Prop where
 pass:Mw (CXG X.prog X.w) X (WL E)
 own:WD (Ao X.prog X.w) X.A X.env X.xe
 made:∀(ζ:List (AW×Obj)) (σ:St) (H:Hp) (s:AR) (h':C9) (ea C:AW) (args:List AI),Inv X ζ σ H s->E C σ H->C9.MadeExcOf s.heap h' ea (.ref C) args->X.xe (.ref ea) { s with heap:=h' }
theorem good_none(hx:X.xe=λ_ _=>False):Good X noE:=by
 refine⟨λζ σ H s e s' I h=>?_,by rw[hx];exact WD.never,λ_ _ _ _ _ _ _ _ _ w _=>w.elim⟩;obtain⟨ea,C,H',rfl,os,bare,un,hok,x,_,c,ec,w⟩:=h;exact w.elim
def JE(n:Nat)(ds:List D):Lo:=ds.map some++Bt (n - ds.length) none
theorem Zo{K}{ρ}{H}{N}{ds}{vs}(r:Ax K ρ H ds vs):G5 K ρ H (JE N.length ds) (start N vs):=by
 refine⟨by simp[JE,start,r.length],λi d q=>?_⟩;unfold JE at q;unfold start
 by_cases hi:i < ds.length
 ·rw[BA (by simpa using hi),Ab]at q
  rw[BA (by rw[AF,<-r.length];exact hi),Ab]
  cases e:ds[i]? with
  | none=>rw[e]at q;cases q
  | some d'=>
   rw[e]at q;cases q;obtain⟨v,h1,h2⟩:=r.get e;exact⟨v,by rw[h1];rfl,h2⟩
 ·rw[Bf (by simpa using hi),D2]at q
  split at q <;> cases q
section
variable{X:Cx}
def intOp(C:Int->Int->Prop)[∀i j,Decidable (C i j)](g:Int->Int->D):D->D->Sto->Res D
 | .int i,.int j,S=>if C i j then .ok (g i j) S else .bad
 | _,_,_=>.bad
theorem ie[∀i j,Decidable (C i j)](h:intOp C g a b S=.ok d S'):∃i j,a=.int i/\b=.int j/\C i j/\d=g i j/\S'=S:=by
 unfold intOp at h;split at h
 ·split at h
  ·rename_i i j _ hc
   cases h;exact⟨_,_,rfl,rfl,hc,rfl,rfl⟩
  ·cases h
 ·cases h
theorem Qw[∀i j,Decidable (C i j)](hv:∀ρ H i j,CA X.K ρ H (g i j) (v i j))(h:OpR X f (rI C v)):OpR X f (rD X.K (intOp C g)):=h.imp λx y H Q ⟨ρ,S,a,b,d,S',hs,ra,rb,hm,k⟩=>by
 obtain⟨i,j,rfl,rfl,hc,rfl,rfl⟩:=ie hm;cases ra;cases rb;exact⟨i,j,rfl,rfl,hc,k ρ H _ .refl hs (hv _ _ _ _)⟩
theorem Ma(hv:∀ρ H i j,CA X.K ρ H (g i j) (v i j))(h:OpR X f (rI0 v)):OpR X f (rD X.K (intOp (λ_ _=>True) g)):=
 Qw (C:=λ_ _=>True) hv (h.imp λx y H Q ⟨i,j,e1,e2,_,q⟩=>⟨i,j,e1,e2,q⟩)
instance(i j:Int):Decidable (jm i j):=inferInstanceAs (Decidable (_/\_))
instance(i j:Int):Decidable (jl i j):=inferInstanceAs (Decidable (_/\_/\_))
instance(i j:Int):Decidable (eV i j):=inferInstanceAs (Decidable (_∨_))
abbrev TH:=intOp (λ_ _=>True) λi j=>.int (i - j)
abbrev rM:=intOp eV λi j=>.int (i * j)
abbrev QI:=intOp jm λi j=>.int (i / j)
abbrev Ry:=intOp (λ_ j=>0 < j) λi j=>.int (i % j)
abbrev ltD:=intOp (λ_ _=>True) λi j=>.bl (decide (i < j))
abbrev leD:=intOp (λ_ _=>True) λi j=>.bl (decide (i<=j))
abbrev gtD:=intOp (λ_ _=>True) λi j=>.bl (decide (j < i))
abbrev geD:=intOp (λ_ _=>True) λi j=>.bl (decide (j<=i))
theorem MZ:OpR X (Cw .Sub) (rD X.K TH):=Ma (λ_ _ _ _=>.int _) qu
theorem rG:OpR X (Cw .Mult) (rD X.K rM):=Qw (λ_ _ _ _=>.int _) qy
theorem P1:OpR X (Cw .FloorDiv) (rD X.K QI):=Qw (λ_ _ _ _=>.int _) mP
theorem Nf:OpR X (Cw .Mod) (rD X.K Ry):=Qw (λ_ _ _ _=>.int _) qz
theorem Ya:OpR X (B2 .Lt) (rD X.K ltD):=Ma (λ_ _ _ _=>.bl _) ur
theorem Yb:OpR X (B2 .LtE) (rD X.K leD):=Ma (λ_ _ _ _=>.bl _) ut
theorem uz:OpR X (B2 .Gt) (rD X.K gtD):=Ma (λ_ _ _ _=>.bl _) uu
theorem u0:OpR X (B2 .GtE) (rD X.K geD):=Ma (λ_ _ _ _=>.bl _) uv
def Iw:D->D->Sto->Res D
 | .int i,.int j,S=>.ok (.int (i+j)) S
 | .tup xs,.tup ys,S=>if xs.length+ys.length<=sizeLine then .ok (.tup (xs++ys)) S else .bad
 | .ref l,.ref b,S=>match S[l]?,S[b]? with
  | some (.lst xs),some (.lst ys)=>if xs.length+ys.length<=sizeLine then .ok (.ref S.length) (S++[.lst (xs++ys)])else .bad
  | _,_=>.bad
 | _,_,_=>.bad
def ue(K:AG):R2:=λx y H Q=>∃a b xs ys,x=.ref a/\y=.ref b/\H a=some (.tup xs)/\H b=some (.tup ys)/\xs.length+ys.length<=sizeLine /\
 (xs=[]->Q (.ref b) H)/\(ys=[]->Q (.ref a) H)/\(∀p,H p=none->Q (.ref p) (upd H p (.tup (xs++ys))))
theorem mS:OpR X (Cw .Add) (ue X.K):=by
 intro ζ s σ H x y v u Q I rx ry h;obtain⟨a,b,xs,ys,rfl,rfl,ha,hb,hz,q0,q1,q2⟩:=h;cases rx;cases ry;obtain⟨tx,r1,p1,_⟩:=I.tuple (a:=a) (xs:=xs) (.inl (.inl ha));obtain⟨wK,r2,p2,_⟩:=I.tuple (a:=b) (xs:=ys) (.inl (.inl hb))
 by_cases hx:xs=[]
 ·obtain⟨⟨cls,dd,data,sl⟩,ho,hc,n,hd⟩:=id p1
  obtain⟨⟨cls2,yZ,data2,za⟩,ho2,hc2,n2,hd2⟩:=id p2;simp only at hc hd hc2 hd2;subst hc hd hc2 hd2;have hi:tx=[]:=r1.nil_iff.mpr hx
  exact fA ⟨_,ho,rfl⟩ ⟨_,ho2,rfl⟩ V9 cO Lx LW (Kp _ _)
   (tuple_addW0 a b tx.toArray wK.toArray n n2 dd yZ sl za (by simp[hi])) ⟨ho,ho2,⟨.ref b,H,I,rfl,q0 hx⟩⟩
 ·exact mR ζ s σ H (.ref a) (.ref b) _ _ Q I rfl rfl ⟨a,b,xs,ys,rfl,rfl,.inl (.inl ha),.inl (.inl hb),hx,hz,q1,λ_ p hp=>q2 p hp⟩
theorem Ax.nil_of{K}{ρ}{H}{xs}{vs}(r:Ax K ρ H xs vs)(e:vs=[]):xs=[]:=by
 subst e;cases r;rfl
theorem GH:OpR X (Cw .Add) (rD X.K Iw):=(rC.or (mS.or rA)).imp λx y H Q ⟨ρ,S,a,b,d,S',hs,ra,rb,hm,k⟩=>by
 cases ra with
 | int i=>
  cases rb <;> first | (cases hm;done) | skip
  cases hm;exact .inl ⟨_,_,rfl,rfl,k ρ H _ .refl hs (.int _)⟩
 | @tup xs a1 vs h1 h2=>
  cases rb with
  | @tup ys b1 ws h3 h4=>
   unfold Iw at hm;dsimp only at hm;split at hm
   ·rename_i hz
    cases hm;refine .inr (.inl ⟨_,_,_,_,rfl,rfl,h1,h3,by rw[<-h2.length,<-h4.length];exact hz,λe=>?_,λe=>?_,λp hp=>?_⟩)
    ·rw[h2.nil_of e,kA]at k
     exact k ρ H _ .refl hs (.tup h3 h4)
    ·rw[h4.nil_of e,CG]at k
     exact k ρ H _ .refl hs (.tup h1 h2)
    ·obtain⟨s2,l2⟩:=HW (ho:=.tup (vs++ws)) hs hp
     exact k ρ _ _ l2 s2 (.tup B0 ((h2.append h4).mono l2))
   ·cases hm
  | _=>cases hm
 | @ref n a1 hn=>
  cases rb with
  | @ref m b1 xq=>
   unfold Iw at hm;dsimp only at hm;split at hm
   ·rename_i xs ys h1 h2
    split at hm
    ·rename_i hz
     cases hm;obtain⟨vs,e1,r1⟩:=hs.ob _ _ _ h1 hn;obtain⟨us,e2,r2⟩:=hs.ob _ _ _ h2 xq;refine .inr (.inr ⟨_,_,_,_,rfl,rfl,e1,e2,by rw[<-r1.length,<-r2.length];exact hz,λp hp=>?_⟩);have le:Le X.K ρ H (ρ++[p]) (upd H p (.lst (vs++us))):=Le.alloc hp;obtain⟨s2,l2,at2⟩:=hs.alloc (ho:=.lst (vs++us)) (o:=.lst (xs++ys)) hp ⟨_,B0,(r1.append r2).mono le⟩;exact k _ _ _ l2 s2 (.ref at2)
    ·cases hm
   ·cases hm
  | _=>cases hm
 | _=>cases hm
def ixD:D->D->Sto->Res D:=λa b S=>match Gj a S,b with
 | some ds,.int i=>match atI ds i with
  | some d=>.ok d S
  | none=>.bad
 | _,_=>.bad
theorem np{K}{ρ}{H}{ds}{vs}{i}{d}(r:Ax K ρ H ds vs)(h:atI ds i=some d):∃v,atI vs i=some v/\CA K ρ H d v:=by
 unfold atI at h ⊢;rw[<-r.length]
 cases hq:ixN ds.length i with
 | none=>rw[hq]at h;cases h
 | some j=>
  rw[hq]at h;exact r.get h
theorem ux:IxR X (rD X.K ixD):=(mz.or re).imp λx y H Q ⟨ρ,S,a,b,d,S',hs,ra,rb,hm,k⟩=>by
 unfold ixD at hm;split at hm
 ·rename_i ds i hq
  split at hm
  ·rename_i d' hd
   cases hm;cases rb;obtain⟨p,xs,rfl,rr,sq⟩:=SK hs ra hq;obtain⟨v,h1,h2⟩:=np rr hd
   rcases sq with sq | sq
   ·exact .inl ⟨p,xs,_,v,rfl,rfl,sq,h1,k ρ H v .refl hs h2⟩
   ·exact .inr ⟨p,xs,_,v,rfl,rfl,sq,h1,k ρ H v .refl hs h2⟩
  ·cases hm
 ·cases hm
def UH(neg:Bool)(x y:D)(S:Sto):Res D:=match y with
 | .non=>match x with
  | .non=>.ok (.bl (!neg)) S
  | _=>.ok (.bl neg) S
 | _=>.bad
theorem Wz:OpR X (B2 .Is) (rD X.K (UH false)):=q9.imp λx y H Q ⟨ρ,S,a,b,d,S',hs,ra,rb,hm,k⟩=>by
 cases rb <;> first | (cases hm;done) | skip
 refine⟨rfl,?_⟩
 cases ra <;> (cases hm;exact k ρ H _ .refl hs (.bl _))
end
def mQ(f:List D->Sto->Res D)(m:ML):ME:=λe S=>(m e S).bind λds S1=>okR (f ds S1)
section
variable{X:Cx}{E:EW}{e:Expr}{es:List Expr}{x:Str}{p pos:Pos}{ml:ML}{id T:String}{r:List V->Hp->VK->Prop}{f:List D->Sto->Res D}
def sj(K:AG)(r:List V->Hp->VK->Prop)(f:List D->Sto->Res D):Prop:=∀ρ H S ds q xs d S' (Q:VK),CP K ρ S H->Ax K ρ H ds xs->(SqL K H q xs∨SqT K H q xs)->f ds S=.ok d S' ->
 (∀ρ' H' z,Le K ρ H ρ' H'->CP K ρ' S' H'->CA K ρ' H' d z->Q z H')->r [.ref q] H Q
def ss(K:AG)(r:List V->Hp->VK->Prop)(f:List D->Sto->Res D):Prop:=∀ρ H S ds xs d S' (Q:VK),CP K ρ S H->Ax K ρ H ds xs->f ds S=.ok d S' ->
 (∀ρ' H' z,Le K ρ H ρ' H'->CP K ρ' S' H'->CA K ρ' H' d z->Q z H')->r xs H Q
def vg(K:AG)(r:List V->Hp->VK->Prop)(f:List D->Option (List D)):Prop:=∀ρ H S ds q xs es (Q:VK),CP K ρ S H->Ax K ρ H ds xs->(SqL K H q xs∨SqT K H q xs)->f ds=some es ->
 (∀ρ' H' p ys,Le K ρ H ρ' H'->CP K ρ' S H'->Ax K ρ' H' es ys->H' p=some (.lst ys)->(∀n:Nat,ρ'[n]?≠some p)->H p=none->Q (.ref p) H')->r [.ref q] H Q
theorem bv(hc:KI X (.builtin id) r)(hf:sj X.K r f)(hg:Gl X x)(hm:X.mg x=none)(hv:Fo x=some (.builtin id))(h:GQ X E e ml)(hn:x≠"__name__":=by decide) (xu:(x==("__debug__" : Str))=false:=by decide)
  (he:AY [e] X.env=(false,Cc e X.env) :: AY [] X.env:=by rfl):GE X E (.Call (.Name x p) [e] [] pos) (mQ f ml):=(NZ hc hg hm hv (Gb h JG he) hn xu he rfl).imp λσ H Q ⟨ρ,l,S,hl,hs,hm⟩=>by
 refine⟨ρ,l,S,hl,hs,hm.seq λds S1 hm ρ1 H1 q xs l1 s1 r1 sq=>?_⟩;obtain⟨d,S',e,k⟩:=hm.okR
 exact hf ρ1 H1 S1 ds q xs d S' Q s1 r1 sq e λρ' H' z l' s' r'=>k ρ' H' z (l1.trans l') s' r'
theorem b4(hc:KI X (.builtin id) r)(hf:ss X.K r f)(hg:Gl X x)(hm:X.mg x=none)(hv:Fo x=some (.builtin id))(h:GA X E (e :: es) ml)(hn:x≠"__name__":=by decide) (xu:(x==("__debug__" : Str))=false:=by decide)
  (he:AY (e :: es) X.env=(false,Cc e X.env) :: AY es X.env:=by rfl) (wI:(D6 pos (AY es X.env)).any (·.1)=false:=by rfl):GE X E (.Call (.Name x p) (e :: es) [] pos) (mQ f ml):=(NZ hc hg hm hv h hn xu he wI).imp λσ H Q ⟨ρ,l,S,hl,hs,hm⟩=>by
 refine⟨ρ,l,S,hl,hs,hm.seq λds S1 hm ρ1 H1 xs l1 s1 r1=>?_⟩;obtain⟨d,S',e,k⟩:=hm.okR
 exact hf ρ1 H1 S1 ds xs d S' Q s1 r1 e λρ' H' z l' s' r'=>k ρ' H' z (l1.trans l') s' r'
def mN(f:List D->Option (List D))(m:ML):ML:=λe S=>(m e S).bind λds S1=>match f ds with
 | some es=>.ok es S1
 | none=>.bad
theorem m9{f}(hc:KI X (.type T) r)(hf:vg X.K r f)(hg:Gl X x)(hm:X.mg x=none)(hv:Fo x=some (.type T))(h:GQ X E e ml)(hn:x≠"__name__":=by decide) (xu:(x==("__debug__" : Str))=false:=by decide)
  (he:AY [e] X.env=(false,Cc e X.env) :: AY [] X.env:=by rfl):GL X E (.Call (.Name x p) [e] [] pos) (mN f ml):=(Qs hc hg hm hv (Gb h JG he) hn xu he rfl).imp λσ H Q ⟨ρ,l,S,hl,hs,hm⟩=>by
 refine⟨ρ,l,S,hl,hs,hm.seq λds S1 hm ρ1 H1 q xs l1 s1 r1 sq=>?_⟩
 cases hq:f ds with
 | none=>rw[hq]at hm;exact hm.elim
 | some es=>
  rw[hq]at hm
  exact hf ρ1 H1 S1 ds q xs es Q s1 r1 sq hq λρ' H' p ys l' s' r' hp hn zB=>hm ρ' H' p ys (l1.trans l') s' r' hp hn (l1.back hs s1 zB)
def vE(ds:List D)(S:Sto):Res D:=.ok (.int ds.length) S
theorem qI:sj X.K (λxs H Q=>∃p ys,xs=[.ref p]/\(SqL X.K H p ys∨SqT X.K H p ys)/\Q (.int ys.length) H) vE:=λρ H S ds q xs d S' Q hs rr sq hm k=>by
 cases hm;exact⟨q,xs,rfl,sq,k ρ H _ .refl hs (by rw[rr.length];exact .int _)⟩
def RQ:List D->Sto->Res D
 | [.int i,.int j],S=>.ok (.int (if j < i then j else i)) S
 | _,_=>.bad
def Vo:List D->Sto->Res D
 | [.int i,.int j],S=>.ok (.int (if j > i then j else i)) S
 | _,_=>.bad
theorem ny:ss X.K (λxs H Q=>∃i j,xs=[.int i,.int j]/\Q (.int (if j < i then j else i)) H) RQ:=λρ H S ds xs d S' Q hs rr hm k=>by
 unfold RQ at hm;split at hm
 ·cases hm
  cases rr with
  | cons a t=>
   cases t with
   | cons b t=>
    cases t;cases a;cases b;exact⟨_,_,rfl,k ρ H _ .refl hs (.int _)⟩
 ·cases hm
theorem nz:ss X.K (λxs H Q=>∃i j,xs=[.int i,.int j]/\Q (.int (if j > i then j else i)) H) Vo:=λρ H S ds xs d S' Q hs rr hm k=>by
 unfold Vo at hm;split at hm
 ·cases hm
  cases rr with
  | cons a t=>
   cases t with
   | cons b t=>
    cases t;cases a;cases b;exact⟨_,_,rfl,k ρ H _ .refl hs (.int _)⟩
 ·cases hm
def bm(ds:List D):Option (List D):=some ds
theorem lL:vg X.K (λxs H Q=>∃p ys,xs=[.ref p]/\(SqL X.K H p ys∨SqT X.K H p ys)/\∀l,H l=none->Q (.ref l) (upd H l (.lst ys))) bm:=λρ H S ds q xs es Q hs rr sq hm k=>by
 cases hm;refine⟨q,xs,rfl,sq,λl hl=>?_⟩;obtain⟨s2,l2⟩:=HW (ho:=.lst xs) hs hl;exact k ρ _ l xs l2 s2 (rr.mono l2) B0 (λn e=>hs.notIn hl e) hl
end
def Eo(X:Cx)(scope:Ul)(N':List Str)(cl:List (Str×AW))(C:AW)(s₁:AR)(H₁:Hp)(ex:List AW)(pn:List (AW×Obj)):Cx where
 prog:=X.prog
 w:=X.w
 K:=X.K
 mg:=X.mg
 base:=X.base
 A:=X.A
 N:=N'
 s₀:=s₁
 H₀:=H₁
 env:=compEnvC scope cl C X.env
 outer:=X.stack
 stack:=X.stack
 ex:=ex
 fn:=λx=>scope.names.lookup x==some .cell
 calm:=X.calm
 pn:=pn
 xe:=λ_ _=>False
theorem XH:∀(names:List (Str×Qa)) (acc:List (Str×AW)),(∀y∈names,y.2=.free->∃c,env.cells.lookup y.1=some c)->(∀n c,acc.lookup n=some c->env.cells.lookup n=some c) ->
  ∃cl,(forIn names acc (λ(x:Str×Qa) (cs:List (Str×AW))=>match x with | (name,kind)=>if (kind==Gq)=true then do let a <-cellOf env name;pure (Ip ((name,a) :: cs))else pure (Ip cs)):Sem (List (Str×AW)))=pure cl /\
   (∀n c,cl.lookup n=some c->env.cells.lookup n=some c)/\(∀n c,acc.lookup n=some c->∃c',cl.lookup n=some c')/\∀y∈names,y.2=.free->∃c,cl.lookup y.1=some c
 | [],acc,_,ha=>⟨acc,rfl,ha,λn c h=>⟨c,h⟩,λ_ h=>nomatch h⟩
 | (n,k) :: r,acc,h,ha=>by
  rw[kB]
  by_cases hk:k=.free
  ·subst hk
   obtain⟨c,hc⟩:=h (n,.free) AT rfl
   obtain⟨cl,e,h1,h2,h3⟩:=XH r ((n,c) :: acc) (λy hy=>h y (AS _ hy)) (λm d hm=>by
    rw[Ba]at hm
    cases hq:(m==n)with
    | true=>rw[hq]at hm;cases hm;rw[eq_of_beq hq];exact hc
    | false=>rw[hq]at hm;exact ha m d hm)
   have e0:cellOf env n=pure c:=by unfold cellOf;rw[hc]
   refine⟨cl,?_,h1,λm d hm=>h2 m (if m==n then c else d) ?_,λy hy hf=>?_⟩
   ·simp only[beq_self_eq_true,if_true,e0,pure_bind]
    exact e
   ·rw[Ba]
    cases hq:(m==n)with
    | true=>rfl
    | false=>exact hm
   ·rcases AZ.mp hy with rfl | hy
    ·exact h2 n c (by rw[Ba,beq_self_eq_true])
    ·exact h3 y hy hf
  ·have hb:(k==Gq)=false:=by simpa using hk
   obtain⟨cl,e,h1,h2,h3⟩:=XH r acc (λy hy=>h y (AS _ hy)) ha;refine⟨cl,?_,h1,h2,λy hy hf=>?_⟩
   ·simp only[hb,Bb,if_false,pure_bind]
    exact e
   ·rcases AZ.mp hy with rfl | hy
    ·exact(hk hf).elim
    ·exact h3 y hy hf
theorem cF(h:∀y∈scope.names,y.2=.free->∃c,env.cells.lookup y.1=some c):∃cl,closureFor scope env=pure cl /\
  (∀n c,cl.lookup n=some c->env.cells.lookup n=some c)/\∀y∈scope.names,y.2=.free->∃c,cl.lookup y.1=some c:=by
 obtain⟨cl,e,h1,_,h3⟩:=XH scope.names [] h (λn c z=>by simp at z);refine⟨cl,?_,h1,h3⟩;unfold closureFor;exact(congrArg (λz=>z >>= λcs=>pure cs) e).trans (by rw[pure_bind])
def ah(X:Cx)(ifs:List Expr)(t:TT):Prop:=
 ∀(ζ:List (AW×Obj)) (s:AR) (σ:St) (H:Hp) (Q:Bool->Hp->Prop),Inv X ζ σ H s->t σ H Q ->
  Af (Ao X.prog X.w) X.A (forIn ifs true λc r=>if r=true then do let ok <-ZK c X.env (Cc c X.env);pure (Ip ok)else pure (Ip r)) (TP X ζ σ Q) X.xe s
theorem gt:ah X [] (λ_ H Q=>Q true H):=λζ s σ H Q I h=>wpAny_tests_nil ⟨H,I,h⟩
theorem gr(h:PT X c t):ah X [c] t:=λζ s σ H Q I q=>wpAny_tests_one (h ζ s σ H Q I q)
structure PQ(X:Cx)(scope:Ul)(own N':List Str):Prop where
 kind:scope.kind=.function
 names:∀y∈scope.names,y.2=.local->scope.names.lookup y.1=some .local
 free:∀y∈scope.names,y.2=.free->X.env.kindOf y.1=some .cell∨X.env.kindOf y.1=some .free
 len:N'.length=own.length+X.N.length
 up:∀i x,N'[own.length+i]?=some x->Vis (LR scope X.env) x->(X.N[i]?=some x/\Vis X.env.scope x/\((LR scope X.env).names.lookup x=some .cell∨(LR scope X.env).names.lookup x=some .free)/\X.env.kindOf x≠some .local)/\(x,DM)∉scope.names/\(x,Gq)∈scope.names
 vis:∀x,((LR scope X.env).names.lookup x=some .cell∨(LR scope X.env).names.lookup x=some .free)->(x,Gq)∈scope.names∨(x,DM)∈scope.names
theorem Gf:∀(names:List (Str×Qa)) (n:Nat) (acc:List (Str×AW)) (x:Str) (c:AW),(CT n names acc).lookup x=some c ->
  ((x,DM)∈names/\n<=c)∨acc.lookup x=some c
 | [],_,_,_,_,h=>.inr h
 | (y,k) :: r,n,acc,x,c,h=>by
  unfold CT at h;split at h
  ·rename_i hk
   have hk:k=.cell:=by simpa using hk
   subst hk
   rcases Gf r (n+1) _ x c h with⟨h1,h2⟩ | h1
   ·exact .inl ⟨AS _ h1,Rh h2⟩
   ·rw[Ba]at h1
    cases hb:x==y with
    | true=>rw[hb]at h1;cases h1;rw[beq_iff_eq.mp hb];exact .inl ⟨AT,AL _⟩
    | false=>rw[hb]at h1;exact .inr h1
  ·rcases Gf r n acc x c h with⟨h1,h2⟩ | h1
   ·exact .inl ⟨AS _ h1,h2⟩
   ·exact .inr h1
theorem Ds:∀(names:List (Str×Qa)) (n:Nat) (acc:List (Str×AW)) (x:Str),(∃c,acc.lookup x=some c)->∃c,(CT n names acc).lookup x=some c
 | [],_,_,_,h=>h
 | (y,k) :: r,n,acc,x,h=>by
  unfold CT;split
  ·refine Ds r (n+1) _ x ?_
   rw[Ba]
   cases hb:x==y with
   | true=>exact⟨_,rfl⟩
   | false=>exact h
  ·exact Ds r n acc x h
theorem Ei:∀(names:List (Str×Qa)) (n:Nat) (acc:List (Str×AW)) (x:Str),(x,DM)∈names->∃c,(CT n names acc).lookup x=some c/\n<=c
 | (y,k) :: r,n,acc,x,h=>by
  unfold CT
  by_cases hr:(x,DM)∈r
  ·split
   ·obtain⟨c,h1,h2⟩:=Ei r (n+1) ((y,n) :: acc) x hr
    exact⟨c,h1,Rh h2⟩
   ·exact Ei r n acc x hr
  ·rcases AZ.mp h with e | e
   ·cases e
    rw[qX (show(DM==DM)=true from rfl)];obtain⟨c,hc⟩:=Ds r (n+1) ((y,n) :: acc) y ⟨n,by rw[Ba,beq_self_eq_true]⟩
    rcases Gf r (n+1) _ y c hc with⟨h1,_⟩ | h1
    ·exact(hr h1).elim
    ·rw[Ba,beq_self_eq_true]at h1
     cases h1;exact⟨n,hc,AL _⟩
   ·exact(hr e).elim
theorem OY(hx:(x,DM)∉names)(h:acc.lookup x=some c):(CT n names acc).lookup x=some c:=by
 obtain⟨c',h'⟩:=Ds names n acc x ⟨c,h⟩
 rcases Gf names n acc x c' h' with⟨h1,_⟩ | h1
 ·exact(hx h1).elim
 ·rw[h]at h1;cases h1;exact h'
theorem LI:∀(names:List (Str×Qa)) (n:Nat) (acc:List (Str×AW)),(∀x c,acc.lookup x=some c->c < n)->(∀x y c,acc.lookup x=some c->acc.lookup y=some c->x=y) ->
  ∀x y c,(CT n names acc).lookup x=some c->(CT n names acc).lookup y=some c->x=y
 | [],_,_,_,h=>h
 | (z,k) :: r,n,acc,hl,h=>by
  unfold CT;split
  ·have key:∀x c,((z,n) :: acc).lookup x=some c->(x=z/\c=n)∨acc.lookup x=some c:=λx c q=>by
    rw[Ba]at q
    cases hb:x==z with
    | true=>rw[hb]at q;cases q;exact .inl ⟨beq_iff_eq.mp hb,rfl⟩
    | false=>rw[hb]at q;exact .inr q
   refine LI r (n+1) _ (λx c q=>?_) λx y c q1 q2=>?_
   ·rcases key x c q with⟨_,rfl⟩ | e
    ·exact DL _
    ·exact IK (hl x c e)
   ·rcases key x c q1 with⟨e,e1⟩ | e <;> rcases key y c q2 with⟨e',e1'⟩ | e'
    ·rw[e,e']
    ·subst e1;exact zX (hl _ _ e') (Cj _)
    ·subst e1';exact zX (hl _ _ e) (Cj _)
    ·exact h x y c e e'
  ·exact LI r n acc hl h
theorem LH:∀(names:List (Str×Qa)) (h:C9) (acc:List (Str×AW)) (x:Str) (c:AW),(CT h.objs.size names acc).lookup x=some c->acc.lookup x=some c∨((FS h names).IsCell c none/\h.objs.size<=c)
 | [],_,_,_,_,q=>.inl q
 | (y,k) :: r,h,acc,x,c,q=>by
  unfold CT at q;unfold FS;split at q
  ·rename_i hk
   rw[qX hk];have:=LH r (h.push { cls:=.type "cell",data:=.cell none }) ((y,h.objs.size) :: acc) x c (by rw[C0];exact q)
   rcases this with e | ⟨e,l⟩
   ·rw[Ba]at e
    cases hb:x==y with
    | true=>
     rw[hb]at e;cases e;exact .inr ⟨⟨_,Xg _ _ _ _ (Ad _ rfl),rfl⟩,AL _⟩
    | false=>rw[hb]at e;exact .inl e
   ·exact .inr ⟨e,by rw[C0]at l;exact Rh l⟩
  ·rename_i hk
   rw[qY hk];exact LH r h acc x c q
theorem ZW
  (h:Q (newEnv scope s.heap.objs.size globals (CT (s.heap.push { cls:=.type "dict",data:=.dict #[] }).objs.size scope.names cl) qual none .none (some outer) ZN) { s with heap:=FS (s.heap.push { cls:=.type "dict",data:=.dict #[] }) scope.names }) :
  Af M A (ZJ scope globals cl [] qual none .none (some outer)) Q E s:=by
 simp only[ZJ,av,if_true];refine AB (wpAny_alloc ?_);refine AB (wpAny_layCells _ (λname kind cells=>by cases hkc:kind==DM <;> simp[hkc]) _ _ _ _ ?_);rw[VU];exact AB (AM (AM h))
section
theorem aU(Sc:PQ X scope own N')(I:Inv X ζ σ H2 s2)(hf:∀b∈fp,PP X ζ H2 b)(yK:∀b∈fp,b < s2.heap.objs.size)
  (c1:∀n c,cl.lookup n=some c->X.env.cells.lookup n=some c) (c2:∀y∈scope.names,y.2=.free->∃c,cl.lookup y.1=some c)
  (xq:s2.heap.objs.size<=n) (Ι:∀x c,(CT n scope.names cl).lookup x=some c->cl.lookup x=some c∨(s.heap.IsCell c none/\n<=c)) (hHn:∀c,n<=c->H c=none)
  (hC:s2.heap.objs.size<=C) (hn:s.heap.Ns C m) (yI:s.os=s2.os) (hg:LY s.gens)
  (u:Un (frs X.stack) fp H2 H s2.heap s.heap) (hok:HOk X.prog X.w H s.heap) (zc:H C=none) :
  Inv (Eo X scope N' (CT n scope.names cl) C s2 H2 fp (X.pn++ζ)) [] (Bt own.length none++σ) H s:=by
 have cellK:∀x c v,cl.lookup x=some c->s2.heap.IsCell c v->s.heap.IsCell c v:=λx c v e ⟨o,ho,hd⟩=>by
  obtain⟨sl,q⟩:=u.any ho (I.freeC x c (c1 x c e)) λz=>(hf c z).2.2.2.2.1 x c (c1 x c e) rfl
  exact⟨_,q,hd⟩
 have clt:∀x c,cl.lookup x=some c->c < n:=λx c e=>by
  obtain⟨v,z⟩:=I.cell x c (c1 x c e);exact AV z.lt xq
 have ok':(Eo X scope N' (CT n scope.names cl) C s2 H2 fp (X.pn++ζ)).Ok:=by
  refine⟨I.ok.mod,Sc.kind,I.ok.glob,I.ok.blt,hC,LI _ _ _ clt λx y c h1 h2=>I.ok.inj x y c (c1 x c h1) (c1 y c h2),λx hx=>?_,λx c z q=>?_,I.ok.hd,I.ok.frames,.inl rfl,λb hb=>?_,I.bs,Am I.ok.bsz I.sz,λb o e hb=>?_,λb hb wc=>?_,I.stack,I.stkFree⟩
  ·rcases Sc.vis x hx with h | h
   ·exact Ds _ _ _ _ (c2 _ h rfl)
   ·obtain⟨c,hc,_⟩:=Ei scope.names n cl x h
    exact⟨c,hc⟩
  ·have z:(scope.names.lookup x==some .cell)=true:=z
   obtain⟨c',wV,hl⟩:=Ei scope.names n cl x (D7 (beq_iff_eq.mp z));have q:(CT n scope.names cl).lookup x=some c:=q;rw[wV]at q;cases q;exact Am xq hl
  ·refine⟨BF (AV (yK b hb) hC),λx c e=>?_⟩
   rcases Ι x c e with e | ⟨_,e⟩
   ·exact(hf b hb).2.2.2.2.1 x c (c1 x c e)
   ·exact Et (AV (yK b hb) (Am xq e))
  ·obtain⟨_,_,_,z,_⟩:=hf b hb
   rcases z with z | z
   ·exact I.ok.noex b o e z
   ·exact zX (AV (Ae (I.ok.bs b o e).1) z) (Cj _)
  ·obtain⟨_,z1,z2,_⟩:=hf b hb
   rcases AZ.mp (I.stkSub b wc)with e | e
   ·exact z1 e
   ·exact z2 e
 refine⟨ok',yI,hg,u,⟨m,hn,λi x v e1 e2 e3=>?_⟩,λx c e=>?_,zc,λx c e=>?_,λp hp=>?_,hok,?_⟩
 ·have hi:own.length<=i:=by
   apply Si
   intro wk;rw[BA (by simpa using wk),D2,qX wk]at e2;cases e2
  obtain⟨j,rfl⟩:∃j,i=own.length+j:=⟨i - own.length,by lia⟩
  rw[Bf (by simp)]at e2
  have e2':σ[j]?=some (some v):=by simpa using e2
  obtain⟨⟨n1,n2,n3,n4⟩,n5,n6⟩:=Sc.up j x e1 e3;obtain⟨m0,Κ,hl⟩:=I.loc;obtain⟨w',r,lk⟩:=hl j x v n1 e2' n2;refine⟨w',r,.inr ⟨n3,?_⟩⟩
  rcases lk with⟨k,_⟩ | ⟨_,c,hc,wz⟩
  ·exact(n4 k).elim
  ·obtain⟨c',wV⟩:=c2 _ n6 rfl
   have e:=c1 x c' wV;rw[hc]at e;cases e;exact⟨c,OY n5 wV,cellK x c _ wV wz⟩
 ·rcases Ι x c e with e | ⟨e,_⟩
  ·obtain⟨v,z⟩:=I.cell x c (c1 x c e)
   exact⟨v,cellK x c v e z⟩
  ·exact⟨none,e⟩
 ·rcases Ι x c e with e | ⟨_,e⟩
  ·obtain⟨v,o,ho,hd⟩:=I.cell x c (c1 x c e)
   exact u.free c o ho (I.freeC x c (c1 x c e)) λz=>(hf c z).2.2.2.2.1 x c (c1 x c e) rfl
  ·exact hHn c e
 ·have hp':p∈X.pn++ζ:=by
   have hp:p∈(X.pn++ζ)++[]:=hp;rwa [CG]at hp
  obtain⟨e,n,ne,nf,d⟩:=I.pin p hp'
  have nfs:p.1∉frs X.stack:=λz=>(AZ.mp (I.stkSub _ z)).elim ne nf
  have nfp:p.1∉fp:=λz=>(hf _ z).2.2.2.2.2 p hp' rfl
  exact⟨u.keep p.1 p.2 e n nfs nfp,u.free p.1 p.2 e n nfp,BF (AV (Ae e) hC),nfs,d⟩
 ·show(Bt own.length none++σ).length=N'.length
  rw[Ag,OD,I.len,Sc.len]
def gV(k:Nat)(wi:TI)(g:TG)(tc:TT)(te:TE):TE:=λσ H Q=>wi σ H λJ H1=>∀p,H1 p=none->∃W:Nat->Nat->St->Hp->List V->Prop,(∃m,W 0 m (Bt k none++σ) (upd H1 p (.lst [])) []) /\
 ∀i m σ' H' xs,W i m σ' H' xs->H' p=some (.lst xs)/\((J.stop i H'/\Q (.ref p) H')∨(J.go i H'/\xs.length < sizeLine/\∀x yj,J.yld i H' x yj->g x σ' yj λσ2 H2=>tc σ2 H2 λb H3=>
  if b=true then te σ2 H3 λy H4=>H4 p=some (.lst xs)/\∃m',m' < m/\W (i+1) m' σ2 (upd H4 p (.lst (xs++[y]))) (xs++[y])else ∃m',m' < m/\W (i+1) m' σ2 H3 xs))
theorem eG{X':Cx}{elt ϖ iter:Expr}{ifs:List Expr}{pos:Pos}{J:It}{it p:AW}{tn:Nat->C9->Prop}{g:TG}{tc:TT}{te:TE}{R:Result->AR->Prop}{Q:Hp->Prop}
  (hc:X'.calm=true) (hx:X'.xe=λ_ _=>False) (T:Ud X'.prog X'.w X'.K ϖ J fp it tn) (hg:PG X' ϖ g) (yk:ah X' ifs tc) (he:PE X' elt te)
  (W:Nat->Nat->St->Hp->List V->Prop) (turn:∀i m σ' H' xs,W i m σ' H' xs->H' p=some (.lst xs)/\((J.stop i H'/\Q H')∨(J.go i H'/\xs.length < sizeLine/\∀x yj,J.yld i H' x yj->g x σ' yj λσ2 H2=>tc σ2 H2 λb H3=>
   if b=true then te σ2 H3 λy H4=>H4 p=some (.lst xs)/\∃m',m' < m/\W (i+1) m' σ2 (upd H4 p (.lst (xs++[y]))) (xs++[y])else ∃m',m' < m/\W (i+1) m' σ2 H3 xs)))
  (fin:∀σ' H' s',Inv X' [] σ' H' s'->Q H'->R (.ok .next) s')
  {m0:Nat} {σ0:St} {H0:Hp} {s0:AR} (I0:Inv X' [] σ0 H0 s0) (st0:tn 0 s0.heap) (f0:∀b∈fp,PP X' [] H0 b) (w0:W 0 m0 σ0 H0 []) :
  ND (Ao X'.prog X'.w) X'.A (.compLoop (.ListComp elt [⟨ϖ,iter,ifs,0⟩] scope pos) 0 (.ref it) (.ref p) X'.env) R s0:=by
 have xF:∀{H':Hp},(∀b∈fp,H' b=none)->∀b∈fp,PP X' [] H' b:=λhn b hb=>⟨hn b hb,(f0 b hb).2⟩
 refine codeAny_loop rfl (λn s'=>∃i σ' H' xs,Inv X' [] σ' H' s'/\tn i s'.heap/\(∀b∈fp,H' b=none)/\W i n σ' H' xs) (λn s1 hI=>?_) m0 ⟨0,σ0,H0,[],I0,st0,λb hb=>(f0 b hb).1,w0⟩;obtain⟨i,σ1,H1,xs,I1,wy,fr1,w1⟩:=hI;show Af _ X'.A ((compTurn (.ListComp elt [⟨ϖ,iter,ifs,0⟩] scope pos) 0 (.ref it) (.ref p) X'.env).onRaise (λx=>do noteFrame x X'.env;theTreesLotGoes x)) _ _ s1;refine wpAny_noted ?_;rw[compTurn_list]
 have up:∀{α:Type} {t:Sem α} {P:α->AR->Prop} {E:AI->AR->Prop} {s:AR},Af (Ao X'.prog X'.w) X'.A t P X'.xe s->Af (Ao X'.prog X'.w) X'.A t P E s:=λh=>Em h (λ_ _ z=>z) λ_ _ z=>by rw[hx]at z;exact z.elim
 obtain⟨hp,Λ⟩:=turn i n σ1 H1 xs w1;refine AB (cL (AB ?_))
 rcases Λ with⟨stop,q⟩ | ⟨go,hz,step⟩
 ·refine up (thn (T.done X' rfl rfl rfl hc i [] s1 σ1 H1 X'.xe I1 (xF fr1) wy stop) λr s4 ⟨hr,I4⟩=>?_)
  subst hr;exact AM (fin σ1 H1 s4 I4 q)
 ·refine up (thn (T.item X' rfl rfl rfl hc i [] s1 σ1 H1 X'.xe I1 (xF fr1) wy go) λr s4 ⟨u,hr,h4⟩=>?_)
  subst hr;refine AB (up (thn h4 λ_ s5 ⟨x,H5,I5,r5,y5,st5,fr5⟩=>?_));have I5':=I5.pinned (xF fr5) (T.obj _ _ st5);refine AB (up (thn (hg _ s5 σ1 H5 x u _ I5' r5 (step x H5 y5)) λ_ s6 ⟨σ6,H6,I6,q6⟩=>?_))
  have tH:∀{s7:AR} {σ7:St} {H7:Hp} {ys:List V},Inv X' ([]++Tj fp s5.heap) σ7 H7 s7->(∃m',m' < n/\W (i+1) m' σ7 H7 ys)->∃m,m < n/\∃i σ' H' xs,Inv X' [] σ' H' s7/\tn i s7.heap/\(∀b∈fp,H' b=none)/\W i m σ' H' xs:=λ{s7 σ7 H7 ys} I7 ⟨m',hm,w7⟩=>by
   refine⟨m',hm,i+1,σ7,H7,ys,I7.unpinned,T.keep _ _ _ st5 λb hb o e=>(I7.pin (b,o) (BU _ (BU _ (Mb hb e)))).1,λb hb=>?_,w7⟩;obtain⟨o,e,d⟩:=T.obj _ _ st5 b hb;exact(I7.pin (b,o) (BU _ (BU _ (Mb hb e)))).2.1
  refine AB (up (thn (yk _ s6 σ6 H6 _ I6 q6) λok s7 ⟨H7,I7,q7⟩=>?_))
  cases ok with
  | false=>
   rw[qY AK]at q7;exact AM ⟨rfl,tH I7 q7⟩
  | true=>
   rw[qX rfl]at q7;refine AB (AB (up (thn (he _ s7 σ6 H7 _ I7 q7) λyv s8 ⟨y,H8,I8,r8,hp8,q8⟩=>?_)));refine AB (up (thn (Vm (X:=X') _ s8 σ6 H8 (.ref p) [y] (.ref p) [yv] (λv H9=>v=.non/\H9=upd H8 p (.lst (xs++[y]))) I8 rfl (.cons r8 .nil) ⟨p,xs,y,rfl,rfl,hp8,hz,rfl,rfl⟩) λv9 s9 ⟨v,H9,I9,r9,e9,e10⟩=>?_));subst e10;exact AM (AM ⟨rfl,tH I9 q8⟩)
end
section
theorem Vz(I2:Inv X ζ σ H2 s2)(J:Inv (Eo X scope N' cl C s2 H2 fp (X.pn++ζ)) [] σ' H' s')(hC:s2.heap.objs.size<=C)(hf:∀b∈fp,PP X ζ H2 b)
  (sb:FO C s'.heap h'):Inv X ζ σ H' { s' with heap:=h' }:=by
 have ne:∀b o,s2.heap.get? b=some o->b≠C:=λb o e=>BF (AV (Ae e) hC)
 have jb:Un (frs X.stack) fp H2 H' s2.heap s'.heap:=J.base
 have u:Un (frs X.stack) fp H2 H' s2.heap h':=by
  refine⟨λb o e n hb hx=>(sb.2 b (ne b o e)).trans (jb.keep b o e n hb hx),λb o e n hb hx=>?_,jb.free,λb o e hx=>?_,jb.tups,jb.frzs,jb.tbls⟩
  ·obtain⟨sl,q⟩:=jb.slot b o e n hb hx
   exact⟨sl,(sb.2 b (ne b o e)).trans q⟩
  ·obtain⟨o',q⟩:=jb.there b o e hx
   exact⟨o',(sb.2 b (ne b o e)).trans q⟩
 have zc:H' C=none:=J.free
 have hok:HOk X.prog X.w H' h':=λa o e=>(J.hok a o e).stay (λb u hb q=>(sb.2 b λz=>by
  subst z
  rcases hb with z | z
  ·subst z;rw[zc]at e;cases e
  ·rw[zc]at z;cases z).trans q) (λ_ q=>q) λ_ _ q=>q
 exact I2.call' (s':={ s' with heap:=h' }) (ch:=fp) J.os u hok J.bare λb hb=>by
  obtain⟨_,z1,z2,z3,z4,z5⟩:=hf b hb;exact⟨z3,z1,z4,z5⟩
theorem UY{σ:St}{E:AI->AR->Prop}{Qf:AW->Hp->Prop}{RR:AI->AW->Result->AR->Prop}{it:AW}{J:It}{tn:Nat->C9->Prop}(hc:X.calm=true)(Sc:PQ X scope own N')
  (hg:∀cl C s₁ H₁ ex pn,PG (Eo X scope N' cl C s₁ H₁ ex pn) ϖ g) (yk:∀cl C s₁ H₁ ex pn,ah (Eo X scope N' cl C s₁ H₁ ex pn) ifs tc) (he:∀cl C s₁ H₁ ex pn,PE (Eo X scope N' cl C s₁ H₁ ex pn) elt te)
  (c1:∀n c,cl.lookup n=some c->X.env.cells.lookup n=some c) (c2:∀y∈scope.names,y.2=.free->∃c,cl.lookup y.1=some c)
  (I2:Inv X ζ σ H2 s2) (T:Ud X.prog X.w X.K ϖ J fp it tn) (wa:tn 0 s2.heap) (f2:∀b∈fp,PP X ζ H2 b)
  (q2:∀p,H2 p=none->∃W:Nat->Nat->St->Hp->List V->Prop,(∃m,W 0 m (Bt own.length none++σ) (upd H2 p (.lst [])) []) /\
   ∀i m σ' H' xs,W i m σ' H' xs->H' p=some (.lst xs)/\((J.stop i H'/\Qf p H')∨(J.go i H'/\xs.length < sizeLine/\∀x yj,J.yld i H' x yj->g x σ' yj λσ2 H2=>tc σ2 H2 λb H3=>
    if b=true then te σ2 H3 λy H4=>H4 p=some (.lst xs)/\∃m',m' < m/\W (i+1) m' σ2 (upd H4 p (.lst (xs++[y]))) (xs++[y])else ∃m',m' < m/\W (i+1) m' σ2 H3 xs)))
  (hRR:∀D C cl σ' H' s',s2.heap.objs.size<=C->Inv (Eo X scope N' cl C s2 H2 fp (X.pn++ζ)) [] σ' H' s'->Qf D H'->RR (.ref D) C (.ok .next) s') :
  Af (Ao X.prog X.w) X.A (newList []) (λacc s₃=>Af (Ao X.prog X.w) X.A (ZJ scope X.env.globals cl [] X.env.qual none .none (some X.env)) (λΜ s₄=>
   ND (Ao X.prog X.w) X.A (.compStart (.ListComp elt [⟨ϖ,iter,ifs,0⟩] scope pos) 0 (.ref it) acc { Μ with scope:=LR scope X.env }) (RR acc Μ.locals) s₄) E s₃) E s2:=by
 have yK:∀b∈fp,b < s2.heap.objs.size:=λb hb=>by
  obtain⟨o,e,_⟩:=T.obj _ _ wa b hb;exact Ae e
 refine Ch (ZW ?_);dsimp only;generalize hH3:s2.heap.push { cls:=.type "list",dict:=none,data:=.seq ([]:List AI).toArray }=H3;generalize hH4:H3.push { cls:=.type "dict",data:=.dict #[] }=H4
 have hC:H3.objs.size=s2.heap.objs.size+1:=by rw[<-hH3,C0]
 have hC4:H4.objs.size=H3.objs.size+1:=by rw[<-hH4,C0]
 have hDC:s2.heap.objs.size≠H3.objs.size:=by rw[hC];exact BF (DL _)
 have yL:s2.heap.objs.size<=H3.objs.size:=by rw[hC];exact JS _
 have Ν:s2.heap.objs.size<=H4.objs.size:=by rw[hC4];exact Nat.le_succ_of_le yL
 have Ξ:∀b o,H3.get? b=some o->(FS H4 scope.names).get? b=some o:=λb o e=>Xg _ _ _ _ (hH4▸AN _ e)
 have old:∀b o,s2.heap.get? b=some o->(FS H4 scope.names).get? b=some o:=λb o e=>Ξ b o (hH3▸AN _ e)
 have hacc:(FS H4 scope.names).get? s2.heap.objs.size=some { cls:=.type "list",dict:=none,data:=.seq ([]:List AI).toArray }:=Ξ _ _ (hH3▸Ad _ rfl)
 have hns₁:(FS H4 scope.names).Ns H3.objs.size λ_=>none:=by
  have:=(C9.Ns.new H3 (.type "dict")).keeps (Xg scope.names (H3.push { cls:=.type "dict",data:=.dict #[] }));rw[hH4]at this;exact this
 have hD:H2 s2.heap.objs.size=none:=I2.hok.fresh (AL _);have u:Un (frs X.stack) fp H2 (upd H2 s2.heap.objs.size (.lst [])) s2.heap (FS H4 scope.names):=Un.laid old (AL _) hD;have hok:HOk X.prog X.w (upd H2 s2.heap.objs.size (.lst [])) (FS H4 scope.names):=I2.hok.laid old (AL _) ⟨Dz _,[],0,.nil,hacc⟩
 have hHn:∀c,s2.heap.objs.size < c->upd H2 s2.heap.objs.size (.lst []) c=none:=λc h=>by rw[Bi (Et h)];exact I2.hok.fresh (NI h)
 have zc:upd H2 s2.heap.objs.size (.lst []) H3.objs.size=none:=hHn _ (by rw[hC];exact DL _)
 have zd:∀x c,(CT H4.objs.size scope.names cl).lookup x=some c->cl.lookup x=some c∨((FS H4 scope.names).IsCell c none/\H4.objs.size<=c):=λx c e=>LH scope.names H4 cl x c e
 obtain⟨W,⟨m0,w0⟩,turn⟩:=q2 s2.heap.objs.size hD
 have loop:∀s₃:AR,s₃={ s2 with heap:=FS H4 scope.names } ->
   ND (Ao X.prog X.w) X.A (.compLoop (.ListComp elt [⟨ϖ,iter,ifs,0⟩] scope pos) 0 (.ref it) (.ref s2.heap.objs.size) (compEnvC scope (CT H4.objs.size scope.names cl) H3.objs.size X.env))
    (RR (.ref s2.heap.objs.size) H3.objs.size) s₃:=by
  rintro s₃ rfl
  have J0:Inv (Eo X scope N' (CT H4.objs.size scope.names cl) H3.objs.size s2 H2 fp (X.pn++ζ)) [] (Bt own.length none++σ) (upd H2 s2.heap.objs.size (.lst [])) { s2 with heap:=FS H4 scope.names }:=
   aU (s:={ s2 with heap:=FS H4 scope.names }) Sc I2 f2 yK c1 c2 Ν zd (λc h=>hHn c (by lia)) yL hns₁ rfl I2.bare u hok zc
  refine eG (X':=Eo X scope N' (CT H4.objs.size scope.names cl) H3.objs.size s2 H2 fp (X.pn++ζ)) (fp:=fp) (Q:=Qf s2.heap.objs.size) hc rfl T (hg _ _ _ _ _ _) (yk _ _ _ _ _ _) (he _ _ _ _ _ _) W turn (λσ' H' s' J q=>hRR _ _ _ σ' H' s' yL J q) J0 (T.keep _ _ _ wa λb _ o e=>old b o e) (λb hb=>?_) w0;obtain⟨z0,z1,z2,z3,z4,z5⟩:=f2 b hb;refine⟨by rw[Bi (BF (yK b hb))];exact z0,BF (AV (yK b hb) yL),λz=>?_,.inl hb,λx c e=>?_,λp hp=>?_⟩
  ·exact(AZ.mp (I2.stkSub _ z)).elim z1 z2
  ·rcases zd x c e with e | ⟨_,e⟩
   ·exact z4 x c (c1 x c e)
   ·exact Et (AV (yK b hb) (Am Ν e))
  ·have hp:p∈(X.pn++ζ)++[]:=hp
   rw[CG]at hp;exact z5 p hp
 exact codeAny_compStart_list (loop _ rfl) (T.self X.A 0 _ _ _ (T.keep _ _ _ wa λb _ o e=>old b o e) (loop _ rfl))
theorem mI(hc:X.calm=true)(Sc:PQ X scope own N')(hi:PI X ϖ iter wi)
  (hg:∀cl C s₁ H₁ ex pn,PG (Eo X scope N' cl C s₁ H₁ ex pn) ϖ g) (yk:∀cl C s₁ H₁ ex pn,ah (Eo X scope N' cl C s₁ H₁ ex pn) ifs tc) (he:∀cl C s₁ H₁ ex pn,PE (Eo X scope N' cl C s₁ H₁ ex pn) elt te)
  (hs:∀x,Go iter X.env x=pure x:=by intro _;rfl):PE X (.ListComp elt [⟨ϖ,iter,ifs,0⟩] scope pos) (gV own.length wi g tc te):=by
 intro ζ s σ H Q I h;rw[eval_ListComp];obtain⟨cl,ym,c1,c2⟩:=cF (scope:=scope) (env:=X.env) (λy hy hf=>I.ok.has y.1 (Sc.free y hy hf));refine cM (use:=none) rfl hs ym Sc.kind Sc.names (thn (hi ζ s σ H _ I h) λv s1 h1=>thn h1 λitv s2 h2=>?_);obtain⟨it,fp,tn,J,H2,rfl,I2,T,wa,f2,q2⟩:=h2
 refine UY (Qf:=λp H'=>Q (.ref p) H') (RR:=λacc C=>compPost (Ao X.prog X.w) X.A X.xe none (EP X ζ σ Q) acc C) hc Sc hg yk he c1 c2 I2 T wa f2 q2 λD C cl' σ' H' s' hC J q=>?_
 obtain⟨m,hn,_⟩:=J.loc;exact⟨m,hn,λh' sb=>⟨.ref D,H',Vz I2 J hC f2 sb,rfl,q⟩⟩
theorem ll{i:Nat}{y:Str}{py yM:Pos}(hc:X.calm=true)(hsw:HJ (.ListComp elt [⟨ϖ,iter,ifs,0⟩] scope pos) (some (.Name y py)) yM.line X.env=pure true)
  (hN:X.N.Nodup) (hy:X.N[i]?=some y) (zC:Loc X.env.scope y) (Sc:PQ X scope own N') (hi:PI X ϖ iter wi)
  (hg:∀cl C s₁ H₁ ex pn,PG (Eo X scope N' cl C s₁ H₁ ex pn) ϖ g) (yk:∀cl C s₁ H₁ ex pn,ah (Eo X scope N' cl C s₁ H₁ ex pn) ifs tc) (he:∀cl C s₁ H₁ ex pn,PE (Eo X scope N' cl C s₁ H₁ ex pn) elt te)
  (hs:∀x,Go iter X.env x=pure x:=by intro _;rfl) (hf:X.fn y=true∨X.env.scope.names.lookup y=some .local:=by first | exact .inl rfl | exact .inr rfl | assumption) :
  PS X (.Assign [.Name y py] (.ListComp elt [⟨ϖ,iter,ifs,0⟩] scope pos) yM) (uR (gV own.length wi g tc te) (b5 i)):=by
 intro ζ s σ H D I h;rw[exec_Assign_Name_used _ _ _ _ hsw];refine AB (cL (AB ?_));show Af _ X.A (do let _ <-comprehension (.ListComp elt [⟨ϖ,iter,ifs,0⟩] scope pos) scope X.env _ (newList []) false (Cc iter X.env) (some (ZP (.Name y py) X.env))) _ _ s;obtain⟨cl,ym,c1,c2⟩:=cF (scope:=scope) (env:=X.env) (λy hy hf=>I.ok.has y.1 (Sc.free y hy hf))
 refine AB (Em (cM (use:=some (ZP (.Name y py) X.env)) (Q:=λ_ s'=>SP X ζ D .next s') rfl hs ym Sc.kind Sc.names
  (thn (hi ζ s σ H _ I h) λv s1 h1=>thn h1 λitv s2 h2=>?_)) (λ_ s' hq=>AM (AM hq)) λ_ _ e=>e)
 obtain⟨it,fp,tn,J,H2,rfl,I2,T,wa,f2,q2⟩:=h2
 refine UY (Qf:=λp H'=>D.nx (σ.set i (some (.ref p))) H') (RR:=λacc C=>compPost (Ao X.prog X.w) X.A X.xe (some (ZP (.Name y py) X.env)) (λ_ s'=>SP X ζ D .next s') acc C) hc Sc hg yk he c1 c2 I2 T wa f2 q2 λA C cl' σ' H' s' hC J q=>?_
 obtain⟨m,hn,_⟩:=J.loc;have I3:Inv X ζ σ H' s':=Vz I2 J hC f2 (wG ..);have zc:H' C=none:=J.free
 have wz:∀x c,X.env.cells.lookup x=some c->c≠C:=λx c e z=>by
  obtain⟨v,q⟩:=I2.cell x c e;exact zX (AV q.lt (by rw[z];exact hC)) (Cj _)
 have ze:C≠X.env.locals:=Et (AV I2.lt hC);show Af _ X.A (ZP (.Name y py) X.env (.ref A)) _ _ s';refine sw (Va (v:=.ref A) I3 hN hy zC rfl (λs4 I4 ⟨a,sb,ha⟩=>?_) hf)
 have haC:C≠a:=by
  rcases ha with e | e
  ·rw[e];exact ze
  ·exact Bs (wz _ _ e)
 refine⟨m,hn.sameBut sb haC,λh' sb'=>⟨_,H',?_,q⟩⟩
 refine I4.turned (t':=s4.toks) (it:=C) (λb o hb e=>(sb'.2 b hb).trans e) zc ze (.inr (Am I2.sz hC)) wz λp hp z=>?_
 exact zX (AV (Ae (I2.pin p hp).1) (by rw[z];exact hC)) (Cj _)
end
def HI(v:RI)(g:MG)(c:MT)(m:ME):Nat->Nat->Lo->Sto->List D->Res (List D)
 | k,i,e,S,acc=>match v S with
  | none=>.bad
  | some ds=>match ds[i]? with
   | none=>.ok acc S
   | some d=>match k with
    | 0=>.bad
    | k+1=>if acc.length < sizeLine then(okR (g d e S)).bind λe1 S1=>(okR (c e1 S1)).bind λb S2=>if b=true then(okR (m e1 S2)).bind λy S3=>HI v g c m k (i+1) e1 S3 (acc++[y])else HI v g c m k (i+1) e1 S2 acc else .bad
def EL(n:Nat)(mi:MI)(g:MG)(c:MT)(m:ME):ML:=λe S=>(mi e S).bind λv S1=>HI v g c m (EQ v S1) 0 (Bt n none++e) S1 []
def G4:MT:=λ_ S=>.ok true S
section
abbrev oB(X:Cx)(E:EW)(ifs:List Expr)(c:MT):Prop:=ah X ifs (gT X.K E c)
theorem EN:oB X E [] G4:=λζ s σ H Q I ⟨ρ,l,S,hl,hs,hm⟩=>by
 exact gt ζ s σ H Q I (hm ρ H .refl hs)
theorem J3(h:GT X E e c):oB X E [e] c:=gr h
theorem G5.grow{K}{ρ}{H}{e}{σ}(n:Nat)(h:G5 K ρ H e σ):G5 K ρ H (Bt n none++e) (Bt n none++σ):=by
 refine⟨by simp[h.len],λi d q=>?_⟩
 by_cases hi:i < n
 ·rw[BA (by simpa using hi),D2,qX hi]at q
  cases q
 ·rw[Bf (by simpa using hi)]at q ⊢
  simp only[OD]at q ⊢;exact h.at' _ d q
theorem Cb.ok_of{α:Type}{K:AG}{E:EH}{ρ:List AW}{H:Hp}{r:Res α}{k:α->Sto->Prop}{a:α}{S:Sto}(e:r=.ok a S)(h:k a S):Cb K E ρ H r k:=by
 subst e;exact h
theorem Tq{α β:Type}{r:Res α}{F:α->Sto->Res β}{b:β}{S:Sto}(h:(okR r).bind F=.ok b S):∃a S1,r=.ok a S1/\F a S1=.ok b S:=by
 cases r with
 | ok a S1=>exact⟨a,S1,rfl,h⟩
 | err c S1=>cases h
 | bad=>cases h
theorem Y0:∀(k i:Nat) (e:Lo) (S:Sto) (acc:List D),HI v g c m k i e S acc≠.err er S':=by
 intro k
 induction k with
 | zero=>
  intro i e S acc h;unfold HI at h;split at h
  ·cases h
  ·split at h <;> cases h
 | succ k ih=>
  intro i e S acc h;unfold HI at h;split at h
  ·cases h
  ·split at h
   ·cases h
   ·dsimp only at h
    split at h
    ·cases h1:g _ e S with
     | ok e1 S1=>
      rw[h1]at h;dsimp only[okR,Res.bind]at h
      cases h2:c e1 S1 with
      | ok b S2=>
       rw[h2]at h;dsimp only[okR,Res.bind]at h
       cases b with
       | true=>
        rw[qX rfl]at h
        cases h3:m e1 S2 with
        | ok y S3=>rw[h3]at h;exact ih _ _ _ _ h
        | err _ _=>rw[h3]at h;cases h
        | bad=>rw[h3]at h;cases h
       | false=>
        rw[qY AK]at h;exact ih _ _ _ _ h
      | err _ _=>rw[h2]at h;cases h
      | bad=>rw[h2]at h;cases h
     | err _ _=>rw[h1]at h;cases h
     | bad=>rw[h1]at h;cases h
    ·cases h
theorem X9{K:AG}{n:Nat}{σ:St}{H:Hp}{Q:VK}(h:gL K E (EL n mi g c m) σ H Q):gV n (gI K E mi) (gG K g) (gT K noE c) (gE K noE m) σ H Q:=by
 obtain⟨ρ,l,S,hl,hs,hm⟩:=h;refine⟨ρ,l,S,hl,hs,hm.seq λv S1 hm ρ1 H1 J l1 s1 vo p hp=>?_⟩
 obtain⟨ds,S',hm,k⟩:∃ds S',HI v g c m (EQ v S1) 0 (Bt n none++l) S1 []=.ok ds S'/\∀ρ' H' p xs,Le K ρ H ρ' H'->CP K ρ' S' H'->Ax K ρ' H' ds xs->H' p=some (.lst xs)->(∀n:Nat,ρ'[n]?≠some p)->H p=none->Q (.ref p) H':=by
  cases hc:HI v g c m (EQ v S1) 0 (Bt n none++l) S1 []with
  | ok ds S'=>rw[hc]at hm;exact⟨ds,S',rfl,hm⟩
  | err c S'=>exact(Y0 _ _ _ _ _ hc).elim
  | bad=>rw[hc]at hm;exact hm.elim
 obtain⟨s1',Ο⟩:=HW (ho:=.lst []) s1 hp;have zB:H p=none:=l1.back hs s1 hp
 refine⟨λi j σ2 H2 xs=>∃ρ2 e2 S2 acc,Le K ρ1 H1 ρ2 H2/\G5 K ρ2 H2 e2 σ2/\CP K ρ2 S2 H2/\Ax K ρ2 H2 acc xs/\H2 p=some (.lst xs)/\(∀q:Nat,ρ2[q]?≠some p)/\HI v g c m j i e2 S2 acc=.ok ds S',
  ⟨EQ v S1,ρ1,_,S1,[],Ο,(hl.mono (l1.trans Ο)).grow n,s1',.nil,B0,λq e=>s1.notIn hp e,hm⟩,?_⟩
 rintro i j σ2 H2 xs ⟨ρ2,e2,S2,acc,l2,r2,s2,ra,zb,xD,w8⟩;refine⟨zb,?_⟩;unfold HI at w8
 cases hv:v S2 with
 | none=>rw[hv]at w8;cases w8
 | some vs=>
  rw[hv]at w8;dsimp only at w8;obtain⟨v1,v2⟩:=vo ρ2 H2 S2 vs i l2 s2 hv
  cases hd:vs[i]? with
  | none=>
   rw[hd]at w8;cases w8;exact .inl ⟨v1 hd,k ρ2 H2 p xs (l1.trans l2) s2 ra zb xD zB⟩
  | some d=>
   rw[hd]at w8;dsimp only at w8;obtain⟨go,yl⟩:=v2 d hd
   cases j with
   | zero=>cases w8
   | succ j=>
    dsimp only at w8;split at w8
    ·rename_i hz
     obtain⟨e3,S3,h3,w8⟩:=Tq w8;obtain⟨b,S4,h4,w8⟩:=Tq w8;refine .inr ⟨go,by rw[<-ra.length];exact hz,λx H' y=>?_⟩;obtain⟨ρ3,l3,s3,rd⟩:=yl x H' y;obtain⟨hp3,hn3⟩:=l3.oth p _ zb xD;refine⟨ρ3,e2,S2,d,rd,r2.mono l3,s3,Cb.ok_of h3 λρ4 H4 σ4 l4 s4 r4=>?_⟩;obtain⟨hp4,hn4⟩:=l4.oth p _ hp3 hn3;refine⟨ρ4,e3,S3,r4,s4,Cb.ok_of h4 λρ5 H5 l5 s5=>?_⟩;obtain⟨hp5,hn5⟩:=l5.oth p _ hp4 hn4
     cases b with
     | false=>
      rw[qY AK]at w8 ⊢;exact⟨j,DL j,ρ5,e3,S4,acc,l2.trans (l3.trans (l4.trans l5)),r4.mono l5,s5,ra.mono (l3.trans (l4.trans l5)),hp5,hn5,w8⟩
     | true=>
      rw[qX rfl]at w8 ⊢;obtain⟨yv,S5,h5,w8⟩:=Tq w8;refine⟨ρ5,e3,S4,r4.mono l5,s5,Cb.ok_of h5 λρ6 H6 y6 l6 s6 r6=>?_⟩;obtain⟨hp6,hn6⟩:=l6.oth p _ hp5 hn5
      have l7:∀xK,Le K ρ6 H6 ρ6 (upd H6 p (.lst xK))->True:=λ_ _=>trivial
      have up7:∀xK:List V,CP K ρ6 S5 (upd H6 p (.lst xK))/\(∀a o,Ea K ρ6 H6 a o->a≠p->Ea K ρ6 (upd H6 p (.lst xK)) a o)/\∀e' w',CA K ρ6 H6 e' w'->CA K ρ6 (upd H6 p (.lst xK)) e' w':=λxK=>by
       have kk:=Ho (H:=H6) (p:=p) (ho:=.lst xK) (.inr (by rw[hp6];trivial))
       have mono:∀e' w',CA K ρ6 H6 e' w'->CA K ρ6 (upd H6 p (.lst xK)) e' w':=λe' w' r=>r.keep kk.1 kk.2
       have mob:∀a o,Ea K ρ6 H6 a o->a≠p->Ea K ρ6 (upd H6 p (.lst xK)) a o:=λa o r ne=>r.keep kk.1 kk.2 (Bi ne)
       exact⟨⟨s6.len,s6.nd,λn o a q1 q2=>mob a o (s6.ob n o a q1 q2) λz=>hn6 n (by rw[<-z];exact q2)⟩,mob,mono⟩
      obtain⟨u1,u2,u3⟩:=up7 (xs++[y6]);refine⟨hp6,j,DL j,ρ6,e3,S5,acc++[yv],?_,?_,u1,?_,B0,hn6,w8⟩
      ·have lx:=l2.trans (l3.trans (l4.trans (l5.trans l6)))
       have kk:=Ho (H:=H6) (p:=p) (ho:=.lst (xs++[y6])) (.inr (by rw[hp6];trivial))
       exact⟨lx.pre,λa zs q=>kk.1 a zs (lx.tup a zs q),λa o u q=>kk.2 a o u (lx.frz a o u q),λa o q z=>by
        have nap:a≠p:=Cn q hp;obtain⟨z1,z2⟩:=lx.oth a o q z
        exact⟨by rw[Bi nap];exact z1,z2⟩⟩
      ·have rr:=r4.mono (l5.trans l6)
       exact⟨rr.len,λq d' hq=>by
        obtain⟨w',z1,z2⟩:=rr.at' q d' hq
        exact⟨w',z1,u3 _ _ z2⟩⟩
      ·have ra6:=ra.mono (l3.trans (l4.trans (l5.trans l6)))
       have kk:=Ho (H:=H6) (p:=p) (ho:=.lst (xs++[y6])) (.inr (by rw[hp6];trivial));exact(ra6.keep kk.1 kk.2).append (.cons (u3 _ _ r6) .nil)
    ·cases w8
theorem Ej(hc:X.calm=true)(Sc:PQ X scope own N')(hi:GI X E ϖ iter mi)
  (hg:∀cl C s₁ H₁ ex pn,GG (Eo X scope N' cl C s₁ H₁ ex pn) ϖ g) (yk:∀cl C s₁ H₁ ex pn,oB (Eo X scope N' cl C s₁ H₁ ex pn) noE ifs c) (he:∀cl C s₁ H₁ ex pn,GE (Eo X scope N' cl C s₁ H₁ ex pn) noE elt m)
  (hs:∀x,Go iter X.env x=pure x:=by intro _;rfl):GL X E (.ListComp elt [⟨ϖ,iter,ifs,0⟩] scope pos) (EL own.length mi g c m):=
 (mI (g:=gG X.K g) (tc:=gT X.K noE c) (te:=gE X.K noE m) hc Sc hi hg yk he hs).imp λ_ _ _ h=>X9 h
theorem QA(hc:X.calm=true)(hsw:HJ (.ListComp elt [⟨ϖ,iter,ifs,0⟩] scope pos) (some (.Name y py)) yM.line X.env=pure true)
  (hN:X.N.Nodup) (hy:X.N[i]?=some y) (zC:Loc X.env.scope y) (Sc:PQ X scope own N') (hi:GI X E ϖ iter mi)
  (hg:∀cl C s₁ H₁ ex pn,GG (Eo X scope N' cl C s₁ H₁ ex pn) ϖ g) (yk:∀cl C s₁ H₁ ex pn,oB (Eo X scope N' cl C s₁ H₁ ex pn) noE ifs c) (he:∀cl C s₁ H₁ ex pn,GE (Eo X scope N' cl C s₁ H₁ ex pn) noE elt m)
  (hs:∀x,Go iter X.env x=pure x:=by intro _;rfl) (hf:X.fn y=true∨X.env.scope.names.lookup y=some .local:=by first | exact .inl rfl | exact .inr rfl | assumption) :
  GS X E (.Assign [.Name y py] (.ListComp elt [⟨ϖ,iter,ifs,0⟩] scope pos) yM) (CN i (Eh (EL own.length mi g c m))):=by
 refine(ll (g:=gG X.K g) (tc:=gT X.K noE c) (te:=gE X.K noE m) hc hsw hN hy zC Sc hi hg yk he hs hf).imp λD σ H ⟨ρ,l,S,hl,hs,hm⟩=>?_
 refine X9 (E:=E) (Q:=λx H'=>D.nx (σ.set i (some x)) H') ⟨ρ,l,S,hl,hs,Cb.seq (F:=λds S1=>Res.ok (L2.D.ref S1.length) (S1++[Ob.lst ds])) (k:=λd S2=>Cb X.K noH ρ H ((tgN i d l S2).bind λe1 S2=>.ok (.nx e1) S2) λfl S'=>R4 X.K E ρ H S' D fl) (Cb.lift hm hl .refl λd S2 h=>h) λds S1 hm ρ1 H1 p xs l1 s1 r1 hp hn zB=>?_⟩
 have l0:∀(n:Nat) a,ρ1[n]?=some a->(ρ1++[p])[n]?=some a:=λn a h=>by rw[BA (AC.mp h).1];exact h
 obtain⟨s2,at2⟩:=s1.adopt (o:=.lst ds) hn ⟨xs,hp,r1.more l0⟩
 have l2:Le X.K ρ H (ρ1++[p]) H1:=⟨λn a h=>l0 n a (l1.pre n a h),l1.tup,l1.frz,λa o e h=>⟨(l1.oth a o e h).1,λn q=>by
  rcases J4 q with⟨q,_⟩ | ⟨_,q⟩
  ·exact(l1.oth a o e h).2 n q
  ·exact Cn e zB q⟩⟩
 exact hm _ _ _ l2 s2 ((hl.mono l2).set (.ref at2) i)
end
end L2
namespace L2
open PySem PySem.Spec PyProof.Rows PySem.SeqAt
def N0:D->D->Option Bool
 | .non,.non=>some true
 | .bl a,.bl b=>some (a==b)
 | .int a,.int b=>some (a==b)
 | .str a,.str b=>some (a==b)
 | .non,.int _=>some false
 | .non,.str _=>some false
 | .non,.bl _=>some false
 | .non,.tup _=>some false
 | .int _,.non=>some false
 | .str _,.non=>some false
 | .bl _,.non=>some false
 | .tup _,.non=>some false
 | .int _,.tup _=>some false
 | .tup _,.int _=>some false
 | _,_=>none
def eqL(f:D->D->Option Bool):List D->List D->Option Bool
 | [],[]=>some true
 | [],_ :: _=>some false
 | _ :: _,[]=>some false
 | x :: xs,y :: ys=>match f x y,eqL f xs ys with
  | some a,some b=>some (a&&b)
  | _,_=>none
def eqP:Nat->D->D->Option Bool
 | 0,x,y=>N0 x y
 | n+1,x,y=>match x,y with
  | .tup xs,.tup ys=>eqL (eqP n) xs ys
  | x,y=>N0 x y
theorem Nz(h:eqL f (x :: xs) (y :: ys)=some b):∃a c,f x y=some a/\eqL f xs ys=some c/\b=(a&&c):=by
 unfold eqL at h;split at h
 ·rename_i a c h1 h2
  cases h;exact⟨a,c,h1,h2,rfl⟩
 ·cases h
theorem cB:∀{xs ys:List D} {b:Bool},eqL f xs ys=some b->(∀(j:Nat) x y,xs[j]?=some x->ys[j]?=some y->∃c,f x y=some c) /\
  b=((D4 (min xs.length ys.length)).all (λj=>match xs[j]?,ys[j]? with | some x,some y=>(f x y).getD false | _,_=>false)&&xs.length==ys.length)
 | [],[],b,h=>by cases h;exact⟨λj x y h=>by simp at h,by simp⟩
 | [],y :: ys,b,h=>by cases h;exact⟨λj x y h=>by simp at h,by simp⟩
 | x :: xs,[],b,h=>by cases h;exact⟨λj x y _ h=>by simp at h,by simp⟩
 | x :: xs,y :: ys,b,h=>by
  obtain⟨a,c,h1,h2,rfl⟩:=Nz h;obtain⟨i1,i2⟩:=cB h2;refine⟨λj x' y' e1 e2=>?_,?_⟩
  ·cases j with
   | zero=>simp at e1 e2;subst e1;subst e2;exact⟨a,h1⟩
   | succ j=>exact i1 j x' y' (by simpa using e1) (by simpa using e2)
  ·rw[i2,At,At,show min (xs.length+1) (ys.length+1)=min xs.length ys.length+1 by lia,List.range_succ_eq_map,List.all_cons,tQ]
   simp only[List.getElem?_cons_zero,h1,RJ,Function.comp_def,Xm];rw[Bool.and_assoc]
   congr 1
   congr 1
   rw[Bool.eq_iff_iff];simp
section
variable{K:AG}{ρ:List AW}{H:Hp}
theorem b8(n k:Nat)(y:D):eqP n (.ref k) y=none:=by cases n <;> cases y <;> rfl
theorem b9(n:Nat)(ds:List D)(y:D):eqP n (.fro ds) y=none:=by cases n <;> cases y <;> rfl
theorem cA(n:Nat)(c:AW)(y:D):eqP n (.exc c) y=none:=by cases n <;> cases y <;> rfl
theorem Pv(r1:CA K ρ H x v)(r2:CA K ρ H x' v):x=x'∨(∃ds xm vs,x=.tup ds/\x'=.tup xm/\Ax K ρ H ds vs/\Ax K ρ H xm vs)∨(∀n y,eqP n x y=none)∨∀n y,eqP n x' y=none:=by
 cases r1 with
 | non=>cases r2;exact .inl rfl
 | bl b=>cases r2;exact .inl rfl
 | int b=>cases r2;exact .inl rfl
 | str b=>cases r2;exact .inl rfl
 | fro _ _=>exact .inr (.inr (.inl λn y=>b9 n _ y))
 | ref _=>exact .inr (.inr (.inl λn y=>b8 n _ y))
 | exc _ _=>exact .inr (.inr (.inl λn y=>cA n _ y))
 | tup u1 u2=>
  cases r2 with
  | fro _ _=>exact .inr (.inr (.inr λn y=>b9 n _ y))
  | ref _=>exact .inr (.inr (.inr λn y=>b8 n _ y))
  | exc _ _=>exact .inr (.inr (.inr λn y=>cA n _ y))
  | tup w1 w2=>
   rw[u1]at w1;cases w1;exact .inr (.inl ⟨_,_,_,rfl,rfl,u2,w2⟩)
theorem nU:∀(n:Nat) {x x' y:D} {v:V} {b b':Bool},CA K ρ H x v->CA K ρ H x' v->eqP n x y=some b->eqP n x' y=some b'->b=b':=by
 intro n
 induction n with
 | zero=>
  intro x x' y v b b' r1 r2 h h'
  rcases Pv r1 r2 with rfl | ⟨ds,xm,vs,rfl,rfl,_,_⟩ | q | q
  ·rw[h]at h';cases h';rfl
  ·have:eqP 0 (.tup ds) y=eqP 0 (.tup xm) y:=by cases y <;> rfl
   rw[<-this,h]at h';cases h';rfl
  ·rw[q]at h;cases h
  ·rw[q]at h';cases h'
 | succ n ih=>
  intro x x' y v b b' r1 r2 h h'
  have lists:∀{xs:List D} {vs:List V} {xK ys:List D} {b b':Bool},Ax K ρ H xs vs->Ax K ρ H xK vs->eqL (eqP n) xs ys=some b->eqL (eqP n) xK ys=some b'->b=b':=by
   intro xs
   induction xs with
   | nil=>
    intro vs xK ys b b' q1 q2 g g';cases q1;cases q2;rw[g]at g';cases g';rfl
   | cons d ds ihl=>
    intro vs xK ys b b' q1 q2 g g'
    cases q1 with
    | cons a1 a2=>
     cases q2 with
     | cons c1 c2=>
      cases ys with
      | nil=>cases g;cases g';rfl
      | cons y ys=>
       obtain⟨p,q,g1,g2,rfl⟩:=Nz g;obtain⟨p',q',g1',g2',rfl⟩:=Nz g';rw[ih a1 c1 g1 g1',ihl a2 c2 g2 g2']
  rcases Pv r1 r2 with rfl | ⟨ds,xm,vs,rfl,rfl,q1,q2⟩ | q | q
  ·rw[h]at h';cases h';rfl
  ·by_cases c:∃ys,y=.tup ys
   ·obtain⟨ys,rfl⟩:=c
    exact lists q1 q2 h h'
   ·have:eqP (n+1) (.tup ds) y=eqP (n+1) (.tup xm) y:=by
     cases y <;> first | rfl | exact(c ⟨_,rfl⟩).elim
    rw[<-this,h]at h';cases h';rfl
  ·rw[q]at h;cases h
  ·rw[q]at h';cases h'
theorem E7(h:N0 x x=some b):b=true:=by
 cases x <;> first | (cases h;done) | (cases h;simp)
theorem US:∀(n:Nat) {x:D} {b:Bool},eqP n x x=some b->b=true
 | 0,_,_,h=>E7 h
 | n+1,x,b,h=>by
  have lists:∀{xs:List D} {b:Bool},eqL (eqP n) xs xs=some b->b=true:=by
   intro xs
   induction xs with
   | nil=>intro b g;cases g;rfl
   | cons d ds ih=>
    intro b g;obtain⟨p,q,g1,g2,rfl⟩:=Nz g;rw[US n g1,ih g2];rfl
  cases x with
  | tup xs=>exact lists h
  | non=>exact E7 (x:=.non) h
  | bl c=>exact E7 (x:=.bl c) h
  | int c=>exact E7 (x:=.int c) h
  | str c=>exact E7 (x:=.str c) h
  | ref c=>exact E7 (x:=.ref c) h
  | fro c=>exact E7 (x:=.fro c) h
  | exc c=>exact E7 (x:=.exc c) h
theorem OR(hy:(∃f,y=.fro f)∨(∃r,y=.ref r)∨∃c,y=.exc c)(n:Nat):eqP n x y=none:=by
 rcases hy with⟨f,rfl⟩ | ⟨r,rfl⟩ | ⟨c,rfl⟩ <;> (cases n <;> cases x <;> rfl)
theorem jF(n:Nat)(h1:CA K ρ H x v)(h2:CA K ρ H y v)(h:eqP n x y=some b):b=true:=by
 induction n generalizing x y v b with
 | zero=>
  rcases Pv h1 h2 with rfl | ⟨ds,xm,vs,rfl,rfl,_,_⟩ | q | q
  ·exact US 0 h
  ·cases h
  ·rw[q]at h;cases h
  ·cases h2 with
   | fro _ _=>rw[OR (.inl ⟨_,rfl⟩)]at h;cases h
   | ref _=>rw[OR (.inr (.inl ⟨_,rfl⟩))]at h;cases h
   | exc _ _=>rw[OR (.inr (.inr ⟨_,rfl⟩))]at h;cases h
   | non=>cases(q 0 .non)
   | bl b=>cases(q 0 (.bl b))
   | int b=>cases(q 0 (.int b))
   | str b=>cases(q 0 (.str b))
   | tup _ _=>cases(q 0 .non)
 | succ n ih=>
  have lists:∀{xs ys:List D} {vs:List V} {b:Bool},Ax K ρ H xs vs->Ax K ρ H ys vs->eqL (eqP n) xs ys=some b->b=true:=by
   intro xs
   induction xs with
   | nil=>intro ys vs b q1 q2 g;cases q1;cases q2;cases g;rfl
   | cons d ds ihl=>
    intro ys vs b q1 q2 g
    cases q1 with
    | cons a1 a2=>
     cases q2 with
     | cons c1 c2=>
      obtain⟨p,q,g1,g2,rfl⟩:=Nz g;rw[ih a1 c1 g1,ihl a2 c2 g2];rfl
  rcases Pv h1 h2 with rfl | ⟨ds,xm,vs,rfl,rfl,q1,q2⟩ | q | q
  ·exact US (n+1) h
  ·exact lists q1 q2 h
  ·rw[q]at h;cases h
  ·cases h2 with
   | fro _ _=>rw[OR (.inl ⟨_,rfl⟩)]at h;cases h
   | ref _=>rw[OR (.inr (.inl ⟨_,rfl⟩))]at h;cases h
   | exc _ _=>rw[OR (.inr (.inr ⟨_,rfl⟩))]at h;cases h
   | non=>cases(q 0 .non)
   | bl b=>cases(q 0 (.bl b))
   | int b=>cases(q 0 (.int b))
   | str b=>cases(q 0 (.str b))
   | tup _ _=>cases(q 0 .non)
end
section
variable{X:Cx}{ζ:List (AW×Obj)}{σ:St}{H:Hp}{s:AR}{ρ:List AW}
theorem HG(A:CM):A.in1.units=A.units+1:=rfl
theorem Bw.at_(r:Bw vs tx)(h:j < tx.toArray.size):∃v,vs[j]?=some v/\RelV v tx.toArray[j]:=by
 have hj:j < tx.length:=by simpa using h
 have hv:j < vs.length:=by rw[r.length];exact hj
 obtain⟨u,h1,h2⟩:=r.get (i:=j) (x:=vs[j]) (by simp[hv]);refine⟨vs[j],by simp[hv],?_⟩
 have:tx.toArray[j]=u:=by
  have:=AC.mp h1;obtain⟨_,e⟩:=this;simpa using e
 rw[this];exact h2
theorem Wf(ih:∀(x y:D) (b:Bool) (xv yv:V) (u v:AI),eqP n x y=some b->CA X.K ρ H x xv->CA X.K ρ H y yv->RelV xv u->RelV yv v->EqAt A s u v b)
  (h:eqL (eqP n) xs ys=some b) (r1:Ax X.K ρ H xs vs) (r2:Ax X.K ρ H ys ws) (q1:Bw vs us) (q2:Bw ws zs) :
  ∃e:Nat->Bool,(∀j (h1:j < us.toArray.size) (h2:j < zs.toArray.size),EqAt A s us.toArray[j] zs.toArray[j] (e j))/\b=((D4 (min us.toArray.size zs.toArray.size)).all e&&us.toArray.size==zs.toArray.size):=by
 obtain⟨i1,i2⟩:=cB h;refine⟨λj=>match xs[j]?,ys[j]? with | some x,some y=>(eqP n x y).getD false | _,_=>false,λj h1 h2=>?_,?_⟩
 ·obtain⟨v,e1,rv⟩:=Bw.at_ q1 h1
  obtain⟨w,e2,xi⟩:=Bw.at_ q2 h2;obtain⟨x,e3,rx⟩:=r1.get' e1;obtain⟨y,e4,ry⟩:=r2.get' e2;obtain⟨c,hc⟩:=i1 j x y e3 e4;have:=ih x y c v w _ _ hc rx ry rv xi;simp only[e3,e4,hc,RJ];exact this
 ·rw[i2,r1.length,r2.length,q1.length,q2.length]
  simp
theorem Q3(I:Inv X ζ σ H s)(hu:A.units < E4)(h:N0 x y=some b)(r1:CA X.K ρ H x xv)(r2:CA X.K ρ H y yv)(q1:RelV xv u)(q2:RelV yv v) :
  EqAt A s u v b/\RcAt A s u v b/\RcNeAt A s u v (!b):=by
 cases r1 with
 | non=>
  cases q1
  cases r2 with
  | non=>cases q2;cases h;exact⟨EqAt.same _,RcAt.none_none,RcNeAt.none_none⟩
  | bl c=>cases q2;cases h;exact⟨EqAt.none_bool _,RcAt.none_bool _,RcNeAt.none_bool _⟩
  | int i=>obtain⟨t,rfl⟩:=q2;cases h;exact⟨EqAt.none_int _ _,RcAt.none_int _ _,RcNeAt.none_int _ _⟩
  | str z=>obtain⟨t,rfl⟩:=q2;cases h;exact⟨EqAt.none_str _ _,RcAt.none_str _ _,RcNeAt.none_str _ _⟩
  | tup a1 a2=>
   cases q2;cases h;obtain⟨tx,_,p,_⟩:=I.tuple (.inl (.inl a1));exact⟨EqAt.none_tuple p hu,RcAt.none_tuple p hu,RcNeAt.none_tuple p hu⟩
  | _=>cases h
 | bl a=>
  cases q1
  cases r2 with
  | non=>cases q2;cases h;exact⟨EqAt.bool_none _,RcAt.bool_none _,RcNeAt.bool_none _⟩
  | bl c=>cases q2;cases h;exact⟨EqAt.bool_bool _ _,RcAt.bool_bool _ _,RcNeAt.bool_bool _ _⟩
  | _=>cases h
 | int a=>
  obtain⟨t,rfl⟩:=q1
  cases r2 with
  | non=>cases q2;cases h;exact⟨EqAt.int_none _ _,RcAt.int_none _ _,RcNeAt.int_none _ _⟩
  | int i=>obtain⟨t',rfl⟩:=q2;cases h;exact⟨EqAt.int_int _ _ _ _,RcAt.int_int _ _ _ _,RcNeAt.int_int _ _ _ _⟩
  | tup a1 a2=>
   cases q2;cases h;obtain⟨tx,_,p,_⟩:=I.tuple (.inl (.inl a1));exact⟨EqAt.int_tuple _ _ p hu,RcAt.int_tuple _ _ p hu,RcNeAt.int_tuple _ _ p hu⟩
  | _=>cases h
 | str a=>
  obtain⟨t,rfl⟩:=q1
  cases r2 with
  | non=>cases q2;cases h;exact⟨EqAt.str_none _ _,RcAt.str_none _ _,RcNeAt.str_none _ _⟩
  | str i=>obtain⟨t',rfl⟩:=q2;cases h;exact⟨EqAt.str_str _ _ _ _,RcAt.str_str _ _ _ _,RcNeAt.str_str _ _ _ _⟩
  | _=>cases h
 | tup a1 a2=>
  cases q1;obtain⟨tx,_,p,_⟩:=I.tuple (.inl (.inl a1))
  cases r2 with
  | non=>cases q2;cases h;exact⟨EqAt.tuple_none p hu,RcAt.tuple_none p hu,RcNeAt.tuple_none p hu⟩
  | int i=>obtain⟨t',rfl⟩:=q2;cases h;exact⟨EqAt.tuple_int _ _ p hu,RcAt.tuple_int _ _ p hu,RcNeAt.tuple_int _ _ p hu⟩
  | _=>cases h
 | _=>cases h
theorem aQ(I:Inv X ζ σ H s):∀(n:Nat) (A:CM) (x y:D) (b:Bool) (xv yv:V) (u v:AI),A.units+n < E4->eqP n x y=some b->CA X.K ρ H x xv->CA X.K ρ H y yv->RelV xv u->RelV yv v->EqAt A s u v b:=by
 intro n
 induction n with
 | zero=>exact λA x y b xv yv u v hu h r1 r2 q1 q2=>(Q3 I (by omega) h r1 r2 q1 q2).1
 | succ n ih=>
  intro A x y b xv yv u v hu h r1 r2 q1 q2
  by_cases ht:∃xs ys,x=.tup xs/\y=.tup ys
  ·obtain⟨xs,ys,rfl,rfl⟩:=ht
   cases r1 with
   | @tup _ a vs a1 a2=>
    cases r2 with
    | @tup _ c ws b1 b2=>
     cases q1;cases q2
     by_cases hac:a=c
     ·subst hac
      rw[jF (n+1) (.tup a1 a2) (.tup b1 b2) h];exact EqAt.same _
     ·obtain⟨tx,rv,p,_⟩:=I.tuple (.inl (.inl a1))
      obtain⟨wK,xi,p2,_⟩:=I.tuple (.inl (.inl b1));obtain⟨e,he,rfl⟩:=Wf (A:=A.in1) (λx y b xv yv u v g1 g2 g3 g4 g5=>ih A.in1 x y b xv yv u v (by rw[HG];lia) g1 g2 g3 g4 g5) h a2 b2 rv xi;exact EqAt.of_refs hac (tf p p2 (by lia) he)
  ·have hf:N0 x y=some b:=by
    cases x <;> cases y <;> first | exact h | exact(ht ⟨_,_,rfl,rfl⟩).elim
   exact(Q3 I (by lia) hf r1 r2 q1 q2).1
def P4(d:D)(S:Sto):Option (List D):=match d with
 | .fro ds=>some ds
 | .ref n=>match S[n]? with
  | some (.lst ds)=>some ds
  | _=>none
 | _=>none
def eqB(x y:D)(S:Sto):Option Bool:=match P4 x S,P4 y S with
 | some xs,some ys=>if xs.length=ys.length then eqL (eqP 8) xs ys else some false
 | none,none=>eqP 8 x y
 | some _,none=>match y with
  | .tup _=>some false
  | .non=>some false
  | _=>none
 | none,some _=>match x with
  | .tup _=>some false
  | .non=>some false
  | _=>none
def eqD(neg:Bool)(x y:D)(S:Sto):Res D:=match eqB x y S with
 | some b=>.ok (.bl (if neg then !b else b)) S
 | none=>.bad
theorem Kj{K}{S}{d}{x}{ds}(hs:CP K ρ S H)(r:CA K ρ H d x)(h:P4 d S=some ds):∃p xs,x=.ref p/\Ax K ρ H ds xs/\SqL K H p xs:=by
 cases r with
 | fro h1 h2=>cases h;exact⟨_,_,rfl,h2,h1.sq⟩
 | @ref n a hn=>
  obtain⟨o,ho,ro⟩:=hs.there hn;unfold P4 at h;simp only[ho]at h
  cases o with
  | lst es=>cases h;obtain⟨vs,e,rr⟩:=ro;exact⟨_,_,rfl,rr,.inl (.inl e)⟩
  | _=>cases h
 | _=>cases h
theorem jH{S}{x y}{b}{xv yv}{u v}(I:Inv X ζ σ H s)(hu:X.A.units+64 < E4)(hs:CP X.K ρ S H)(r1:CA X.K ρ H x xv)(r2:CA X.K ρ H y yv)(q1:RelV xv u)(q2:RelV yv v)(h:eqB x y S=some b) :
  RcAt X.A s u v b/\RcNeAt X.A s u v (!b):=by
 unfold eqB at h;split at h
 ·rename_i xs ys h1 h2
  obtain⟨p,vs,rfl,rr,sq⟩:=Kj hs r1 h1;obtain⟨p',Ρ,rfl,rr',sq'⟩:=Kj hs r2 h2;cases q1;cases q2;obtain⟨tx,rv,pl,_⟩:=I.list sq;obtain⟨wK,rv2,pl2,_⟩:=I.list sq';split at h
  ·rename_i hlen
   obtain⟨e,he,rfl⟩:=Wf (A:=X.A.in1) (λx y b xv yv u v g1 g2 g3 g4 g5=>aQ I 8 X.A.in1 x y b xv yv u v (by rw[HG];lia) g1 g2 g3 g4 g5) h rr rr' rv rv2
   have hsz:tx.toArray.size=wK.toArray.size:=by
    simp only[Ah];rw[<-rv.length,<-rv2.length,<-rr.length,<-rr'.length];exact hlen
   have e1:((D4 (min tx.toArray.size wK.toArray.size)).all e&&tx.toArray.size==wK.toArray.size)=(D4 tx.toArray.size).all e:=by
    rw[<-hsz,Nat.min_self,beq_self_eq_true,Bool.and_true]
   rw[e1];exact⟨RcAt.lists pl.isList pl2.isList hsz (by lia) he,RcNeAt.lists pl.isList pl2.isList hsz (by lia) he⟩
  ·rename_i hlen
   cases h
   have hsz:(tx.toArray.size != wK.toArray.size)=true:=by
    simp only[Ah];rw[<-rv.length,<-rv2.length,<-rr.length,<-rr'.length];simpa using hlen
   exact⟨RcAt.lists_lengths pl.isList pl2.isList hsz (by lia),RcNeAt.lists_lengths pl.isList pl2.isList hsz (by lia)⟩
 ·by_cases ht:∃xs ys,x=.tup xs/\y=.tup ys
  ·obtain⟨xs,ys,rfl,rfl⟩:=ht
   cases r1 with
   | tup a1 a2=>
    cases r2 with
    | tup b1 b2=>
     cases q1;cases q2;obtain⟨tx,rv,p,_⟩:=I.tuple (.inl (.inl a1));obtain⟨wK,xi,p2,_⟩:=I.tuple (.inl (.inl b1));obtain⟨e,he,rfl⟩:=Wf (n:=7) (A:=X.A.in1) (λx y b xv yv u v g1 g2 g3 g4 g5=>aQ I 7 X.A.in1 x y b xv yv u v (by rw[HG];lia) g1 g2 g3 g4 g5) h a2 b2 rv xi;exact⟨tf p p2 (by lia) he,RcNeAt.tuples p p2 (by lia) he⟩
  ·have hf:N0 x y=some b:=by
    cases x <;> cases y <;> first | exact h | exact(ht ⟨_,_,rfl,rfl⟩).elim
   exact(Q3 I (by lia) hf r1 r2 q1 q2).2
 ·rename_i xs h1 h2
  obtain⟨p,vs,rfl,rr,sq⟩:=Kj hs r1 h1;cases q1;obtain⟨tx,rv,pl,_⟩:=I.list sq;split at h
  ·cases h
   cases r2 with
   | tup b1 b2=>
    cases q2;obtain⟨wK,xi,p2,_⟩:=I.tuple (.inl (.inl b1));exact⟨RcAt.list_tuple pl.isList p2 (by lia),RcNeAt.list_tuple pl.isList p2 (by lia)⟩
  ·cases h
   cases r2;cases q2;exact⟨RcAt.list_none pl.isList (by lia),RcNeAt.list_none pl.isList (by lia)⟩
  ·cases h
 ·rename_i xs h1 h2
  obtain⟨p,vs,rfl,rr,sq⟩:=Kj hs r2 h2;cases q2;obtain⟨tx,rv,pl,_⟩:=I.list sq;split at h
  ·cases h
   cases r1 with
   | tup b1 b2=>
    cases q1;obtain⟨wK,xi,p2,_⟩:=I.tuple (.inl (.inl b1));exact⟨RcAt.tuple_list p2 pl.isList (by lia),RcNeAt.tuple_list p2 pl.isList (by lia)⟩
  ·cases h
   cases r1;cases q1;exact⟨RcAt.none_list pl.isList (by lia),RcNeAt.none_list pl.isList (by lia)⟩
  ·cases h
theorem JP(hu:X.A.units+64 < E4):OpR X (B2 .Eq) (rD X.K (eqD false)):=by
 intro ζ s σ H x y v u Q I rx ry h;obtain⟨ρ,S,a,b,d,S',hs,ra,rb,hm,k⟩:=h;unfold eqD at hm;split at hm
 ·rename_i c hc
  cases hm;exact(jH I hu hs ra rb rx ry hc).1 _ _ _ _ ⟨.bl c,H,I,rfl,k ρ H _ .refl hs (.bl _)⟩
 ·cases hm
theorem iC(hu:X.A.units+64 < E4):OpR X (B2 .NotEq) (rD X.K (eqD true)):=by
 intro ζ s σ H x y v u Q I rx ry h;obtain⟨ρ,S,a,b,d,S',hs,ra,rb,hm,k⟩:=h;unfold eqD at hm;split at hm
 ·rename_i c hc
  cases hm;exact(jH I hu hs ra rb rx ry hc).2 _ _ _ _ ⟨.bl (!c),H,I,rfl,k ρ H _ .refl hs (.bl _)⟩
 ·cases hm
def Op(x:D):List D->Option Bool
 | []=>some false
 | d :: ds=>match eqP 8 d x,Op x ds with
  | some a,some b=>some (a||b)
  | _,_=>none
def inD(neg:Bool)(x y:D)(S:Sto):Res D:=match Gj y S with
 | some ds=>match Op x ds with
  | some b=>.ok (.bl (if neg then !b else b)) S
  | none=>.bad
 | none=>.bad
theorem aZ(h:Op x (d :: ds)=some b):∃a c,eqP 8 d x=some a/\Op x ds=some c/\b=(a||c):=by
 unfold Op at h;split at h
 ·rename_i a c h1 h2
  cases h;exact⟨a,c,h1,h2,rfl⟩
 ·cases h
open Classical in
theorem QN(I:Inv X ζ σ H s)(hu:A.units+8 < E4)(rx:CA X.K ρ H x xv)(qx:RelV xv v):∀{ds:List D} {vs:List V} {us:List AI} {b:Bool},Ax X.K ρ H ds vs->Bw vs us->Op x ds=some b ->
  ∃e:AI->Bool,(∀y∈us,EqAt A s y v (e y))/\b=us.any e:=by
 intro ds vs us b r q h
 let e:AI->Bool:=λy=>decide (∃d w,d∈ds/\CA X.K ρ H d w/\RelV w y/\eqP 8 d x=some true)
 have all:∀{xm:List D} {Ρ:List V} {Τ:List AI} {b':Bool},(∀d∈xm,d∈ds)->Ax X.K ρ H xm Ρ->Bw Ρ Τ->Op x xm=some b'->(∀y∈Τ,EqAt A s y v (e y))/\b'=Τ.any e:=by
  intro xm
  induction xm with
  | nil=>intro Ρ Τ b' _ r q h;cases r;cases q;cases h;exact⟨(λ_ z=>nomatch z),rfl⟩
  | cons d xm ih=>
   intro Ρ Τ b' yn r q h
   cases r with
   | cons r1 r2=>
    cases q with
    | @cons w y _ _ q1 q2=>
     obtain⟨a,c,h1,h2,rfl⟩:=aZ h;obtain⟨i1,i2⟩:=ih (λz hz=>yn z (AS _ hz)) r2 q2 h2
     have ha:e y=a:=by
      by_cases hq:∃d w,d∈ds/\CA X.K ρ H d w/\RelV w y/\eqP 8 d x=some true
      ·obtain⟨d',w',_,g1,g2,g3⟩:=id hq
       rw[RelV.inj g2 q1]at g1;have:=nU 8 g1 r1 g3 h1;rw[<-this];exact wX hq
      ·have:a=false:=by
        cases a with
        | false=>rfl
        | true=>exact(hq ⟨d,_,yn d AT,r1,q1,h1⟩).elim
       rw[this];exact wY hq
     refine⟨λz hz=>?_,by rw[JC,ha,<-i2]⟩
     rcases AZ.mp hz with rfl | hz
     ·rw[ha]
      exact aQ I 8 A d x a _ _ _ _ hu h1 r1 rx q1 qx
     ·exact i1 z hz
 obtain⟨e1,e2⟩:=all (λ_ h=>h) r q h;exact⟨e,e1,e2⟩
theorem uy(hu:X.A.units+64 < E4):OpR X (B2 .In) (rD X.K (inD false)):=by
 intro ζ s σ H x y v u Q I rx ry h;obtain⟨ρ,S,a,b,d,S',hs,ra,rb,hm,k⟩:=h;unfold inD at hm;split at hm
 ·rename_i ds hq
  split at hm
  ·rename_i c hc
   cases hm;obtain⟨p,xs,rfl,rr,sq⟩:=SK hs rb hq;cases ry
   rcases sq with sq | sq
   ·obtain⟨tx,rv,pl,_⟩:=I.list sq
    obtain⟨e,he,rfl⟩:=QN I (A:=X.A.in1) (by rw[HG];lia) ra rx rr rv hc;exact in_listAt e pl.isList (λz hz=>he z (by simpa using hz)) ⟨.bl (tx.toArray.any e),H,I,rfl,by rw[M0];exact k ρ H _ .refl hs (.bl _)⟩
   ·obtain⟨tx,rv,pl,_⟩:=I.tuple sq
    obtain⟨e,he,rfl⟩:=QN I (A:=X.A.in1) (by rw[HG];lia) ra rx rr rv hc;exact in_tupleAt e pl (λz hz=>he z (by simpa using hz)) ⟨.bl (tx.toArray.any e),H,I,rfl,by rw[M0];exact k ρ H _ .refl hs (.bl _)⟩
  ·cases hm
 ·cases hm
theorem YZ(hu:X.A.units+64 < E4):OpR X (B2 .NotIn) (rD X.K (inD true)):=by
 intro ζ s σ H x y v u Q I rx ry h;obtain⟨ρ,S,a,b,d,S',hs,ra,rb,hm,k⟩:=h;unfold inD at hm;split at hm
 ·rename_i ds hq
  split at hm
  ·rename_i c hc
   cases hm;obtain⟨p,xs,rfl,rr,sq⟩:=SK hs rb hq;cases ry
   rcases sq with sq | sq
   ·obtain⟨tx,rv,pl,_⟩:=I.list sq
    obtain⟨e,he,rfl⟩:=QN I (A:=X.A.in1) (by rw[HG];lia) ra rx rr rv hc;exact notIn_listAt e pl.isList (λz hz=>he z (by simpa using hz)) ⟨.bl (!tx.toArray.any e),H,I,rfl,by rw[M0];exact k ρ H _ .refl hs (.bl _)⟩
   ·obtain⟨tx,rv,pl,_⟩:=I.tuple sq
    obtain⟨e,he,rfl⟩:=QN I (A:=X.A.in1) (by rw[HG];lia) ra rx rr rv hc;exact notIn_tupleAt e pl (λz hz=>he z (by simpa using hz)) ⟨.bl (!tx.toArray.any e),H,I,rfl,by rw[M0];exact k ρ H _ .refl hs (.bl _)⟩
  ·cases hm
 ·cases hm
end
open PySem PySem.Spec PyProof.Rows
def PF(mo ma:ME):ME:=λe S=>(mo e S).bind λd S1=>match d with
 | .ref n=>match S1[n]? with
  | some (.lst _)=>(ma e S1).bind λy S2=>match S2[n]? with
   | some (.lst xs)=>if xs.length < sizeLine then .ok .non (S2.set n (.lst (xs++[y])))else .bad
   | _=>.bad
  | _=>.bad
 | _=>.bad
section
variable{X:Cx}{E:EW}{o e:Expr}{mo ma:ME}
theorem bQ{K}{ρ}{S}{H}{n}{x}{xs}(s:CP K ρ S H)(r:CA K ρ H (.ref n) x)(h:S[n]?=some (.lst xs)):∃a vs,x=.ref a/\ρ[n]?=some a/\H a=some (.lst vs)/\Ax K ρ H xs vs:=by
 cases r with
 | ref hn=>
  obtain⟨vs,e,rr⟩:=s.ob n _ _ h hn;exact⟨_,vs,rfl,hn,e,rr⟩
theorem HH(ho:GE X E o mo)(ha:GE X E e ma)(wW:ID o "append" X.env (Cc o X.env)=Cc o X.env:=by rfl)
  (zw:((D6 wu (AY [e] X.env)).all (λx=>!x.1)&&(KM wu (Fm [] X.env)).all (λx=>x.1.isSome)
    &&decide ([e].length+([]:List tR).length+(if ([]:List tR).isEmpty then 0 else 1) < 30))=true:=by rfl)
  (wZ:(apos.endLine==wu.line)=true:=by rfl) (hs:AY [e] X.env=(false,Cc e X.env) :: AY [] X.env:=by rfl) (xc:(D6 wu (AY [] X.env)).any (·.1)=false:=by rfl) :
  GE X E (.Call (.Attribute o "append" apos) [e] [] wu) (PF mo ma):=(um PySem.F.plainAttrs_list PySem.F.slot_list_append PySem.F.type_list_append Vm ho (Gb ha JG hs) wW zw wZ hs xc).imp λσ H Q ⟨ρ,l,S,hl,hs,hm⟩=>by
 refine⟨ρ,l,S,hl,hs,hm.seq λx S1 hm ρ1 H1 v l1 s1 r1=>?_⟩
 cases x <;> first | exact hm.elim | skip
 rename_i n;dsimp only at hm;split at hm
 ·rename_i xs0 h0
  obtain⟨a,vs,rfl,hn,e0,_⟩:=bQ s1 r1 h0;refine⟨.inl ⟨rfl,vs,.inl (.inl e0)⟩,ρ1,l,S1,hl.mono l1,s1,(hm.later l1).seq λy S2 hm ρ2 H2 u l2 s2 r2=>?_⟩;split at hm
  ·rename_i xs h3
   split at hm
   ·rename_i hz
    have xD:=l2.pre n a hn;obtain⟨ws,e3,rr⟩:=s2.ob n _ _ h3 xD;have le:Le X.K ρ2 H2 ρ2 (upd H2 a (.lst (ws++[u]))):=Le.write xD (by rw[e3];trivial);obtain⟨s3,l3⟩:=s2.write (ho:=.lst (ws++[u])) (o:=.lst (xs++[y])) xD ⟨_,B0,(rr.append (.cons r2 .nil)).mono le⟩ le;exact⟨a,ws,u,rfl,rfl,e3,by rw[<-rr.length];exact hz,hm ρ2 _ _ (l1.trans (l2.trans l3)) s3 .non⟩
   ·exact hm.elim
  ·exact hm.elim
 ·exact hm.elim
end
def Aj{κ β:Type}[DecidableEq κ](f':List (κ×β))(k:κ):Option β:=(f'.find? λkv=>decide (kv.1=k)).map (·.2)
def B9{κ β:Type}[DecidableEq κ](f':List (κ×β))(k:κ)(v:β):List (κ×β):=
 if (f'.any λkv=>decide (kv.1=k))=true then f'.map (λkv=>if kv.1=k then(kv.1,v)else kv)else f'++[(k,v)]
section
variable{κ:Type}[DecidableEq κ]{K:AG}{ρ:List AW}{H:Hp}
theorem KVR.val(k:κ):∀{x:List (κ×D)} {y:List (κ×V)},KVR K ρ H x y->(Aj x k=none->L8 y k=none)/\∀d,Aj x k=some d->∃v,L8 y k=some v/\CA K ρ H d v
 | _,_,.nil=>⟨λ_=>rfl,λd h=>by cases h⟩
 | (g,a) :: x,(g',b) :: y,.cons r t=>by
  obtain⟨r1,r2⟩:=r;dsimp only at r1 r2;subst r1;unfold Aj L8;rw[CV,CV]
  by_cases e:g=k
  ·simp only[e,decide_true]
   exact⟨(λh=>nomatch h),(λd h=>by cases h;exact⟨b,rfl,r2⟩)⟩
  ·simp only[e,decide_false]
   exact KVR.val k t
theorem KVR.any(k:κ):∀{x:List (κ×D)} {y:List (κ×V)},KVR K ρ H x y->(x.any λkv=>decide (kv.1=k))=y.any λkv=>decide (kv.1=k)
 | _,_,.nil=>rfl
 | (g,a) :: x,(g',b) :: y,.cons r t=>by
  rw[JC,JC,KVR.any k t,show g=g' from r.1]
theorem KVR.repl(k:κ)(rd:CA K ρ H d v):∀{x:List (κ×D)} {y:List (κ×V)},KVR K ρ H x y->KVR K ρ H (x.map λkv=>if kv.1=k then(kv.1,d)else kv) (y.map λkv=>if kv.1=k then(kv.1,v)else kv)
 | _,_,.nil=>.nil
 | (g,a) :: x,(g',b) :: y,.cons r t=>by
  obtain⟨r1,r2⟩:=r;dsimp only at r1 r2;subst r1;rw[BC,BC];refine .cons ?_ (KVR.repl k rd t)
  by_cases e:g=k
  ·rw[qX e,qX e];exact⟨rfl,rd⟩
  ·rw[qY e,qY e];exact⟨rfl,r2⟩
theorem KVR.put(k:κ)(rd:CA K ρ H d v)(h:KVR K ρ H x y):KVR K ρ H (B9 x k d) (M4 y k v):=by
 unfold B9 M4;rw[KVR.any k h];split
 ·exact KVR.repl k rd h
 ·exact ZE h ⟨rfl,rd⟩
end
def iX:D->Option Key
 | .int i=>some (.inl i)
 | .str x=>some (.inr x)
 | _=>none
def On:List D->Option (List Key)
 | []=>some []
 | d :: ds=>match iX d,On ds with
  | some k,some ks=>some (k :: ks)
  | _,_=>none
theorem SL{K}{ρ}{H}{d}{v}{k}(r:CA K ρ H d v)(h:iX d=some k):v=kV k:=by
 cases r <;> first | (cases h;done) | (cases h;rfl)
theorem P7{K}{ρ}{H}:∀{ds:List D} {vs:List V} {ks:List Key},Ax K ρ H ds vs->On ds=some ks->vs=ks.map kV
 | _,_,_,.nil,h=>by cases h;rfl
 | _,_,_,.cons r t,h=>by
  unfold On at h;split at h
  ·rename_i k ks h1 h2
   cases h;rw[SL r h1,P7 t h2];rfl
  ·cases h
def NA(x y:D)(S:Sto):Option (Option D):=match x with
 | .ref n=>match S[n]? with
  | some (.dK f')=>match iX y with
   | some k=>some (Aj f' k)
   | none=>none
  | some (.dT f')=>match y with
   | .tup ds=>match On ds with
    | some ks=>some (Aj f' ks)
    | none=>none
   | _=>none
  | some (.fK f')=>match iX y with
   | some k=>some (Aj f' k)
   | none=>none
  | some (.fT f')=>match y with
   | .tup ds=>match On ds with
    | some ks=>some (Aj f' ks)
    | none=>none
   | _=>none
  | _=>none
 | _=>none
theorem XF{K}{ρ}{S}{H}{x y}{xv yv}{o}(s:CP K ρ S H)(rx:CA K ρ H x xv)(ry:CA K ρ H y yv)(h:NA x y S=some o) :
  ∃a o',xv=.ref a/\QQ H a yv o'/\(o=none->o'=none)/\∀d,o=some d->∃v,o'=some v/\CA K ρ H d v:=by
 unfold NA at h;split at h
 ·rename_i n
  cases rx with
  | @ref _ a hn=>
   split at h
   ·rename_i f' h1
    split at h
    ·rename_i k hk
     cases h;obtain⟨w6,e,r⟩:=s.ob n _ _ h1 hn;rw[SL ry hk];obtain⟨v1,v2⟩:=KVR.val k r;exact⟨a,L8 w6 k,rfl,QQ.k e,v1,v2⟩
    ·cases h
   ·rename_i f' h1
    split at h
    ·rename_i ds
     split at h
     ·rename_i ks hk
      cases h;obtain⟨w6,e,r⟩:=s.ob n _ _ h1 hn
      cases ry with
      | tup b1 b2=>
       obtain⟨v1,v2⟩:=KVR.val ks r;rw[P7 b2 hk]at b1;exact⟨a,L8 w6 ks,rfl,QQ.t e b1,v1,v2⟩
     ·cases h
    ·cases h
   ·rename_i f' h1
    split at h
    ·rename_i k hk
     cases h;obtain⟨ob,w6,e,r⟩:=s.ob n _ _ h1 hn;rw[SL ry hk];obtain⟨v1,v2⟩:=KVR.val k r;exact⟨a,L8 w6 k,rfl,(.inl ⟨_,_,.inr ⟨ob,e⟩,rfl,rfl⟩),v1,v2⟩
    ·cases h
   ·rename_i f' h1
    split at h
    ·rename_i ds
     split at h
     ·rename_i ks hk
      cases h;obtain⟨ob,w6,e,r⟩:=s.ob n _ _ h1 hn
      cases ry with
      | tup b1 b2=>
       obtain⟨v1,v2⟩:=KVR.val ks r;rw[P7 b2 hk]at b1;exact⟨a,L8 w6 ks,rfl,(.inr ⟨_,_,_,.inr ⟨ob,e⟩,rfl,b1,rfl⟩),v1,v2⟩
     ·cases h
    ·cases h
   ·cases h
 ·cases h
def UV(x y:D)(S:Sto):Res D:=match NA x y S with
 | some (some d)=>.ok d S
 | _=>.bad
def OZ(neg:Bool)(y x:D)(S:Sto):Res D:=match NA x y S with
 | some o=>.ok (.bl (if neg then !o.isSome else o.isSome)) S
 | none=>.bad
section
variable{X:Cx}{E:EW}{mo mi mv:ME}
theorem nH(hu:X.A.units+1 < E4)(ho:GE X E o mo)(hi:GE X E i mi)(hs:sk i:=by intro _ _;rfl):GE X E (.Subscript o i pos) (m2 UV mo mi):=(mH hu ho hi hs).imp λσ H Q h=>by
 refine(Oy h:tOp (rD X.K UV) (gE X.K E mo) (gE X.K E mi) σ H Q) |> λt=>?_
 obtain⟨ρ,l,S,hl,hs,k⟩:=t;refine⟨ρ,l,S,hl,hs,k.imp λx S1 k ρ1 H1 u l1 s1 r1=>?_⟩;obtain⟨ρ2,l2,S2,xU,wQ,k2⟩:=k ρ1 H1 u l1 s1 r1;refine⟨ρ2,l2,S2,xU,wQ,k2.imp λy S3 k2 ρ3 H3 v l3 s3 r3=>?_⟩;obtain⟨ρ4,S4,x4,y4,d,S5,s4,r4,r5,hm,k4⟩:=k2 ρ3 H3 v l3 s3 r3;unfold UV at hm;split at hm
 ·rename_i d' hd
  cases hm;obtain⟨a,o',rfl,g,_,g2⟩:=XF s4 r4 r5 hd;obtain⟨w',rfl,xi⟩:=g2 _ rfl;exact⟨a,w',rfl,g,k4 ρ4 H3 w' .refl s4 xi⟩
 ·cases hm
theorem lG{σ}{H}{Q}(h:gE X.K E (m2 (OZ false) mi mo) σ H Q):uM (gE X.K E mi) (gE X.K E mo) σ H Q:=by
 obtain⟨ρ,l,S,hl,hs,k⟩:=(Oy h:tOp (rD X.K (OZ false)) (gE X.K E mi) (gE X.K E mo) σ H Q);refine⟨ρ,l,S,hl,hs,k.imp λx S1 k ρ1 H1 u l1 s1 r1=>?_⟩;obtain⟨ρ2,l2,S2,xU,wQ,k2⟩:=k ρ1 H1 u l1 s1 r1;refine⟨ρ2,l2,S2,xU,wQ,k2.imp λy S3 k2 ρ3 H3 v l3 s3 r3=>?_⟩;obtain⟨ρ4,S4,x4,y4,d,S5,s4,r4,r5,hm,k4⟩:=k2 ρ3 H3 v l3 s3 r3;unfold OZ at hm;split at hm
 ·rename_i o' hd
  cases hm;obtain⟨a,o2,rfl,g,g1,g2⟩:=XF s4 r5 r4 hd;refine⟨a,o2,rfl,g,?_⟩
  have:o2.isSome=o'.isSome:=by
   cases o' with
   | none=>rw[g1 rfl];rfl
   | some d=>obtain⟨w',rfl,_⟩:=g2 d rfl;rfl
  rw[this];exact k4 ρ4 H3 _ .refl s4 (.bl _)
 ·cases hm
theorem TD{σ}{H}{Q}(h:gE X.K E (m2 (OZ true) mi mo) σ H Q):bM (gE X.K E mi) (gE X.K E mo) σ H Q:=by
 obtain⟨ρ,l,S,hl,hs,k⟩:=(Oy h:tOp (rD X.K (OZ true)) (gE X.K E mi) (gE X.K E mo) σ H Q);refine⟨ρ,l,S,hl,hs,k.imp λx S1 k ρ1 H1 u l1 s1 r1=>?_⟩;obtain⟨ρ2,l2,S2,xU,wQ,k2⟩:=k ρ1 H1 u l1 s1 r1;refine⟨ρ2,l2,S2,xU,wQ,k2.imp λy S3 k2 ρ3 H3 v l3 s3 r3=>?_⟩;obtain⟨ρ4,S4,x4,y4,d,S5,s4,r4,r5,hm,k4⟩:=k2 ρ3 H3 v l3 s3 r3;unfold OZ at hm;split at hm
 ·rename_i o' hd
  cases hm;obtain⟨a,o2,rfl,g,g1,g2⟩:=XF s4 r5 r4 hd;refine⟨a,o2,rfl,g,?_⟩
  have:o2.isSome=o'.isSome:=by
   cases o' with
   | none=>rw[g1 rfl];rfl
   | some d=>obtain⟨w',rfl,_⟩:=g2 d rfl;rfl
  rw[this];exact k4 ρ4 H3 _ .refl s4 (.bl _)
 ·cases hm
theorem dq(hu:X.A.units+1 < E4)(hi:GE X E i mi)(ho:GE X E o mo)(h1:Cp .NotIn o=false:=by rfl):GE X E (.Compare i [.NotIn] [o] pos) (m2 (OZ true) mi mo):=(qp (Vh hu hi ho) h1).imp λ_ _ _ h=>TD h
theorem iO{K}{m}{σ}{H}{Q}(h:gT K E (mB m) σ H Q):gE K E m σ H λx H1=>∃c,x=.bl c/\Q c H1:=by
 obtain⟨ρ,l,S,hl,hs,hm⟩:=h;refine⟨ρ,l,S,hl,hs,hm.seq λd S1 hm ρ1 H1 x l1 s1 r1=>?_⟩
 cases d <;> first | exact hm.elim | skip
 cases r1;exact⟨_,rfl,hm ρ1 H1 l1 s1⟩
theorem sA(hu:X.A.units+1 < E4)(hi:GE X E i mi)(ho:GE X E o mo)(h1:Cp .In o=false:=by rfl):GT X E (.Compare i [.In] [o] pos) (mB (m2 (OZ false) mi mo)):=(gl (qr hu hi ho) h1).imp λ_ _ _ h=>lG (iO h)
theorem dn(hu:X.A.units+1 < E4)(hi:GE X E i mi)(ho:GE X E o mo)(h1:Cp .NotIn o=false:=by rfl):GT X E (.Compare i [.NotIn] [o] pos) (mB (m2 (OZ true) mi mo)):=(gl (Vh hu hi ho) h1).imp λ_ _ _ h=>TD (iO h)
def Jz:ME:=λ_ S=>.ok (.ref S.length) (S++[.dK []])
def Nj:ME:=λ_ S=>.ok (.ref S.length) (S++[.dT []])
theorem Np:GE X E (.Dict [] [] pos) Jz:=(g7 (X:=X) (pos:=pos)).imp λσ H Q ⟨ρ,l,S,hl,hs,k⟩ p hp=>by
 obtain⟨s2,l2,at2⟩:=hs.alloc (ho:=.dK []) (o:=.dK []) hp ⟨[],B0,.nil⟩;exact k _ _ _ l2 s2 (.ref at2)
theorem QE:GE X E (.Dict [] [] pos) Nj:=(gz (X:=X) (pos:=pos)).imp λσ H Q ⟨ρ,l,S,hl,hs,k⟩ p hp=>by
 obtain⟨s2,l2,at2⟩:=hs.alloc (ho:=.dT []) (o:=.dT []) hp ⟨[],B0,.nil⟩;exact k _ _ _ l2 s2 (.ref at2)
def RC(x y v:D)(S:Sto):Option Sto:=match x with
 | .ref n=>match S[n]? with
  | some (.dK f')=>match iX y with
   | some k=>if f'.length < sizeLine then some (S.set n (.dK (B9 f' k v)))else none
   | none=>none
  | some (.dT f')=>match y with
   | .tup ds=>match On ds with
    | some ks=>if f'.length < sizeLine then some (S.set n (.dT (B9 f' ks v)))else none
    | none=>none
   | _=>none
  | _=>none
 | _=>none
def Cm(mo mi mv:ME):MS:=λe S=>(mv e S).lift e λv S1=>(mo e S1).lift e λx S2=>(mi e S2).lift e λy S3=>match RC x y v S3 with
 | some S4=>.ok (.nx e) S4
 | none=>.bad
theorem HA(hu:X.A.units+1 < E4)(ho:GE X E o mo)(hi:GE X E i mi)(hv:GE X E value mv)(hs:HJ value (some (.Subscript o i pos')) pos.line X.env=pure false:=by rfl):GS X E (.Assign [.Subscript o i pos'] value pos) (Cm mo mi mv):=(lj hu ho hi hv hs).imp λD σ H ⟨ρ,l,S,hl,hs,hm⟩=>by
 refine⟨ρ,l,S,hl,hs,hm.lift hl .refl λv S1 hm ρ1 H1 vv l1 s1 r1=>⟨ρ1,l,S1,hl.mono l1,s1,(hm.later l1).lift (hl.mono l1) l1 λx S2 hm ρ2 H2 xv l2 s2 r2=>⟨ρ2,l,S2,hl.mono (l1.trans l2),s2,(hm.later l2).lift (hl.mono (l1.trans l2)) (l1.trans l2) λy S3 hm ρ3 H3 yv l3 s3 r3=>?_⟩⟩⟩;have r1':=r1.mono (l2.trans l3);have r2':=r2.mono l3;have hl3:=hl.mono (l1.trans (l2.trans l3));split at hm
 ·rename_i S4 hp
  unfold RC at hp;split at hp
  ·rename_i n
   cases r2' with
   | @ref _ a hn=>
    split at hp
    ·rename_i f' h4
     split at hp
     ·rename_i ky hk
      split at hp
      ·rename_i hz
       cases hp;obtain⟨w6,e,r⟩:=s3.ob n _ _ h4 hn;rw[SL r3 hk];have le:Le X.K ρ3 H3 ρ3 (upd H3 a (.dK (M4 w6 ky vv))):=Le.write hn (by rw[e];trivial);obtain⟨s5,l5⟩:=s3.write (ho:=.dK (M4 w6 ky vv)) (o:=.dK (B9 f' ky v)) hn ⟨_,B0,(KVR.put ky r1' r).mono le⟩ le;exact⟨a,_,rfl,ZA.k e (by rw[<-KVR.length r];exact hz),hm ρ3 _ σ (l1.trans (l2.trans (l3.trans l5))) s5 (hl3.mono l5)⟩
      ·cases hp
     ·cases hp
    ·rename_i f' h4
     split at hp
     ·rename_i ds
      split at hp
      ·rename_i ks hk
       split at hp
       ·rename_i hz
        cases hp;obtain⟨w6,e,r⟩:=s3.ob n _ _ h4 hn
        cases r3 with
        | tup b1 b2=>
         rw[P7 b2 hk]at b1;have le:Le X.K ρ3 H3 ρ3 (upd H3 a (.dT (M4 w6 ks vv))):=Le.write hn (by rw[e];trivial);obtain⟨s5,l5⟩:=s3.write (ho:=.dT (M4 w6 ks vv)) (o:=.dT (B9 f' ks v)) hn ⟨_,B0,(KVR.put ks r1' r).mono le⟩ le;exact⟨a,_,rfl,ZA.t e b1 (by rw[<-KVR.length r];exact hz),hm ρ3 _ σ (l1.trans (l2.trans (l3.trans l5))) s5 (hl3.mono l5)⟩
       ·cases hp
      ·cases hp
     ·cases hp
    ·cases hp
  ·cases hp
 ·exact hm.elim
end
section
variable{X:Cx}{E:EW}{a b c:Expr}{pos:Pos}
theorem cw{K}{f g}{σ}{H}{Q}(h:gE K E (m3 f g ma mb mc) σ H Q):gW (rD K f) (rD K g) (gE K E ma) (gE K E mb) (gE K E mc) σ H Q:=by
 obtain⟨ρ,l,S,hl,hs,hm⟩:=h;refine⟨ρ,l,S,hl,hs,hm.seq λx S1 hm ρ1 H1 u l1 s1 r1=>⟨ρ1,l,S1,hl.mono l1,s1,(hm.later l1).seq λy S2 hm ρ2 H2 v l2 s2 r2=>?_⟩⟩
 cases hf:f x y S2 with
 | bad=>rw[hf]at hm;exact hm.elim
 | err _ _=>rw[hf]at hm;exact hm.elim
 | ok z S3=>
  rw[hf]at hm;dsimp only[okR,Res.bind]at hm;refine⟨ρ2,S2,x,y,z,S3,s2,r1.mono l2,r2,hf,λρ3 H3 w l3 s3 r3=>?_⟩
  cases z with
  | bl k=>
   cases r3;refine⟨k,rfl,?_⟩
   cases k with
   | true=>
    rw[qX rfl];refine⟨ρ3,l,S3,hl.mono (l1.trans (l2.trans l3)),s3,Cb.seq (hm.later (l2.trans l3)) λw S4 hm ρ4 H4 wv l4 s4 r4=>?_⟩;obtain⟨d,S',e,k⟩:=hm.okR;exact⟨ρ4,S4,y,w,d,S',s4,r2.mono (l3.trans l4),r4,e,λρ' H' z l' s' r'=>k ρ' H' z (l1.trans (l2.trans (l3.trans (l4.trans l')))) s' r'⟩
   | false=>rw[qY AK];exact hm ρ3 H3 _ (l1.trans (l2.trans l3)) s3 (.bl false)
  | _=>exact hm.elim
theorem UL(ho:OpR X (B2 op) (rD X.K f))(xS:OpR X (B2 op') (rD X.K g))(ha:GE X E a ma)(hb:GE X E b mb)(hc:GE X E c mc)
  (hm:lastMarks [op,op'] [b,c]=false:=by with_unfolding_all rfl):GT X E (.Compare a [op,op'] [b,c] pos) (mB (m3 f g ma mb mc)):=(gm ho xS ha hb hc hm).imp λ_ _ _ h=>cw (iO h)
def iN(m:ME):ME:=λe S=>(m e S).bind λd S1=>match d with
 | .int i=>.ok (.int (-i)) S1
 | _=>.bad
theorem i3(h:GE X E a ma):GE X E (.UnaryOp .USub a pos) (iN ma):=(ui pr h).imp λσ H Q ⟨ρ,l,S,hl,hs,hm⟩=>by
 refine⟨ρ,l,S,hl,hs,hm.seq λd S1 hm ρ1 H1 x l1 s1 r1=>?_⟩
 cases d <;> first | exact hm.elim | skip
 cases r1;exact⟨_,rfl,hm ρ1 H1 _ l1 s1 (.int _)⟩
end
abbrev MO:=Lo->Sto->Res (Option Int)
def gO(K:AG)(E:EW)(m:MO):TO:=λσ H Q=>∃ρ e S,G5 K ρ H e σ/\CP K ρ S H/\Cb K (λc=>E c σ) ρ H (m e S) λo S'=>∀ρ' H',Le K ρ H ρ' H'->CP K ρ' S' H'->Q o H'
abbrev GO(X:Cx)(E:EW)(e:Option Expr)(m:MO):Prop:=PO X e (gO X.K E m)
def Vk:MO:=λ_ S=>.ok none S
def Ts(m:ME):MO:=λe S=>(m e S).bind λd S1=>match d with
 | .int i=>.ok (some i) S1
 | _=>.bad
def HE{α:Type}(xs:List α)(lo hi:Option Int):List α:=(xs.drop (HT.sIx xs.length 0 lo)).take (HT.sIx xs.length xs.length hi - HT.sIx xs.length 0 lo)
def fO(n:Nat)(lo hi:Option Int):Bool:=decide (HT.sIx n 0 lo=0/\HT.sIx n n hi=n)
def We(d:D)(lo hi:Option Int)(S:Sto):Res D:=match d with
 | .tup ds=>if fO ds.length lo hi=true then .bad else .ok (.tup (HE ds lo hi)) S
 | _=>match P4 d S with
  | some ds=>.ok (.ref S.length) (S++[.lst (HE ds lo hi)])
  | none=>.bad
def PD(m:ME)(ml mh:MO):ME:=λe S=>(m e S).bind λd S1=>(ml e S1).bind λlo S2=>(mh e S2).bind λhi S3=>okR (We d lo hi S3)
section
variable{X:Cx}{E:EW}{e:Expr}{lo hi:Option Expr}{pos p2:Pos}{m:ME}{ml mh:MO}
theorem PO.imp(h:PO X o t)(i:∀σ H Q,t' σ H Q->t σ H Q):PO X o t':=λζ s σ H Q I q=>h ζ s σ H Q I (i σ H Q q)
theorem SS:GO X E none Vk:=PO.imp ls λσ H Q ⟨ρ,l,S,hl,hs,hm⟩=>hm ρ H .refl hs
theorem SR(h:GE X E e m):GO X E (some e) (Ts m):=PO.imp (lr h) λσ H Q ⟨ρ,l,S,hl,hs,hm⟩=>by
 refine⟨ρ,l,S,hl,hs,hm.seq λd S1 hm ρ1 H1 x l1 s1 r1=>?_⟩
 cases d <;> first | exact hm.elim | skip
 cases r1;exact⟨_,rfl,hm ρ1 H1 l1 s1⟩
theorem UX{K}{ρ}{H}{ds}{vs}(r:Ax K ρ H ds vs)(lo hi:Option Int):Ax K ρ H (HE ds lo hi) (R5 vs lo hi):=by
 unfold HE R5;rw[r.length];exact(r.drop _).take _
theorem Yt(he:GE X E e m)(hl:GO X E lo ml)(hu:GO X E hi mh):GE X E (.Subscript e (.Slice lo hi none p2) pos) (PD m ml mh):=(YU (lM.or gc) he hl hu).imp λσ H Q ⟨ρ,l,S,hl,hs,hm⟩=>by
 refine⟨ρ,l,S,hl,hs,hm.seq λd S1 hm ρ1 H1 x l1 s1 r1=>⟨ρ1,l,S1,hl.mono l1,s1,(hm.later l1).seq λlo S2 hm ρ2 H2 l2 s2=>⟨ρ2,l,S2,hl.mono (l1.trans l2),s2,(hm.later l2).seq λhi S3 hm ρ3 H3 l3 s3=>?_⟩⟩⟩;obtain⟨d',S',e,k⟩:=hm.okR;have r3:=r1.mono (l2.trans l3)
 have lst:∀ds,P4 d S3=some ds->Res.ok (.ref S3.length) (S3++[.lst (HE ds lo hi)])=Res.ok d' S'->uZ X.K x lo hi H3 Q:=λds hq e=>by
  cases e;obtain⟨p,xs,rfl,rr,sq⟩:=Kj s3 r3 hq;refine⟨p,xs,rfl,sq,λq hq=>?_⟩;have le:Le X.K ρ3 H3 (ρ3++[q]) (upd H3 q (.lst (R5 xs lo hi))):=Le.alloc hq;obtain⟨s4,l4,at4⟩:=s3.alloc (ho:=.lst (R5 xs lo hi)) (o:=.lst (HE ds lo hi)) hq ⟨_,B0,(UX rr lo hi).mono le⟩;exact k _ _ _ (l1.trans (l2.trans (l3.trans l4))) s4 (.ref at4)
 cases d with
 | tup ds=>
  unfold We at e;dsimp only at e;split at e
  ·cases e
  ·rename_i hw
   cases e
   cases r3 with
   | @tup _ a vs h1 h2=>
    refine .inr ⟨a,vs,rfl,.inl (.inl h1),λz=>hw ?_,λq hq=>?_⟩
    ·unfold fO
     rw[h2.length];exact wX z
    ·obtain⟨s4,l4⟩:=HW (ho:=.tup (R5 vs lo hi)) s3 hq
     exact k _ _ _ (l1.trans (l2.trans (l3.trans l4))) s4 (.tup B0 ((UX h2 lo hi).mono l4))
 | non=>cases e
 | bl _=>cases e
 | int _=>cases e
 | str _=>cases e
 | exc _=>cases e
 | fro ds=>exact .inl (lst ds rfl e)
 | ref n=>
  unfold We at e;dsimp only at e;split at e
  ·rename_i ds hq
   exact .inl (lst ds hq e)
  ·cases e
end
section
variable{X:Cx}{E:EW}{e:Expr}{p pos:Pos}{m:ME}
def Gk(m:ME):ME:=λe S=>(m e S).bind λd S1=>match Gj d S1 with
 | some ds=>.ok (.tup ds) S1
 | none=>.bad
theorem G1(hg:Gl X "tuple") (hm:X.mg "tuple" = none) (h:GE X E e m) (he:AY [e] X.env=(false,Cc e X.env) :: AY [] X.env:=by rfl):GE X E (.Call (.Name "tuple" p) [e] [] pos) (Gk m):=
 (Qs VN hg hm Rf (Gb h JG he) (by decide) (by decide) he rfl).imp λσ H Q ⟨ρ,l,S,hl,hs,hm⟩=>by
 refine⟨ρ,l,S,hl,hs,hm.seq λd S1 hm ρ1 H1 x l1 s1 r1=>?_⟩
 cases hq:Gj d S1 with
 | none=>rw[hq]at hm;exact hm.elim
 | some ds=>
  rw[hq]at hm
  have Υ:∀a vs,x=.ref a->SqL X.K H1 a vs->Ax X.K ρ1 H1 ds vs->∃p ys,[x]=[.ref p]/\((SqL X.K H1 p ys/\∀l,H1 l=none->Q (.ref l) (upd H1 l (.tup ys)))∨(SqT X.K H1 p ys/\Q (.ref p) H1)):=λa vs e sq rr=>by
   subst e;refine⟨a,vs,rfl,.inl ⟨sq,λq hq=>?_⟩⟩;obtain⟨s2,l2⟩:=HW (ho:=.tup vs) s1 hq;exact hm _ _ _ (l1.trans l2) s2 (.tup B0 (rr.mono l2))
  cases r1 with
  | @tup _ a vs h1 h2=>cases hq;exact⟨a,vs,rfl,.inr ⟨.inl (.inl h1),hm ρ1 H1 _ l1 s1 (.tup h1 h2)⟩⟩
  | @fro _ a vs h1 h2=>cases hq;exact Υ a vs rfl h1.sq h2
  | @ref n a hn=>
   obtain⟨o,ho,ro⟩:=s1.there hn;unfold Gj at hq;simp only[ho]at hq
   cases o with
   | lst es=>cases hq;obtain⟨vs,e,rr⟩:=ro;exact Υ a vs rfl (.inl (.inl e)) rr
   | _=>cases hq
  | _=>cases hq
variable{o:Expr}
def atL(d:D)(S:Sto):Option (Nat×List D):=match d with
 | .ref n=>match S[n]? with
  | some (.lst xs)=>some (n,xs)
  | _=>none
 | _=>none
theorem jf{K}{ρ}{S}{H}{d}{x}{n}{xs}(s:CP K ρ S H)(r:CA K ρ H d x)(h:atL d S=some (n,xs)):d=.ref n/\S[n]?=some (.lst xs)/\∃a vs,x=.ref a/\ρ[n]?=some a/\H a=some (.lst vs)/\Ax K ρ H xs vs:=by
 unfold atL at h;split at h
 ·split at h
  ·rename_i ds hd
   cases h;exact⟨rfl,hd,bQ s r hd⟩
  ·cases h
 ·cases h
theorem lY{K}{ρ}{S}{H}{n}{a}{vs ws}{ys}(s:CP K ρ S H)(hn:ρ[n]?=some a)(e:H a=some (.lst vs))(r:Ax K ρ H ys ws) :
  CP K ρ (S.set n (.lst ys)) (upd H a (.lst ws))/\Le K ρ H ρ (upd H a (.lst ws)):=by
 have le:Le K ρ H ρ (upd H a (.lst ws)):=Le.write hn (by rw[e];trivial);exact s.write (ho:=.lst ws) (o:=.lst ys) hn ⟨_,B0,r.mono le⟩ le
end
section
variable{X:Cx}
def TF:List Int->Int:=λns=>SZ (λi=>ns.getD i 0) ns.length
theorem MQ:∀(n:Nat),(∀i,i < n->f i=g i)->SZ f n=SZ g n
 | 0,_=>rfl
 | n+1,h=>by
  show SZ f n+f n=SZ g n+g n;rw[MQ n λi hi=>h i (by lia),h n (by lia)]
theorem RP(x:Int)(f:Nat->Int):∀n:Nat,SZ (λi=>match i with | 0=>x | j+1=>f j) (n+1)=x+SZ f n
 | 0=>by show(0:Int)+x=x+0;lia
 | n+1=>by
  show SZ _ (n+1)+f n=x+(SZ f n+f n);rw[RP x f n]
  lia
theorem Wa:∀ns:List Int,TF ns=ns.sum
 | []=>rfl
 | n :: ns=>by
  have:=Wa ns;unfold TF at this ⊢;rw[List.sum_cons,<-this,At,<-RP]
  refine MQ _ λi hi=>?_
  cases i <;> simp
theorem VM{ns:List Int}{tx:List AI}(r:Bw (ns.map V.int) tx):∃xs:Array (Int×Tok),tx.toArray=intItems xs/\xs.size=ns.length/\∀i,i < ns.length->numAt xs i=ns.getD i 0:=by
 induction ns generalizing tx with
 | nil=>
  cases r;exact⟨#[],by simp[intItems],rfl,λi hi=>zX hi (by simp)⟩
 | cons n ns ih=>
  cases r with
  | cons r1 r2=>
   obtain⟨xs,e1,e2,e3⟩:=ih r2;obtain⟨t,rfl⟩:=r1;refine⟨#[(n,t)]++xs,?_,by simp[e2];lia,λi hi=>?_⟩
   ·unfold intItems at e1 ⊢
    rw[Array.map_append,<-e1];simp
   ·cases i with
    | zero=>
     unfold numAt;rw[Array.getElem?_append_left (by simp)];simp
    | succ i=>
     have:=e3 i (by simpa using hi);unfold numAt at this ⊢;rw[Array.getElem?_append_right (by simp)];simpa using this
def ub(K:AG)(f:List Int->Int):List V->Hp->VK->Prop:=λxs H Q=>∃p ns,xs=[.ref p]/\SqL K H p (ns.map V.int)/\Q (.int (f ns)) H
theorem eI(hc:X.calm=true):KI X (.builtin "sum") (ub X.K TF):=by
 intro ζ s σ H xs us Q I r h;obtain⟨p,ns,rfl,hq,q⟩:=h;obtain⟨u,rfl,rx⟩:=vals1 r;cases rx;obtain⟨tx,r',pl,hz⟩:=I.list hq;obtain⟨xs,e1,e2,e3⟩:=VM r'
 refine sum_intListG (xs:=xs) (I.ok.hd hc) (by rw[<-e1];exact pl.isList) λh' tk t' kp=>⟨.int _,H,I.kept kp,⟨t',rfl⟩,?_⟩
 rw[e2,MQ _ e3];exact q
def JQ:List D->Option (List Int)
 | []=>some []
 | .int b :: ds=>(JQ ds).map (b :: ·)
 | _ :: _=>none
theorem Nn:∀{ds:List D} {ns:List Int},JQ ds=some ns->ds=ns.map D.int
 | [],_,h=>by cases h;rfl
 | .int b :: ds,ns,h=>by
  unfold JQ at h
  cases hq:JQ ds with
  | none=>rw[hq]at h;cases h
  | some cs=>rw[hq]at h;cases h;rw[Nn hq];rfl
 | .non :: _,_,h=>by cases h
 | .bl _ :: _,_,h=>by cases h
 | .str _ :: _,_,h=>by cases h
 | .tup _ :: _,_,h=>by cases h
 | .fro _ :: _,_,h=>by cases h
 | .ref _ :: _,_,h=>by cases h
 | .exc _ :: _,_,h=>by cases h
def iM(m:ME):ME:=λe S=>(m e S).bind λd S1=>match P4 d S1 with
 | some ds=>match JQ ds with
  | some ns=>.ok (.int (TF ns)) S1
  | none=>.bad
 | none=>.bad
theorem iy(hc:X.calm=true)(hg:Gl X "sum") (hm:X.mg "sum" = none) (h:GE X E e m) (he:AY [e] X.env=(false,Cc e X.env) :: AY [] X.env:=by rfl):GE X E (.Call (.Name "sum" p) [e] [] pos) (iM m):=
 (NZ (eI hc) hg hm vz (Gb h JG he) (by decide) (by decide) he rfl).imp λσ H Q ⟨ρ,l,S,hl,hs,hm⟩=>by
 refine⟨ρ,l,S,hl,hs,hm.seq λd S1 hm ρ1 H1 x l1 s1 r1=>?_⟩
 cases hq:P4 d S1 with
 | none=>rw[hq]at hm;exact hm.elim
 | some ds=>
  rw[hq]at hm;dsimp only at hm
  cases hi:JQ ds with
  | none=>rw[hi]at hm;exact hm.elim
  | some ns=>
   rw[hi]at hm;obtain⟨p,xs,rfl,rr,sq⟩:=Kj s1 r1 hq;rw[Nn hi]at rr;rw[rr.ints]at sq;exact⟨p,ns,rfl,sq,hm ρ1 H1 _ l1 s1 (.int _)⟩
def tyD(d:D)(S:Sto):Option String:=match d with
 | .non=>some "NoneType"
 | .bl _=>some "bool"
 | .int _=>some "int"
 | .str _=>some "str"
 | .tup _=>some "tuple"
 | .ref n=>match S[n]? with
  | some (.lst _)=>some "list"
  | some (.dK _)=>some "dict"
  | some (.dT _)=>some "dict"
  | _=>none
 | .fro _=>none
 | .exc _=>none
theorem pw{K}{ρ}{S}{H}{d}{x}{T}(s:CP K ρ S H)(r:CA K ρ H d x)(h:tyD d S=some T):QP K H x (.type T):=by
 cases r with
 | non=>cases h;exact .non
 | bl b=>cases h;exact .bl b
 | int i=>cases h;exact .int i
 | str i=>cases h;exact .str i
 | tup h1 _=>cases h;exact .tup h1
 | fro _ _=>cases h
 | exc _ _=>cases h
 | @ref n a hn=>
  obtain⟨o,ho,ro⟩:=s.there hn;unfold tyD at h;simp only[ho]at h
  cases o with
  | lst es=>cases h;obtain⟨vs,e,rr⟩:=ro;exact .lst e
  | dK es=>cases h;obtain⟨vs,e,rr⟩:=ro;exact .dK e
  | dT es=>cases h;obtain⟨vs,e,rr⟩:=ro;exact .dT e
  | ins _ _=>cases h
  | fK _=>cases h
  | fT _=>cases h
  | mem _=>cases h
def oh(c T:String):Option Bool:=if T==c then some true else if T=="bool"&&c=="int" then some true else if ["NoneType", "bool", "int", "str", "tuple", "list", "dict"].contains T&&["bool", "int", "str", "tuple", "list", "dict"].contains c then some false else none
end
def Jw{α:Type}(r r':Res α):Res α:=match r with
 | .bad=>r'
 | r=>r
theorem dR{α:Type}(r r':Res α):Jw r r'=r∨Jw r r'=r':=by cases r <;> simp[Jw]
def op2(f g:D->D->Sto->Res D):D->D->Sto->Res D:=λx y S=>Jw (f x y S) (g x y S)
theorem bf(f g:D->D->Sto->Res D)(ma mb:ME)(l:Lo)(S:Sto):m2 (op2 f g) ma mb l S=m2 f ma mb l S∨m2 (op2 f g) ma mb l S=m2 g ma mb l S:=by
 unfold m2
 cases ma l S with
 | ok x S1=>
  dsimp only[Res.bind]
  cases mb l S1 with
  | ok y S2=>
   dsimp only[Res.bind];unfold op2
   rcases dR (f x y S2) (g x y S2)with e | e <;> rw[e] <;> simp
  | err c S2=>exact .inl rfl
  | bad=>exact .inl rfl
 | err c S1=>exact .inl rfl
 | bad=>exact .inl rfl
section
theorem i6{m m1 m2}(h1:GE X E e m1)(h2:GE X E e m2)(h:∀l S,m l S=m1 l S∨m l S=m2 l S):GE X E e m:=λζ s σ H Q I ⟨ρ,l,S,hl,hs,a⟩=>by
 rcases h l S with q | q
 ·rw[q]at a;exact h1 ζ s σ H Q I ⟨ρ,l,S,hl,hs,a⟩
 ·rw[q]at a;exact h2 ζ s σ H Q I ⟨ρ,l,S,hl,hs,a⟩
theorem io(h1:GT X E e t1)(h2:GT X E e t2)(h:∀l S,t l S=t1 l S∨t l S=t2 l S):GT X E e t:=λζ s σ H Q I ⟨ρ,l,S,hl,hs,a⟩=>by
 rcases h l S with q | q
 ·rw[q]at a;exact h1 ζ s σ H Q I ⟨ρ,l,S,hl,hs,a⟩
 ·rw[q]at a;exact h2 ζ s σ H Q I ⟨ρ,l,S,hl,hs,a⟩
theorem sJ(h1:GI X E tg e t1)(h2:GI X E tg e t2)(h:∀l S,t l S=t1 l S∨t l S=t2 l S):GI X E tg e t:=λζ s σ H R I ⟨ρ,l,S,hl,hs,a⟩=>by
 rcases h l S with q | q
 ·rw[q]at a;exact h1 ζ s σ H R I ⟨ρ,l,S,hl,hs,a⟩
 ·rw[q]at a;exact h2 ζ s σ H R I ⟨ρ,l,S,hl,hs,a⟩
theorem oX{m m1 m2}(h:∀l S,m l S=m1 l S∨m l S=m2 l S)(l:Lo)(S:Sto):mB m l S=mB m1 l S∨mB m l S=mB m2 l S:=by
 unfold mB
 rcases h l S with q | q <;> rw[q] <;> simp
abbrev inA(neg:Bool):=op2 (inD neg) (OZ neg)
theorem i0(hu:X.A.units+64 < E4)(hi:GE X E i mi)(ho:GE X E o mo)(h1:Cp .NotIn o=false:=by with_unfolding_all rfl):GE X E (.Compare i [.NotIn] [o] pos) (m2 (inA true) mi mo):=
 i6 (XC (YZ hu) hi ho h1) (dq (by lia) hi ho h1) λ_ _=>bf _ _ _ _ _ _
theorem Yr(hu:X.A.units+64 < E4)(hi:GE X E i mi)(ho:GE X E o mo)(h1:Cp .In o=false:=by with_unfolding_all rfl):GT X E (.Compare i [.In] [o] pos) (mB (m2 (inA false) mi mo)):=
 io (DX (uy hu) hi ho h1) (sA (by lia) hi ho h1) (oX λ_ _=>bf _ _ _ _ _ _)
theorem GK(hu:X.A.units+64 < E4)(hi:GE X E i mi)(ho:GE X E o mo)(h1:Cp .NotIn o=false:=by with_unfolding_all rfl):GT X E (.Compare i [.NotIn] [o] pos) (mB (m2 (inA true) mi mo)):=
 io (DX (YZ hu) hi ho h1) (dn (by lia) hi ho h1) (oX λ_ _=>bf _ _ _ _ _ _)
abbrev ixA:=op2 ixD UV
theorem Cf(hu:X.A.units+64 < E4)(ho:GE X E o mo)(hi:GE X E i mi)(hs:XV i:=by intro _ _;rfl):GE X E (.Subscript o i pos) (m2 ixA mo mi):=
 i6 (vT ux ho hi hs) (nH (by lia) ho hi hs) λ_ _=>bf _ _ _ _ _ _
def Ff(d:D):RI:=match d with
 | .tup ds=>Gx ds
 | d=>RO d
def EE(m:ME):MI:=λe S=>(m e S).bind λd S1=>match Ff d S1 with
 | some _=>.ok (Ff d) S1
 | none=>.bad
theorem DG(h:GE X E e m):GI X E tg e (EE m):=sJ (sH h) (sG h) λl S=>by
 unfold EE vO oj
 cases m l S with
 | ok d S1=>
  dsimp only[Res.bind]
  cases d <;> first | exact .inl rfl | exact .inr rfl
 | err c S1=>exact .inl rfl
 | bad=>exact .inl rfl
def Lg(m:ME):ME:=λe S=>(m e S).bind λd S1=>match Gj d S1 with
 | some ds=>.ok (.int ds.length) S1
 | none=>.bad
theorem JI(hg:Gl X "len") (hm:X.mg "len" = none) (h:GE X E e m) (he:AY [e] X.env=(false,Cc e X.env) :: AY [] X.env:=by rfl):GE X E (.Call (.Name "len" p) [e] [] pos) (Lg m):=
 (bv XQ qI hg hm PySem.boot_len (ip h) (by decide) (by decide) he).imp λσ H Q ⟨ρ,l,S,hl,hs,a⟩=>⟨ρ,l,S,hl,hs,by
  have q:mQ vE (Tz m) l S=Lg m l S:=by
   unfold mQ Tz Lg
   cases m l S with
   | ok d S1=>
    dsimp only[Res.bind]
    cases Gj d S1 <;> rfl
   | err c S1=>rfl
   | bad=>rfl
  rw[q];exact a⟩
theorem bw(hc:X.calm=true)(hg:Gl X "min") (hm:X.mg "min" = none) (h:GA X E [a,b] ml) (he:AY [a,b] X.env=(false,Cc a X.env) :: AY [b] X.env:=by rfl) (wI:(D6 pos (AY [b] X.env)).any (·.1)=false:=by rfl):GE X E (.Call (.Name "min" p) [a,b] [] pos) (mQ RQ ml):=
 b4 (eM hc) ny hg hm Sd h (by decide) (by decide) he wI
theorem nE(hc:X.calm=true)(hg:Gl X "max") (hm:X.mg "max" = none) (h:GA X E [a,b] ml) (he:AY [a,b] X.env=(false,Cc a X.env) :: AY [b] X.env:=by rfl) (wI:(D6 pos (AY [b] X.env)).any (·.1)=false:=by rfl):GE X E (.Call (.Name "max" p) [a,b] [] pos) (mQ Vo ml):=
 b4 (eN hc) nz hg hm wA h (by decide) (by decide) he wI
theorem nF(hg:Gl X "list") (hm:X.mg "list" = none) (h:GE X E e m) (he:AY [e] X.env=(false,Cc e X.env) :: AY [] X.env:=by rfl):GE X E (.Call (.Name "list" p) [e] [] pos) (Eh (mN bm (Tz m))):=
 DH (m9 XO lL hg hm SA (ip h) (by decide) (by decide) he)
end
def isB(t A:String):Option Bool:=if ["NoneType", "bool", "int", "str", "tuple", "list", "dict"].contains A then oh t A else none
def kZ(sc:Ul)(x:Str):Bool:=decide (sc.names.lookup x=some .local)||decide (sc.names.lookup x=some .cell)||decide (sc.names.lookup x=some .free)
def jS(X:Cx)(scope:Ul)(own N':List Str):Bool:=
 decide (scope.kind=.function)&&scope.names.all (λy=>!decide (y.2=.local)||decide (scope.names.lookup y.1=some .local)) &&
 scope.names.all (λy=>!decide (y.2=.free)||decide (X.env.kindOf y.1=some .cell)||decide (X.env.kindOf y.1=some .free))&&decide (N'.length=own.length+X.N.length) &&
 ((N'.drop own.length).zip X.N).all (λp=>!kZ (LR scope X.env) p.1||(decide (p.1=p.2)&&kZ X.env.scope p.1&&(decide ((LR scope X.env).names.lookup p.1=some .cell)||decide ((LR scope X.env).names.lookup p.1=some .free))&&!decide (X.env.kindOf p.1=some .local)&&!scope.names.any (λz=>decide (z=(p.1,DM)))&&scope.names.any (λz=>decide (z=(p.1,Gq))))) &&
 (LR scope X.env).names.all (λy=>(!decide (y.2=.cell)&&!decide (y.2=.free))||scope.names.any (λz=>decide (z=(y.1,Gq)))||scope.names.any (λz=>decide (z=(y.1,DM))))
theorem Xv:kZ sc x=true↔Vis sc x:=by
 unfold kZ Vis;simp[or_assoc]
theorem DY(h:jS X scope own N'=true):PQ X scope own N':=by
 unfold jS at h;simp only[Ck]at h;obtain⟨⟨⟨⟨⟨h1,h3⟩,h4⟩,h5⟩,h6⟩,h7⟩:=h;rw[SC]at h3 h4 h6 h7;refine⟨of_decide_eq_true h1,λy hy e=>?_,λy hy e=>?_,of_decide_eq_true h5,λi x e v=>?_,λx hx=>?_⟩
 ·have:=h3 y hy
  simpa[e]using this
 ·have:=h4 y hy
  simpa[e]using this
 ·have hlen:=of_decide_eq_true h5
  have hi:own.length+i < N'.length:=(AC.mp e).1
  have hx:i < X.N.length:=by lia
  have hm:(x,X.N[i])∈(N'.drop own.length).zip X.N:=by
   rw[List.mem_iff_getElem?];refine⟨i,?_⟩;rw[WH];exact⟨by rw[QS];exact e,by simp[hx]⟩
  have:=h6 _ hm;rw[Xv.mpr v]at this;simp only[Lp,pJ,Ck,Jd,decide_eq_true_eq,Bool.not_eq_true',decide_eq_false_iff_not]at this;obtain⟨⟨⟨⟨⟨z1,z2⟩,z3⟩,z4⟩,z5⟩,z6⟩:=this;refine⟨⟨by rw[z1];simp[hx],Xv.mp z2,z3,z4⟩,λq=>?_,?_⟩
  ·rw[fJ]at z5
   exact z5 _ q (wX rfl)
  ·obtain⟨z,hz,e⟩:=Gr.mp z6
   rw[of_decide_eq_true e]at hz;exact hz
 ·have key:∀k,(LR scope X.env).names.lookup x=some k->(k=.cell∨k=.free)->(x,Gq)∈scope.names∨(x,DM)∈scope.names:=λk e hk=>by
   have:=h7 _ (D7 e)
   rcases hk with rfl | rfl
   ·simpa using this
   ·simpa using this
  rcases hx with e | e
  ·exact key _ e (.inl rfl)
  ·exact key _ e (.inr rfl)
structure Dfn(K:AG)(mg:Str->Option AI)(x qual:Str)(st:DK)(ps:List Str) where
 f:AW
 fd:Lz
 F:Fun K x qual st f fd
 b:Binds K fd ps []
 m:mg x=some (.ref f)
theorem Dfn.kp{K}{mg}{x qual}{st}{ps}(d:Dfn K mg x qual st ps):Ft K (.ref d.f)=true:=d.F.kp
structure Mtd(K:AG)(x qual:Str)(st:DK)(ps:List Str) where
 f:AW
 fd:Lz
 F:Fun K x qual st f fd
 b:Binds K fd ps []
structure Own(K:AG)(mg:Str->Option AI)(x:Str)(C f:AW):Prop where
 cl:Cls K C
 mk':Mk K C f
 m:mg x=some (.ref C)
abbrev wN:Nat:=1000000
end L2
namespace Srt
open PySem PyProof.Rows
structure Ord(U:Dp->Prop)(lt:Dp->Dp->Bool):Prop where
 asym:∀x y,U x->U y->lt x y=true->lt y x=false
 ntr:∀x y z,U x->U y->U z->lt y x=false->lt z y=false->lt z x=false
theorem Ord.irr(o:Ord U lt)(h:U x):lt x x=false:=by
 cases e:lt x x with
 | false=>rfl
 | true=>exact(o.asym x x h h e).symm.trans e |>.symm▸rfl
def ix(xs:Array Dp)(i:Nat):Dp:=xs.getD i (.none,.none)
theorem Li(h:xs[i]?=ys[j]?):ix xs i=ix ys j:=by
 unfold ix;rw[Jh,Jh,h]
theorem SM(h:i < xs.size):xs[i]?=some (ix xs i):=by
 unfold ix;rw[Jh,getElem?_pos xs i h];rfl
theorem de(hs:src < xs.size)(hd:d<=src)(k:Nat) :
  ix (pC xs src d) k=if k=src - d then ix xs src else if src - d < k/\k<=src then ix xs (k - 1)else ix xs k:=by
 have e:=getElem?_bubble hs d hd k;split
 ·rename_i h;rw[qX h]at e;exact Li e
 ·rename_i h
  rw[qY h]at e;split
  ·rename_i h2;rw[qX h2]at e;exact Li e
  ·rename_i h2;rw[qY h2]at e;exact Li e
theorem E2(hj:j<=xs.size)(k:Nat) :
  ix (Lw xs i j ((j - i) / 2)) k=if i<=k/\k < j then ix xs (i+j - 1 - k)else ix xs k:=by
 have e:=getElem?_mirror_all (i:=i) hj k;split
 ·rename_i h;rw[qX h]at e;exact Li e
 ·rename_i h;rw[qY h]at e;exact Li e
section
def Ue(prog:Bh)(w:CH)(A:CM)(s:AR)(a₀:Array Dp)(κ:QZ)(lt:Dp->Dp->Bool):Prop:=
 ∀x y,x∈a₀->y∈a₀->∀(Q:Bool->AR->Prop) (E:AI->AR->Prop),Q (lt x y) s->Af (Ao prog w) A (keyLt' κ x.1 y.1) Q E s
structure Good(a₀:Array Dp)(κ:QZ)(st:Fq):Prop where
 perm:(A9 st).Perm a₀
 kind:kindOf st=κ
 failed:failedOf st=none
theorem Good.size{st:Fq}(g:Good a₀ κ st):(A9 st).size=a₀.size:=g.perm.size_eq
theorem Good.mem{st:Fq}(g:Good a₀ κ st){i:Nat}(h:i < a₀.size):ix (A9 st) i∈a₀:=by
 have h':i < (A9 st).size:=by rw[g.size];exact h
 have e:=SM h';have:=Array.mem_of_getElem? e;exact GZ.mp ((KN.mp g.perm).mem_iff.mp (GZ.mpr this))
theorem Good.setArr{st:Fq}(g:Good a₀ κ st){xs:Array Dp}(hp:xs.Perm (A9 st)):Good a₀ κ (setArr st xs):=⟨hp.trans g.perm,g.kind,g.failed⟩
theorem pM{st:Fq}{x y:Dp}{Q:Option Bool->Fq->Prop}(C:Ue prog w A s a₀ κ lt)(g:Good a₀ κ st)(hx:x∈a₀)(hy:y∈a₀)(h:Q (some (lt x y)) st):wpS (Ao prog w) A E s (lt' x y) Q st:=by
 rw[lt'_eq];refine Bu (ZB ?_);rw[g.kind];refine Bu (wpS_lift (NG ?_));refine C x y hx hy _ _ ⟨rfl,?_⟩;exact Cv h
theorem Qd{st:Fq}{i j:Nat}{Q:Option Bool->Fq->Prop}(C:Ue prog w A s a₀ κ lt)(g:Good a₀ κ st)(hi:i < a₀.size)(hj:j < a₀.size)(h:Q (some (lt (ix (A9 st) i) (ix (A9 st) j))) st) :
  wpS (Ao prog w) A E s (tF i j) Q st:=by
 rw[ltAt'_eq];refine Bu (ZB ?_);show wpS _ _ _ _ (do let x <-elem' (A9 st) i;let y <-elem' (A9 st) j;lt' x y) Q st;rw[elem'_eq,elem'_eq,SM (by rw[g.size];exact hi),SM (by rw[g.size];exact hj)];exact Bu (Cv (Bu (Cv (pM C g (g.mem hi) (g.mem hj) h))))
def Up(lt:Dp->Dp->Bool)(xs:Array Dp)(lo hi:Nat):Prop:=∀i j,lo<=i->i<=j->j < hi->lt (ix xs j) (ix xs i)=false
def Dn(lt:Dp->Dp->Bool)(xs:Array Dp)(lo hi:Nat):Prop:=∀i j,lo<=i->i<=j->j < hi->lt (ix xs i) (ix xs j)=false
def Out(xs ys:Array Dp)(lo hi:Nat):Prop:=∀i,(i < lo∨hi<=i)->ix ys i=ix xs i
theorem Out.refl{xs:Array Dp}{lo hi:Nat}:Out xs xs lo hi:=λ_ _=>rfl
theorem Out.trans{xs ys zs:Array Dp}{lo hi:Nat}(a:Out xs ys lo hi)(b:Out ys zs lo hi):Out xs zs lo hi:=λi h=>(b i h).trans (a i h)
theorem Up.grow{st:Fq}(O:Ord (·∈a₀) lt)(g:Good a₀ κ st){lo hi:Nat}(hs:hi < a₀.size)(u:Up lt (A9 st) lo hi)(h0:lo < hi)(h:lt (ix (A9 st) hi) (ix (A9 st) (hi - 1))=false):Up lt (A9 st) lo (hi+1):=λi j h1 h2 h3=>by
 by_cases hj:j < hi
 ·exact u i j h1 h2 hj
 ·have:j=hi:=by lia
  subst this
  by_cases zf:i=j
  ·subst zf;exact O.irr (g.mem hs)
  ·exact O.ntr _ _ _ (g.mem (by lia)) (g.mem (show j - 1 < _ by omega)) (g.mem hs) (u i (j - 1) h1 (by lia) (by lia)) h
theorem wpS_binarySort{st:Fq}{lo n ok:Nat}{Q:Bool->Fq->Prop}(C:Ue prog w A s a₀ κ lt)(O:Ord (·∈a₀) lt)(hn:lo+n<=a₀.size)(hok:ok<=n)(g:Good a₀ κ st)(u:Up lt (A9 st) lo (lo+ok))
  (h:∀w5,Good a₀ κ w5->Up lt (A9 w5) lo (lo+n)->Out (A9 st) (A9 w5) lo (lo+n)->CL w5=CL st->Q true w5):wpS (Ao prog w) A E s (binarySort' lo n ok) Q st:=by
 rw[binarySort'_eq]
 refine Bu (QU (JB (I:=λk c w5=>c=(none,())/\Good a₀ κ w5/\Up lt (A9 w5) lo (lo+min k n)/\Out (A9 st) (A9 w5) lo (lo+n)/\CL w5=CL st)
  (Q:=λc w5=>c=(none,())/\Good a₀ κ w5/\Up lt (A9 w5) lo (lo+n)/\Out (A9 st) (A9 w5) lo (lo+n)/\CL w5=CL st) ?step ?fin ?init) ?post)
 case post=>
  rintro c w5 ⟨rfl,g',u',o',p'⟩;exact Cv (h w5 g' u' o' p')
 case init=>
  refine⟨rfl,g,λi j h1 h2 h3=>?_,.refl,rfl⟩
  by_cases h0:ok=0
  ·have:i=j:=by lia
   subst this;exact O.irr (g.mem (by omega))
  ·exact u i j h1 h2 (by lia)
 case fin=>
  rintro c w5 ⟨hc,g',u',o',p'⟩;refine⟨hc,g',?_,o',p'⟩;rwa [show min (max (max ok 1) n) n=n by lia]at u'
 case step=>
  rintro k c wy hak hkn ⟨rfl,g1,u1,o1,p1⟩;rw[show min k n=k by lia]at u1
  have hk:lo+k < a₀.size:=by lia
  refine Bu (QU (JB (I:=λx c wa=>wa=wy/\∃l r,c=(none,l,r)/\l<=r/\r<=k/\r - l<=k - x /\
    (∀i,i < l->lt (ix (A9 wy) (lo+k)) (ix (A9 wy) (lo+i))=false)/\(∀i,r<=i->i < k->lt (ix (A9 wy) (lo+k)) (ix (A9 wy) (lo+i))=true))
   (Q:=λc wa=>wa=wy/\∃l r,c=(none,l,r)/\l<=k /\
    (∀i,i < l->lt (ix (A9 wy) (lo+k)) (ix (A9 wy) (lo+i))=false)/\(∀i,l<=i->i < k->lt (ix (A9 wy) (lo+k)) (ix (A9 wy) (lo+i))=true)) ?istep ?ifin ?iinit) ?ipost)
  case iinit=>exact⟨rfl,0,k,rfl,by lia,by lia,by lia,λi hi=>by lia,λi h1 h2=>by lia⟩
  case ifin=>
   rintro c wa ⟨rfl,l,r,rfl,hlr,hrk,hm,zz,hhi⟩
   have:l=r:=by lia
   subst this;exact⟨rfl,l,l,rfl,hrk,zz,hhi⟩
  case istep=>
   rintro x c wa _ hxk ⟨rfl,l,r,rfl,hlr,hrk,hm,zz,hhi⟩;dsimp only
   by_cases hge:l ≥ r
   ·rw[qX hge]
    have:l=r:=by lia
    subst this;exact Cv ⟨rfl,l,l,rfl,hrk,zz,hhi⟩
   ·rw[qY hge]
    refine Bu (Qd C g1 hk (by lia) ?_)
    cases hless:lt (ix (A9 wa) (lo+k)) (ix (A9 wa) (lo+(l+r) / 2))with
    | true=>
     refine Cv ⟨rfl,l,(l+r) / 2,rfl,by lia,by lia,by omega,zz,λi h1 h2=>?_⟩
     cases e:lt (ix (A9 wa) (lo+k)) (ix (A9 wa) (lo+i))with
     | true=>rfl
     | false=>
      have:=O.ntr _ _ _ (g1.mem (show lo+(l+r) / 2 < _ by lia)) (g1.mem (show lo+i < _ by lia)) (g1.mem hk) (u1 (lo+(l+r) / 2) (lo+i) (by lia) (by lia) (by lia)) e;rw[hless]at this;cases this
    | false=>
     refine Cv ⟨rfl,(l+r) / 2+1,r,rfl,by lia,by omega,by omega,λi h1=>?_,hhi⟩;exact O.ntr _ _ _ (g1.mem (show lo+i < _ by lia)) (g1.mem (show lo+(l+r) / 2 < _ by lia)) (g1.mem hk) (u1 (lo+i) (lo+(l+r) / 2) (by lia) (by lia) (by lia)) hless
  case ipost=>
   rintro c wa ⟨rfl,l,r,rfl,hlk,zz,hhi⟩;show wpS _ _ _ _ (do moveDown' (lo+k) (lo+l);pure (Ip (none,()))) _ _;rw[moveDown'_eq]
   have hks:lo+k < (A9 wa).size:=by rw[g1.size];exact hk
   have e:∀i,ix (pC (A9 wa) (lo+k) (lo+k - (lo+l))) i=if i=lo+l then ix (A9 wa) (lo+k)else if lo+l < i/\i<=lo+k then ix (A9 wa) (i - 1)else ix (A9 wa) i:=λi=>by
    rw[de hks (by lia),show lo+k - (lo+k - (lo+l))=lo+l by lia]
   refine Bu (Lq (Cv ⟨rfl,g1.setArr (bubble_perm _ _ _),?_,o1.trans λi hi=>?_,p1⟩))
   ·rw[show min (k+1) n=k+1 by lia]
    intro i j h1 h2 h3;show lt (ix (pC (A9 wa) (lo+k) (lo+k - (lo+l))) j) (ix (pC (A9 wa) (lo+k) (lo+k - (lo+l))) i)=false;rw[e,e]
    repeat' split
    all_goals first
     | (exfalso;lia)
     | exact O.irr (g1.mem hk)
     | (have q:=zz (i - lo) (by lia);rw[show lo+(i - lo)=i by lia]at q;exact q)
     | (have q:=hhi (j - 1 - lo) (by omega) (by omega);rw[show lo+(j - 1 - lo)=j - 1 by lia]at q;exact O.asym _ _ (g1.mem hk) (g1.mem (by lia)) q)
     | exact u1 _ _ (by omega) (by omega) (by lia)
   ·show ix (pC (A9 wa) (lo+k) (lo+k - (lo+l))) i=ix (A9 wa) i
    rw[e,qY (by lia),qY (by lia)]
end
section
theorem Xs{σ:Type}{M:Model}{r:String}{Q:PUnit->σ->Prop}{st:σ}(h:Q ⟨⟩ st):wpS M A E s (liftM (rule r):StateT σ Sem PUnit) Q st:=wpS_lift (ZI ⟨rfl,h⟩)
theorem Dn.flip{xs:Array Dp}{lo hi:Nat}(hs:hi<=xs.size)(d:Dn lt xs lo hi):Up lt (Lw xs lo hi ((hi - lo) / 2)) lo hi:=λi j h1 h2 h3=>by
 rw[E2 hs,E2 hs,qX (by lia),qX (by lia)];exact d _ _ (by omega) (by omega) (by omega)
theorem Dn.part{xs:Array Dp}{lo hi m:Nat}(hs:hi<=xs.size)(hm:lo<=m)(hmh:m<=hi)(d:Dn lt xs lo hi)(e:Up lt xs m hi):Dn lt (Lw xs m hi ((hi - m) / 2)) lo hi:=λi j h1 h2 h3=>by
 rw[E2 hs,E2 hs]
 by_cases zf:m<=i
 ·rw[qX (by lia),qX (by lia)]
  exact e _ _ (by omega) (by omega) (by omega)
 ·rw[qY (by lia)]
  split
  ·exact d _ _ (by omega) (by lia) (by omega)
  ·exact d _ _ (by omega) (by omega) (by omega)
theorem MV{xs:Array Dp}{i j lo hi:Nat}(hj:j<=xs.size)(h1:lo<=i)(h2:j<=hi):Out xs (Lw xs i j ((j - i) / 2)) lo hi:=λk hk=>by
 rw[E2 hj,qY (by lia)]
theorem Dn.grow{st:Fq}(O:Ord (·∈a₀) lt)(g:Good a₀ κ st){lo hi:Nat}(hs:hi < a₀.size)(u:Dn lt (A9 st) lo hi)(h0:lo < hi)(h:lt (ix (A9 st) (hi - 1)) (ix (A9 st) hi)=false):Dn lt (A9 st) lo (hi+1):=λi j h1 h2 h3=>by
 by_cases hj:j < hi
 ·exact u i j h1 h2 hj
 ·have:j=hi:=by lia
  subst this
  by_cases zf:i=j
  ·subst zf;exact O.irr (g.mem hs)
  ·exact O.ntr _ _ _ (g.mem hs) (g.mem (show j - 1 < _ by omega)) (g.mem (by lia)) h (u i (j - 1) h1 (by lia) (by lia))
theorem Ze(O:Ord (·∈a₀) lt){st:Fq}(g:Good a₀ κ st){lo:Nat}(h:lo < a₀.size):Up lt (A9 st) lo (lo+1):=λi j h1 h2 h3=>by
 have e1:i=lo:=by lia
 have e2:j=lo:=by lia
 rw[e1,e2];exact O.irr (g.mem h)
theorem kE{st:Fq}{lo wb n:Nat}{Q:Option Nat->Fq->Prop}(C:Ue prog w A s a₀ κ lt)(O:Ord (·∈a₀) lt)(h1:1<=n)(h2:n<=wb)(hn:lo+wb<=a₀.size)(g:Good a₀ κ st)(u:Up lt (A9 st) lo (lo+n))
  (h:∀n,1<=n->n<=wb->Up lt (A9 st) lo (lo+n)->Q (some n) st):wpS (Ao prog w) A E s (do
   let mut n:=n
   for _ in [n:wb] do
    let some wo <-tF (lo+n) (lo+n - 1) | return none
    if wo then break
    n:=n+1
   return some n) Q st:=by
 refine Bu (QU (JB (I:=λx c w5=>w5=st/\c=(none,x)/\Up lt (A9 st) lo (lo+x))
  (Q:=λc w5=>w5=st/\∃n,c=(none,n)/\1<=n/\n<=wb/\Up lt (A9 st) lo (lo+n)) ?step ?fin ⟨rfl,rfl,u⟩) ?post)
 case fin=>
  rintro c w5 ⟨rfl,rfl,u⟩
  have e:max n wb=wb:=by lia
  rw[e]at u ⊢;exact⟨rfl,wb,rfl,by lia,AL _,u⟩
 case step=>
  rintro x c w5 Φ hx2 ⟨rfl,rfl,u⟩;dsimp only;refine Bu (Qd C g (by lia) (by lia) ?_)
  cases hq:lt (ix (A9 w5) (lo+x)) (ix (A9 w5) (lo+x - 1))with
  | true=>exact Cv ⟨rfl,x,rfl,by lia,by lia,u⟩
  | false=>exact Cv ⟨rfl,rfl,Up.grow (hi:=lo+x) O g (by lia) u (by lia) hq⟩
 case post=>
  rintro c w5 ⟨rfl,n,rfl,Χ,xD,u⟩;exact Cv (h n Χ xD u)
theorem wpS_countRun{st}{lo wb}{Q}(C:Ue prog w A s a₀ κ lt)(O:Ord (·∈a₀) lt)(h1:1<=wb)(hn:lo+wb<=a₀.size)(g:Good a₀ κ st)
  (h:∀w5 n,Good a₀ κ w5->1<=n->n<=wb->Up lt (A9 w5) lo (lo+n)->Out (A9 st) (A9 w5) lo (lo+wb)->CL w5=CL st->Q (some n) w5):wpS (Ao prog w) A E s (countRun' lo wb) Q st:=by
 rw[countRun'_eq]
 refine Bu (QU (JB (I:=λx c w5=>w5=st/\c=(none,x)/\Up lt (A9 st) lo (lo+x))
  (Q:=λc w5=>w5=st/\∃n,c=(none,n)/\1<=n/\n<=wb/\Up lt (A9 st) lo (lo+n)/\(n=wb∨lt (ix (A9 st) (lo+n)) (ix (A9 st) (lo+n - 1))=true)) ?step ?fin ?init) ?post)
 case init=>
  refine⟨rfl,rfl,λi j a1 a2 a3=>?_⟩
  have:i=j:=by lia
  subst this;exact O.irr (g.mem (by lia))
 case fin=>
  rintro c w5 ⟨rfl,rfl,u⟩
  have e:max 1 wb=wb:=by lia
  rw[e]at u ⊢;exact⟨rfl,wb,rfl,h1,AL _,u,.inl rfl⟩
 case step=>
  rintro x c w5 Φ hx2 ⟨rfl,rfl,u⟩;dsimp only;refine Bu (Qd C g (by lia) (by lia) ?_)
  cases hq:lt (ix (A9 w5) (lo+x)) (ix (A9 w5) (lo+x - 1))with
  | true=>exact Cv ⟨rfl,x,rfl,Φ,by lia,u,.inr hq⟩
  | false=>exact Cv ⟨rfl,rfl,Up.grow (hi:=lo+x) O g (by lia) u (by lia) hq⟩
 case post=>
  rintro c w5 ⟨rfl,n,rfl,Χ,xD,u,hd⟩;dsimp only
  by_cases hnn:n=wb
  ·rw[qX (by simpa using hnn)]
   exact Cv (h w5 n g Χ xD u .refl rfl)
  ·rw[qY (by simpa using hnn)]
   have yg:=hd.resolve_left hnn
   have desc:∀(wy:Fq),Good a₀ κ wy->Dn lt (A9 wy) lo (lo+(n+1))->Out (A9 w5) (A9 wy) lo (lo+wb)->CL wy=CL w5 ->
     wpS (Ao prog w) A E s (do
      liftM (rule "list.sort.descending-run")
      let mut n:=n+1
      let mut neq:=0
      for _ in [n:wb] do
       let some wo <-tF (lo+n) (lo+n - 1) | return none
       if wo then
        if neq > 0 then R8 (lo+n - (neq+1)) (lo+n)
        neq:=0
       else
        let some zD <-tF (lo+n - 1) (lo+n) | return none
        if zD then break
        neq:=neq+1
       n:=n+1
      if neq > 0 then R8 (lo+n - (neq+1)) (lo+n)
      R8 lo (lo+n)
      for _ in [n:wb] do
       let some wo <-tF (lo+n) (lo+n - 1) | return none
       if wo then break
       n:=n+1
      return some n) Q wy:=by
    intro wy g1 d1 o1 p1;refine Bu (Xs ?_)
    refine Bu (QU (JB (I:=λx c wa=>Good a₀ κ wa/\∃q,c=(none,x,q)/\q+1<=x/\Dn lt (A9 wa) lo (lo+x)/\Up lt (A9 wa) (lo+x - (q+1)) (lo+x)/\Out (A9 w5) (A9 wa) lo (lo+wb)/\CL wa=CL w5)
     (Q:=λc wa=>Good a₀ κ wa/\∃n q,c=(none,n,q)/\n<=wb/\q+1<=n/\Dn lt (A9 wa) lo (lo+n)/\Up lt (A9 wa) (lo+n - (q+1)) (lo+n)/\Out (A9 w5) (A9 wa) lo (lo+wb)/\CL wa=CL w5) ?dstep ?dfin ?dinit) ?dpost)
    case dinit=>
     refine⟨g1,0,rfl,by lia,d1,?_,o1,p1⟩;have:=Ze O g1 (lo:=lo+n) (by lia);rwa [show lo+(n+1) - (0+1)=lo+n by lia,show lo+(n+1)=lo+n+1 by lia]
    case dfin=>
     rintro c wa ⟨g2,q,rfl,hq,d2,u2,o2,p2⟩
     have e:max (n+1) wb=wb:=by lia
     rw[e]at d2 u2 hq ⊢;exact⟨g2,wb,q,rfl,AL _,hq,d2,u2,o2,p2⟩
    case dstep=>
     rintro x c wa Φ hx2 ⟨g2,q,rfl,hq,d2,u2,o2,p2⟩;dsimp only;refine Bu (Qd C g2 (by lia) (by lia) ?_)
     cases hs:lt (ix (A9 wa) (lo+x)) (ix (A9 wa) (lo+x - 1))with
     | true=>
      dsimp only;rw[qX rfl];have wk:=O.asym _ _ (g2.mem (show lo+x < _ by lia)) (g2.mem (show lo+x - 1 < _ by lia)) hs
      by_cases zE:q > 0
      ·rw[qX zE,OS]
       have hsz:lo+x<=(A9 wa).size:=by rw[g2.size];lia
       have g3:Good a₀ κ (setArr wa (Lw (A9 wa) (lo+x - (q+1)) (lo+x) ((lo+x - (lo+x - (q+1))) / 2))):=g2.setArr (Xb _ _ _ _);have d3:=Dn.part (lt:=lt) (lo:=lo) hsz (show lo<=lo+x - (q+1) by lia) (by omega) d2 u2;refine Bu (Lq (Cv ⟨g3,0,rfl,by lia,?_,?_,o2.trans (MV hsz (by lia) (by lia)),p2⟩))
       ·refine Dn.grow (hi:=lo+x) O g3 (by lia) d3 (by lia) ?_
        show lt (ix (Lw (A9 wa) (lo+x - (q+1)) (lo+x) ((lo+x - (lo+x - (q+1))) / 2)) (lo+x - 1)) (ix (Lw (A9 wa) (lo+x - (q+1)) (lo+x) ((lo+x - (lo+x - (q+1))) / 2)) (lo+x))=false;rw[E2 hsz,E2 hsz,qX (by omega),qY (by lia)];exact O.ntr _ _ _ (g2.mem (by lia)) (g2.mem (show lo+x - 1 < _ by lia)) (g2.mem (by omega)) wk (d2 _ _ (by lia) (by omega) (by lia))
       ·have:=Ze O g3 (lo:=lo+x) (by lia)
        rwa [show lo+(x+1) - (0+1)=lo+x by lia,show lo+(x+1)=lo+x+1 by lia]
      ·rw[qY zE]
       refine Cv ⟨g2,0,rfl,by lia,Dn.grow (hi:=lo+x) O g2 (by lia) d2 (by lia) wk,?_,o2,p2⟩;have:=Ze O g2 (lo:=lo+x) (by lia);rwa [show lo+(x+1) - (0+1)=lo+x by lia,show lo+(x+1)=lo+x+1 by lia]
     | false=>
      dsimp only;rw[qY AK];refine Bu (Qd C g2 (by lia) (by lia) ?_)
      cases hl:lt (ix (A9 wa) (lo+x - 1)) (ix (A9 wa) (lo+x))with
      | true=>exact Cv ⟨g2,x,q,rfl,by lia,hq,d2,u2,o2,p2⟩
      | false=>
       refine Cv ⟨g2,q+1,rfl,by lia,Dn.grow (hi:=lo+x) O g2 (by lia) d2 (by lia) hl,?_,o2,p2⟩;rw[show lo+(x+1) - (q+1+1)=lo+x - (q+1) by lia];exact Up.grow (hi:=lo+x) O g2 (by lia) u2 (by omega) hs
    case dpost=>
     rintro c wa ⟨g2,m,q,rfl,hm,hq,d2,u2,o2,p2⟩;dsimp only
     have hsz:lo+m<=(A9 wa).size:=by rw[g2.size];lia
     have last:∀xG,Good a₀ κ xG->Dn lt (A9 xG) lo (lo+m)->Out (A9 w5) (A9 xG) lo (lo+wb)->CL xG=CL w5->∀(R:StateT Fq Sem (Option Nat)),R=(do
        let mut n:=m
        for _ in [n:wb] do
         let some wo <-tF (lo+n) (lo+n - 1) | return none
         if wo then break
         n:=n+1
        return some n)->wpS (Ao prog w) A E s (do R8 lo (lo+m);R) Q xG:=by
      rintro xG g3 d3 o3 p3 R rfl
      have Ψ:lo+m<=(A9 xG).size:=by rw[g3.size];lia
      rw[OS];refine Bu (Lq ?_);have g4:Good a₀ κ (setArr xG (Lw (A9 xG) lo (lo+m) ((lo+m - lo) / 2))):=g3.setArr (Xb _ _ _ _)
      exact kE C O (by lia) hm hn g4 (Dn.flip Ψ d3) λk k1 k2 k3=>h _ k g4 k1 k2 k3 (o3.trans (MV Ψ (by lia) (by lia))) p3
     by_cases zE:q > 0
     ·rw[qX zE,OS]
      refine Bu (Lq ?_);exact last _ (g2.setArr (Xb _ _ _ _)) (Dn.part hsz (by lia) (by omega) d2 u2) (o2.trans (MV hsz (by lia) (by lia))) p2 _ rfl
     ·rw[qY zE]
      exact last _ g2 d2 o2 p2 _ rfl
   have wk:=O.asym _ _ (g.mem (show lo+n < _ by lia)) (g.mem (show lo+n - 1 < _ by omega)) yg
   by_cases Κ:n > 1
   ·rw[qX Κ]
    refine Bu (Qd C g (by lia) (by omega) ?_)
    cases hr:lt (ix (A9 w5) lo) (ix (A9 w5) (lo+n - 1))with
    | true=>exact Cv (h w5 n g Χ xD u .refl rfl)
    | false=>
     dsimp only;rw[qY AK,OS]
     have hsz:lo+n<=(A9 w5).size:=by rw[g.size];lia
     have g1:Good a₀ κ (setArr w5 (Lw (A9 w5) lo (lo+n) ((lo+n - lo) / 2))):=g.setArr (Xb _ _ _ _)
     have al:∀i j,lo<=i->i < lo+n->lo<=j->j < lo+n->lt (ix (A9 w5) i) (ix (A9 w5) j)=false:=λi j i1 i2 j1 j2=>by
      have q1:=u j (lo+n - 1) (by omega) (by lia) (by omega);have q2:=u lo i (by lia) (by omega) (by omega);exact O.ntr _ _ _ (g.mem (by lia)) (g.mem (show lo < _ by lia)) (g.mem (by lia)) (O.ntr _ _ _ (g.mem (by lia)) (g.mem (show lo+n - 1 < _ by lia)) (g.mem (by lia)) q1 hr) q2
     refine Bu (Lq ?_);refine desc _ g1 ?_ (MV hsz (by lia) (by lia)) rfl;refine Dn.grow (hi:=lo+n) O g1 (by lia) (λi j a1 a2 a3=>?_) (by lia) ?_
     ·show lt (ix (Lw (A9 w5) lo (lo+n) ((lo+n - lo) / 2)) i) (ix (Lw (A9 w5) lo (lo+n) ((lo+n - lo) / 2)) j)=false
      rw[E2 hsz,E2 hsz,qX (by lia),qX (by lia)];exact al _ _ (by omega) (by omega) (by omega) (by omega)
     ·show lt (ix (Lw (A9 w5) lo (lo+n) ((lo+n - lo) / 2)) (lo+n - 1)) (ix (Lw (A9 w5) lo (lo+n) ((lo+n - lo) / 2)) (lo+n))=false
      rw[E2 hsz,E2 hsz,qX (by omega),qY (by lia),show lo+(lo+n) - 1 - (lo+n - 1)=lo by omega];exact O.ntr _ _ _ (g.mem (by lia)) (g.mem (show lo+n - 1 < _ by lia)) (g.mem (by lia)) wk hr
   ·rw[qY Κ]
    have e:n=1:=by lia
    subst e;refine desc _ g (Dn.grow (hi:=lo+1) O g (by lia) (λi j a1 a2 a3=>?_) (by lia) wk) .refl rfl
    have e1:i=lo:=by lia
    have e2:j=lo:=by lia
    rw[e1,e2];exact O.irr (g.mem (by lia))
end
theorem nS(a:Array Dp)(i:Nat):(a.extract i a.size).toList=a.toList.drop i:=by
 simp[List.extract];exact FM (by simp)
section
variable{lt:Dp->Dp->Bool}
abbrev Rl(lt:Dp->Dp->Bool)(x y:Dp):Prop:=lt y x=false
end
theorem rf{a:Array Dp}{lo hi i:Nat}(h:hi<=a.size)(zf:i < hi - lo):ix (a.extract lo hi) i=ix a (lo+i):=by
 apply Li
 rw[Array.getElem?_extract];simp
 lia
section
variable{lt:Dp->Dp->Bool}
theorem uE{a:Array Dp}{lo hi:Nat}(h:hi<=a.size)(u:Up lt a lo hi):(a.extract lo hi).toList.Pairwise (Rl lt):=by
 rw[WF];intro i j zf hj hij;simp at zf hj
 have e:∀k (hk:k < (a.extract lo hi).toList.length),(a.extract lo hi).toList[k]=ix a (lo+k):=λk hk=>by
  have xn:k < (a.extract lo hi).size:=by rw[CF]at hk;exact hk
  have:=SM xn;rw[getElem?_pos (a.extract lo hi) k xn]at this
  have hs:(a.extract lo hi).size=hi - lo:=by simp;lia
  rw[<-rf h (by lia)];simpa using this
 rw[e,e];exact u _ _ (by lia) (by lia) (by omega)
end
section
variable{prog:Bh}{w:CH}{A:CM}{E:AI->AR->Prop}{s:AR}{a₀:Array Dp}{κ:QZ}{lt:Dp->Dp->Bool}
theorem Ur{st:Fq}{Q:Unit->Fq->Prop}(Ω:a₀.size < 64)(h1:1<=a₀.size)(C:Ue prog w A s a₀ κ lt)(O:Ord (·∈a₀) lt)(g:Good a₀ κ st)(hp:CL st = #[])
  (h:∀w5,Good a₀ κ w5->Up lt (A9 w5) 0 a₀.size->Q () w5):wpS (Ao prog w) A E s sortRuns' Q st:=by
 rw[sortRuns'_eq];refine Bu (ZB ?_);dsimp only;rw[g.size]
 have hmr:minRun' a₀.size a₀.size 0=a₀.size:=by
  obtain⟨f,hf⟩:∃f,a₀.size=f+1:=⟨a₀.size - 1,by omega⟩
  have:minRun' (f+1) a₀.size 0=a₀.size:=by rw[minRun'_succ,qX Ω];rfl
  rwa [<-hf]at this
 rw[hmr]
 refine Bu (QU (JB (I:=λx c w5=>(x=0/\c=(none,0)/\Good a₀ κ w5/\CL w5 = #[])∨(1<=x/\c=(none,a₀.size)/\Good a₀ κ w5/\Up lt (A9 w5) 0 a₀.size/\(CL w5).size<=1))
  (Q:=λc w5=>c=(none,a₀.size)/\Good a₀ κ w5/\Up lt (A9 w5) 0 a₀.size/\(CL w5).size<=1) ?step ?fin ?init) ?post)
 case init=>exact .inl ⟨rfl,rfl,g,hp⟩
 case fin=>
  rintro c w5 (⟨h0,_⟩ | ⟨_,rfl,g',u',p'⟩)
  ·lia
  ·exact⟨rfl,g',u',p'⟩
 case step=>
  rintro x c wy _ hx (⟨rfl,rfl,g1,p1⟩ | ⟨Φ,rfl,g1,u1,p1⟩)
  ·dsimp only
   rw[qY (by lia)];refine Bu (wpS_countRun C O (by lia) (by lia) g1 λwa n g2 n1 n2 u2 o2 p2=>?_);dsimp only;rw[Rg]at u2
   by_cases hm:n < a₀.size
   ·rw[qX hm]
    refine Bu (Xs ?_);refine Bu (wpS_binarySort C O (by lia) (by lia) g2 (by simpa using u2) λxG g3 u3 o3 p3=>?_);rw[qY (by simp)];refine Bu (ZB ?_)
    have e3:CL xG = #[]:=by rw[p3,p2,p1]
    rw[e3];dsimp only[tU]
    have em:min (a₀.size - 0) a₀.size=a₀.size:=by lia
    rw[em]at u3 ⊢;refine Bu (Lq (Cv (.inr ⟨by lia,by rw[Rg],⟨g3.perm,g3.kind,g3.failed⟩,by simpa using u3,?_⟩)));show((CL xG).push (0,a₀.size,0)).size<=1;rw[e3];simp
   ·have e:n=a₀.size:=by lia
    subst e;rw[qY hm];refine Bu (ZB ?_)
    have e3:CL wa = #[]:=by rw[p2,p1]
    rw[e3];dsimp only[tU];refine Bu (Lq (Cv (.inr ⟨by lia,by rw[Rg],⟨g2.perm,g2.kind,g2.failed⟩,u2,?_⟩)));show((CL wa).push (0,a₀.size,0)).size<=1;rw[e3];simp
  ·dsimp only
   rw[qX (AL _)];exact Cv ⟨rfl,g1,u1,p1⟩
 case post=>
  rintro c wy ⟨rfl,g1,u1,p1⟩;dsimp only;refine Bu (QU (JB (I:=λx c yC=>c=(none,())/\Good a₀ κ yC/\Up lt (A9 yC) 0 a₀.size/\(CL yC).size<=1) (Q:=λc yC=>c=(none,())/\Good a₀ κ yC/\Up lt (A9 yC) 0 a₀.size) ?_ ?_ ⟨rfl,g1,u1,p1⟩) ?_)
  ·rintro x c yC _ _ ⟨rfl,g4,u4,p4⟩
   refine Bu (ZB ?_);rw[qX p4];exact Cv ⟨rfl,g4,u4⟩
  ·rintro c yC ⟨rfl,g4,u4,_⟩
   exact⟨rfl,g4,u4⟩
  ·rintro c yC ⟨rfl,g4,u4⟩
   exact Cv (h yC g4 u4)
end
def ltL:List Int->List Int->Bool
 | [],[]=>false
 | [],_ :: _=>true
 | _ :: _,[]=>false
 | x :: xs,y :: ys=>if x=y then ltL xs ys else decide (x < y)
theorem T9:∀x y,ltL x y=true->ltL y x=false
 | [],[],h=>by cases h
 | [],_ :: _,_=>rfl
 | _ :: _,[],h=>by cases h
 | x :: xs,y :: ys,h=>by
  unfold ltL at h ⊢
  by_cases e:x=y
  ·rw[qX e]at h;rw[qX e.symm];exact T9 xs ys h
  ·rw[qY e]at h;rw[qY (Bs e)];simp at h ⊢;lia
theorem W4:∀x y z,ltL y x=false->ltL z y=false->ltL z x=false
 | [],y,[],_,_=>rfl
 | [],[],_ :: _,_,_=>rfl
 | [],_ :: _,_ :: _,_,_=>rfl
 | x :: xs,[],z,h,_=>by cases h
 | _,y :: ys,[],_,h=>by cases h
 | x :: xs,y :: ys,z :: zs,h1,h2=>by
  unfold ltL at h1 h2 ⊢
  by_cases e1:y=x
  ·rw[qX e1]at h1
   subst e1
   by_cases e2:z=y
   ·rw[qX e2]at h2 ⊢
    exact W4 xs ys zs h1 h2
   ·rw[qY e2]at h2 ⊢;exact h2
  ·rw[qY e1]at h1
   by_cases e2:z=y
   ·subst e2;rw[qY e1];exact h1
   ·rw[qY e2]at h2
    by_cases e3:z=x
    ·subst e3;simp at h1 h2;lia
    ·rw[qY e3];simp at h1 h2 ⊢;lia
theorem bg:∀x y,ltL x y=false->ltL y x=false->x=y
 | [],[],_,_=>rfl
 | [],_ :: _,h,_=>by cases h
 | _ :: _,[],_,h=>by cases h
 | x :: xs,y :: ys,h1,h2=>by
  unfold ltL at h1 h2
  by_cases e:x=y
  ·rw[qX e]at h1;rw[qX e.symm]at h2;rw[e,bg xs ys h1 h2]
  ·rw[qY e]at h1;rw[qY (Bs e)]at h2;simp at h1 h2;lia
def ltK(f:AI->List Int)(x y:Dp):Bool:=ltL (f x.1) (f y.1)
theorem mO(f:AI->List Int)(U:Dp->Prop):Ord U (ltK f):=⟨λx y _ _ h=>T9 _ _ h,λx y z _ _ _ h1 h2=>W4 _ _ _ h1 h2⟩
section
theorem Z1(o:Bool)(h:Q (decide (a < b)) s):Af (Ao prog w) A (oneLt' o (.int a t) (.int b u)) Q E s:=by
 cases o with
 | true=>exact oneLt_int h
 | false=>
  rw[oneLt'_eq];simp only[Bb,if_false];exact AB (wpAny_lt_int (DC h))
def ag(s:AR)(v:AI)(ns:List Int):Prop:=∃a tx,v=.ref a/\s.heap.IsTuple a tx/\EF tx.toList ns
def vY(o:Bool):(AI×AI)×Nat->Option Bool×Unit->Sem (ForInStep (Option Bool×Unit)):=λe _=>match e with
 | ((p,q),i)=>eqBool p q >>= λc=>if (!c)=true then oneLt' (o&&i==0) p q >>= λb=>pure (.done (some b,()))else pure (.yield (none,()))
theorem iW(o:Bool)(x y:AI):keyLt' (sx o) x y=(KR x >>= λr=>KR y >>= λq=>forIn (r.toList.zip q.toList).zipIdx ((none,()):Option Bool×Unit) (vY o) >>= λz=>match z.1 with
  | some b=>pure b
  | none=>pure (decide (r.size < q.size))):=by kernel_rfl
theorem jU(o:Bool):∀{is js:List AI} {ns ms:List Int} (k:Nat) {Q:Bool->AR->Prop},EF is ns->EF js ms->Q (ltL ns ms) s ->
  Af (Ao prog w) A (forIn ((is.zip js).zipIdx k) ((none,()):Option Bool×Unit) (vY o) >>= λz=>match z.1 with
   | some b=>pure b
   | none=>pure (decide (n0+is.length < n0+js.length))) Q E s:=by
 intro is
 induction is with
 | nil=>
  intro js ns ms k Q h1 h2 hq;cases h1;rw[fB,j8,VU];refine AB (AM (AM ?_))
  cases h2 with
  | nil=>simpa[ltL]using hq
  | cons m t h=>simpa[ltL]using hq
 | cons v is ih=>
  intro js ns ms k Q h1 h2 hq
  cases h1 with
  | cons n t h1=>
   cases h2 with
   | nil=>
    rw[HN,j8,VU];refine AB (AM (AM ?_));rw[wY (by rw[At,Fd];lia)];exact hq
   | cons m u h2=>
    rw[FL,List.zipIdx_cons,kB];rw[bind_assoc];unfold ltL at hq;refine AB ?_;refine AB (tX ?_)
    by_cases e:n=m
    ·rw[qX e]at hq
     rw[qY (by simp[e])];refine AM ?_;have:=ih (k+1) h1 h2 hq;simpa[Nat.add_lt_add_iff_left]using this
    ·rw[qY e]at hq
     rw[qX (by simp[e])];refine AB (Z1 _ (AM ?_));exact AB (AM (AM hq))
end
section
theorem Qi(h:ag s v ns):∃tx:Array AI,EF tx.toList ns/\s.TypeIs v "tuple"/\∀(E:AI->AR->Prop) (Q:Array AI->AR->Prop),Q tx s->Af (Ao prog w) A (KR v) Q E s:=by
 obtain⟨a,tx,rfl,⟨o,ho,hc,n,hd⟩,hi⟩:=h;exact⟨tx,hi,⟨o,ho,hc⟩,λE Q q=>listItems_at ho hd q⟩
theorem nY(o:Bool)(hx:ag s x ns)(hy:ag s y ms)(h:Q (ltL ns ms) s):Af (Ao prog w) A (keyLt' (sx o) x y) Q E s:=by
 obtain⟨r,hr,_,wr⟩:=Qi (prog:=prog) (w:=w) (A:=A) hx;obtain⟨q,hq,_,wq⟩:=Qi (prog:=prog) (w:=w) (A:=A) hy;rw[iW];refine AB (wr E _ (AB (wq E _ ?_)));have:=jU (prog:=prog) (w:=w) (A:=A) (E:=E) (n0:=0) o 0 hr hq h;simp only[Rg,CF]at this;exact this
theorem dw(h:ag s v (n :: ns))(hq:∀t,Q (some (.int n t)) s):Af (Ao prog w) A (cQ v) Q E s:=by
 obtain⟨r,hr,ty,wr⟩:=Qi (prog:=prog) (w:=w) (A:=A) h;refine(AB (Ug ty ?_):Af _ _ (cQ v) Q E s);refine(show Af (Ao prog w) A (if (GY "tuple" != GY "tuple")=true then _ else _) Q E s from ?_);rw[qY (by simp)];refine AB (wr E _ (AM ?_));generalize hl:r.toList=l at hr
 cases hr with
 | cons _ t h2=>
  have:r[0]?=some (.int n t):=by
   rw[<-ZH,hl];rfl
  rw[this];exact hq t
theorem UO:∀{vs:List AI},(∀v∈vs,∃n ns,ag s v (n :: ns))->∀{Q:List (Option AI)->AR->Prop},(∀is ns,EF is ns->is.length=vs.length->Q (is.map some) s)->Af (Ao prog w) A (vs.mapM cQ) Q E s
 | [],_,Q,h=>by
  rw[List.mapM_nil];exact AM (h [] [] .nil rfl)
 | v :: vs,hv,Q,h=>by
  obtain⟨n,ns,hn⟩:=hv v AT;rw[List.mapM_cons];refine AB (dw hn λt=>AB (UO (λv zu=>hv v (AS _ zu)) λis ms h1 h2=>AM ?_));exact h (.int n t :: is) (n :: ms) (.cons n t h1) (by rw[At,h2,At])
theorem Wt(h:EF is ns)(h0:is≠[]):oneTypeOnly' is.toArray=pure (some (.type "int")):=by
 rw[oneTypeOnly'_eq,fE,mapM_typeOf_ints h];simp only[map_pure,pure_bind]
 cases is with
 | nil=>exact zX rfl h0
 | cons v is=>
  have e0:(ay (λ_=>GY "int") (v :: is)).toArray[0]?=some (GY "int"):=by simp
  have e1:((ay (λ_=>GY "int") (v :: is)).toArray.all λx=>x==GY "int")=true:=by
   simp only[List.all_toArray,tQ,SC]
   exact λ_ _=>rfl
  rw[e0];simp only[e1,if_true]
theorem iV(hv:∀v∈vs,∃n ns,ag s v (n :: ns))(h0:vs≠[])(h:Q (sx true) s):Af (Ao prog w) A (keyKind' vs.toArray) Q E s:=by
 rw[keyKind'_eq,fE];refine AB ?_;rw[map_eq_pure_bind];refine AB (UO hv λis ns h1 h2=>AM ?_)
 have yh:((is.map some).toArray.all λx=>x.isSome)=true:=by simp
 rw[qX yh];refine AB (ZI ?_)
 have hf:(is.map some).toArray.filterMap id=is.toArray:=by simp
 rw[hf,Wt h1 (by intro e;subst e;cases vs with | nil=>exact h0 rfl | cons=>simp at h2)];refine AB (AM (AM ?_));exact h
end
section
theorem IS(h:x∈NC vs):x.1∈vs/\x.1=x.2:=by
 have:x∈(NC vs).toList:=GZ.mpr h;rw[pairsOf_toList]at this;exact⟨(mem_zip_self this).2,(mem_zip_self this).1⟩
theorem dQ(vs:List AI):(NC vs).map (·.2)=vs.toArray:=by
 apply Array.ext'
 rw[L5,pairsOf_toList];simp[List.map_snd_zip]
def XU(prog:Bh)(w:CH)(A:CM)(s:AR)(vs:List AI)(f:AI->List Int):Prop:=
 ∃κ:QZ,(∀(Q:QZ->AR->Prop) (E:AI->AR->Prop),Q κ s->Af (Ao prog w) A (keyKind' vs.toArray) Q E s)/\Ue prog w A s (NC vs) κ (ltK f)
theorem Rz{a:AW}{vs:List AI}{n:Nat}{P:Fin->AR->Prop}{f:AI->List Int}(ho:s.heap.get? a=some (Ko "list" vs.toArray n)) (hz:vs.length<=sizeLine) (h63:vs.length < 64)
  (hk:2<=vs.length->∀s':AR,(∀b o,b≠a->s.heap.get? b=some o->s'.heap.get? b=some o)->XU prog w A s' vs f)
  (h:∀out:Array AI,out.toList.Perm vs->out.toList.Pairwise (λx y=>ltL (f y) (f x)=false)->P (.done (.ret .none)) { s with heap:=pB s.heap a vs out }) :
  Af (Ao prog w) A (RM.«list.sort» ⟨[.ref a],[]⟩) P E s:=by
 have ha:a < s.heap.objs.size:=Ae ho
 have hsz:vs.toArray.size=vs.length:=by simp
 obtain⟨e1,ho1⟩:∃e1,(s.heap.update a (Gh λ_=>#[])).get? a=some (Ko "list" #[] e1):=⟨_,get?_update_seq ho (λ_=>#[])⟩
 have ho6:(((s.heap.update a (Gh λ_=>#[])).push (Ko "tuple" vs.toArray 0)).push (Ko "list" #[] 0)).get? a=some (Ko "list" #[] e1):=
  AN _ (AN _ ho1)
 have old:∀b o,b≠a->s.heap.get? b=some o->(((s.heap.update a (Gh λ_=>#[])).push (Ko "tuple" vs.toArray 0)).push (Ko "list" #[] 0)).get? b=some o:=λb o hb hg=>
  AN _ (AN _ (by rw[cY _ _ _ _ hb];exact hg))
 have fin:∀w5:Fq,(A9 w5).Perm (NC vs)->(A9 w5).toList.Pairwise (Rl (ltK f))->P (.done (.ret .none)) { s with heap:=pB s.heap a vs ((A9 w5).map (·.2)) }:=by
  intro w5 hp hs
  have xW:∀x∈(A9 w5).toList,x.1=x.2:=λx hx=>by
   have:x∈(NC vs).toList:=(KN.mp hp).mem_iff.mp hx;exact(IS (GZ.mp this)).2
  refine h _ ?_ ?_
  ·have:=(KN.mp hp).map (·.2)
   rw[<-L5,<-L5,dQ]at this;simpa using this
  ·rw[L5,Ca]
   refine hs.imp_of_mem λ{x y} hx hy r=>?_
   rw[<-xW x hx,<-xW y hy];exact r
 have last:∀w5:Fq,(A9 w5).Perm (NC vs)->failedOf w5=none->(A9 w5).toList.Pairwise (Rl (ltK f))->(((A9 w5).map (·.2)).size<=sizeLine+1):=λw5 hp _ _=>by
  rw[Array.size_map,hp.size_eq,Uj]
  lia
 rw[list_sort_plain];refine AB (listItems_at ho rfl (AB (cP ho rfl (AB (jx ho1 rfl (AB (wpAny_newTuple (AB (wpAny_newList (E8 ?_)))))) ) (by rw[hsz];exact hz) (Dz _))));show Af (Ao prog w) A _ P E { s with heap:=((s.heap.update a (Gh λ_=>#[])).push (Ko "tuple" vs.toArray 0)).push (Ko "list" #[] 0) };dsimp only
 by_cases h2:vs.toArray.size < 2
 ·rw[qX h2,qX h2]
  refine AB (AM ?_);rw[StateT.run_pure]
  have hs0:(A9 (Mx ZM (vs.toArray.zip vs.toArray) #[] 7 none)).toList.Pairwise (Rl (ltK f)):=by
   have:(A9 (Mx ZM (vs.toArray.zip vs.toArray) #[] 7 none)).toList.length < 2:=by
    rw[CF];show(NC vs).size < 2;rw[Uj];omega
   generalize (A9 (Mx ZM (vs.toArray.zip vs.toArray) #[] 7 none)).toList=l at this
   match l,this with
   | [],_=>exact .nil
   | [x],_=>exact Xj _ _
   | _ :: _ :: _,h=>simp at h;lia
  refine AB (AM (AB (jx ho6 rfl (AB (cP ho6 rfl ?_ (Dz _) (last (Mx ZM (vs.toArray.zip vs.toArray) #[] 7 none) (QT _) rfl hs0))))));simp only[bne_self_eq_false,Bb,if_false];exact AM (fin (Mx ZM (vs.toArray.zip vs.toArray) #[] 7 none) (QT _) hs0)
 ·rw[qY h2,qY h2]
  obtain⟨κ,kk,C⟩:=hk (by lia) { s with heap:=((s.heap.update a (Gh λ_=>#[])).push (Ko "tuple" vs.toArray 0)).push (Ko "list" #[] 0) } old;refine AB (kk _ _ ?_)
  refine AB (Em (Srt.Ur (a₀:=NC vs) (st:=Mx κ (vs.toArray.zip vs.toArray) #[] 7 none)
   (Q:=λ_ w5=>(A9 w5).Perm (NC vs)/\failedOf w5=none/\(A9 w5).toList.Pairwise (Rl (ltK f))) (by rw[Uj];exact h63) (by rw[Uj];lia) C (mO f _) ⟨QT _,rfl,rfl⟩ rfl λw5 g u=>⟨g.perm,g.failed,?_⟩) ?_ λ_ _ e=>e)
  ·have:=uE (a:=A9 w5) (lo:=0) (hi:=(A9 w5).size) (AL _) (by rw[g.size];exact u)
   rwa [nS,List.drop_zero]at this
  rintro⟨⟨⟩,w5⟩ s' ⟨rfl,hp,hf,hs⟩;refine AB (jx ho6 rfl (AB (cP ho6 rfl ?_ (Dz _) (last w5 hp hf hs))));rw[hf];simp only[bne_self_eq_false,Bb,if_false];exact AM (fin w5 hp hs)
theorem c8(h:∀v∈vs,ag s v (f v)/\f v≠[])(h0:vs≠[]):XU prog w A s vs f:=
 ⟨sx true,λQ E q=>iV (λv hv=>by
  obtain⟨h1,h2⟩:=h v hv
  cases e:f v with
  | nil=>exact zX e h2
  | cons n ns=>exact⟨n,ns,by rw[<-e];exact h1⟩) h0 q,λx y hx hy Q E q=>nY true (h _ (IS hx).1).1 (h _ (IS hy).1).1 q⟩
def iB(v:AI):List Int:=[numOf v]
theorem c9(h:EF vs ns)(h2:2<=vs.length):XU prog w A s vs iB:=by
 refine⟨oneType',λQ E q=>?_,λx y hx hy Q E q=>?_⟩
 ·match vs,h2,h with
  | v :: u :: r,_,h=>rw[keyKind_ints h];exact AM q
 ·obtain⟨n,t,e1⟩:=h.all _ (IS hx).1
  obtain⟨m,u,e2⟩:=h.all _ (IS hy).1;rw[keyLt'_oneType,e1,e2];refine oneLt_int ?_
  have:ltK iB x y=decide (n < m):=by
   unfold ltK iB;rw[e1,e2];show(if n=m then false else decide (n < m))=_;split
   ·rename_i e;simp[e]
   ·rfl
  rw[<-this];exact q
end
def VP(h:C9)(d:AW)(es:Array RL)(ep:Nat):Prop:=∃o,h.get? d=some o/\o.ExactDict/\o.data=.dict es ep
theorem VP.at'(x:VP h d es ep)(e:∀o,h.get? d=some o->h'.get? d=some o):VP h' d es ep:=let ⟨o,ho,r⟩:=x;⟨o,e _ ho,r⟩
theorem VP.ty{s:AR}{d:AW}{es:Array RL}{ep:Nat}(x:VP s.heap d es ep):s.TypeIs (.ref d) "dict":=let ⟨o,ho,hc,_⟩:=x;⟨o,ho,hc.1⟩
section
theorem YR{Q:AI->AR->Prop}(hd:(d==EI)=false)(hm:VP s.heap d es ep)
  (kq:Q (.ref s.heap.objs.size) { s with heap:=s.heap.push { cls:=.type "dict_keyiterator",data:=.fields #[.ref d,.int 0 0,.int es.size 0,.int ep 0] } }):Af (Ao prog w) A (e8 (.ref d)) Q E s:=by
 have hT:=hm.ty;obtain⟨o,ho,hc,ε⟩:=hm;refine wpAny_pyIter_slot hT WC (DT WC hT PySem.F.entry_dict_iter ?_ (PySem.F.args_dict_iter_1 _));unfold RM.«dict.__iter__»;refine AB ?_;unfold wH;refine AB (wpAny_notOrdered_dict hT (show Af _ _ (pure (BM d)) _ _ s from AM ?_));refine(show Af _ _ (Sn d >>= _) _ _ s from ?_);unfold Sn;rw[qY (by simp[hd])];refine AB (AM (AB (Uh ho ε (AB (Xf ho ε (AB (Ch (AM ⟨_,rfl, "dict_keyiterator",_,⟨_,Ad _ rfl,rfl⟩,C2.lookup,?_⟩))))))));simpa[Lu]using kq
theorem YQ(ki:s.heap.IsKeyIter it d i es.size ep)(hm:VP s.heap d es ep)(hi:i < es.size)
  (kq:∀h',h'.IsKeyIter it d (i+1) es.size ep->FO it s.heap h'->Q (some es[i].key) { s with heap:=h' }):Af (Ao prog w) A (Lv (.ref it)) Q E s:=by
 obtain⟨o,ho,hc,hd⟩:=id ki;obtain⟨od,η,xT,θ⟩:=hm;unfold Lv;refine AB (NG (Ci (name:=Gs "__next__") ki.typeIs C2 (DT C2 ki.typeIs Oc (AB (AM (AB (AB ?_)))) (OU _))))
 first | refine AB (Fj ki.typeIs (AM (AB (QX ho hd ?_)))) | refine AB (IC ki.typeIs (AM (AB (QX ho hd ?_))))
 simp only[show NF "dict_keyiterator" = false by decide,Bb,if_false];refine(show Af _ _ (if (BM d==D0)=true then _ else _) _ _ s from ?_);rw[qY (λz:(BM d==D0)=true=>AK z)];refine AB (AM (AB (Uh η θ ?_)));rw[qY (by simp)];refine AB (AM (AB (Xf η θ ?_)));rw[qY (by simp)];refine AM ?_;simp only[show ¬((i:Int) < 0) by lia,if_false,Ak,VY hi];refine AB ?_
 first | refine AB (Fj ki.typeIs (AM (AB (Pb ki.typeIs ?_)))) | refine AB (IC ki.typeIs (AM (AB (Pb ki.typeIs ?_))))
 refine(show Af _ _ (setField (.ref it) 1 (Lu ((i:Int)+1)) >>= _) _ _ s from ?_);have ki':(s.heap.update it (tM (·.setIfInBounds 1 (Lu ((i:Int)+1))))).IsKeyIter it d (i+1) es.size ep:=⟨_,Fn _ ho (aw (Kq hd _)),(jo ..).trans hc,by rw[Kq hd];simp[Lu]⟩;refine AB (QW ho hd (by simp) (AB (E8 (AB (Pb (s:={ s with heap:=s.heap.update it (tM (·.setIfInBounds 1 (Lu ((i:Int)+1)))) }) ki'.typeIs ?_)))));exact(show Af _ _ (pure es[i].key) _ _ _ from AM (AM ⟨_,rfl,AM (kq _ ki' (IL ..))⟩))
theorem bT(h0:A.handled=none)(ki:s.heap.IsKeyIter it d i es.size ep)(hm:VP s.heap d es ep)(hi:es.size<=i)
  (kq:∀h',Sk it s.heap h'->Q none { s with heap:=h' }):Af (Ao prog w) A (Lv (.ref it)) Q E s:=by
 obtain⟨o,ho,hc,hd⟩:=id ki;obtain⟨od,η,xT,θ⟩:=hm;unfold Lv;refine AB (NG (Ci (name:=Gs "__next__") ki.typeIs C2 (DT C2 ki.typeIs Oc (AB (AM (AB (AB ?_)))) (OU _))))
 first | refine AB (Fj ki.typeIs (AM (AB (QX ho hd ?_)))) | refine AB (IC ki.typeIs (AM (AB (QX ho hd ?_))))
 simp only[show NF "dict_keyiterator" = false by decide,Bb,if_false];refine(show Af _ _ (if (BM d==D0)=true then _ else _) _ _ s from ?_);rw[qY (λz:(BM d==D0)=true=>AK z)];refine AB (AM (AB (Uh η θ ?_)));rw[qY (by simp)];refine AB (AM (AB (Xf η θ ?_)));rw[qY (by simp)];refine AM ?_;simp only[show ¬((i:Int) < 0) by lia,if_false,Ak,Array.getElem?_eq_none hi];refine AB ?_
 first | refine AB (Fj ki.typeIs (AM (show Af _ _ (setField (.ref it) 0 .none >>= _) _ _ s from ?_))) | refine AB (IC ki.typeIs (AM (show Af _ _ (setField (.ref it) 0 .none >>= _) _ _ s from ?_)))
 refine AB (QW ho hd (by simp) (show Af _ _ (newExc (.type "StopIteration") [] >>= _) _ _ _ from AB ?_));simp only[newExc,newTuple];refine AB (Ch (AB (m:=QY _ _) (XY (a:=D0) (by first | rfl | (simp only[QY];rfl)) (Ch ?_ (by size_fits)))) (by size_fits));simp only[raiseNew];refine AB (wpAny_handled ?_);rw[show A.in1.handled=none from h0];refine AB (AM (wpAny_throw ?_));refine AB (V6 (T:="StopIteration") (b:=true) ⟨_,Ad _ rfl,rfl⟩ ZL (AM ?_));exact kq _ (((IL ..).extBut.push _).push _)
theorem dM(h0:A.handled=none)(I:AW)(wd:d≠I):Walks prog w A I [I,d] [I] es.size (λi v=>∃h:i < es.size,v=es[i].key) (λi h=>h.IsKeyIter I d i es.size ep/\VP h d es ep) where
 sub:=λx hx=>by simp at hx;simp[hx]
 frame:=λ_ _ _ st keep=>⟨st.1.at λo e=>keep I (by simp) o e,st.2.at' λo e=>keep d (by simp) o e⟩
 item:=λi s Q E hi st kq=>YQ st.1 st.2 hi λh' ki' zg=>kq _ h' s.toks ⟨hi,rfl⟩ ⟨ki',st.2.at' λo e=>zg.extBut d o wd e⟩ λb o hb e=>zg.extBut b o (λh=>hb (by simp[h])) e
 done:=λs Q E st kq=>bT h0 st.1 st.2 (AL _) λh' ι=>kq h' s.toks λb o hb e=>ι b o (λh=>hb (by simp[h])) e
 self:=λ_ _ _ _ st kq=>jt st.1 kq
theorem bS(lo:(d==EI)=false):PySem.W.KdlSrc prog w "dict" d d es.size (λi v=>∃h:i < es.size,v=es[i].key) (λh=>VP h d es ep) where
 type:=λ_ hm=>hm.ty
 there:=λ_ hm=>⟨let ⟨_,ho,_⟩:=hm;Ae ho,let ⟨_,ho,_⟩:=hm;Ae ho⟩
 keep:=λ_ _ hm hk=>hm.at' λo e=>hk d (.inl rfl) o e
 notList:=by decide
 notTuple:=by decide
 hint:=λ_ _ _ _ hm hq=>PySem.W.kdl_hint_dict hm.ty hq
 iter:=λ_ _ h0 hm=>⟨_,_,(λ_ _ hq=>YR lo hm hq),dM h0 _ (BF (let ⟨_,ho,_⟩:=hm;Ae ho)),⟨⟨_,Ad _ rfl,rfl,rfl⟩,hm.at' λo e=>AN _ e⟩⟩
end
end Srt
namespace L2
open PySem PySem.Spec PyProof.Rows
open Srt (ltL)
theorem YV{α β:Type}{R:α->β->Prop}{l2 l2':List β}(p:l2.Perm l2'):∀{l1:List α},HC R l1 l2->∃Ο,HC R Ο l2'/\Ο.Perm l1:=by
 induction p with
 | nil=>intro l1 h;cases h;exact⟨[],.nil,.refl _⟩
 | cons x _ ih=>
  intro l1 h
  cases h with
  | cons r t=>
   obtain⟨l',h1,h2⟩:=ih t;exact⟨_ :: l',.cons r h1,h2.cons _⟩
 | swap x y l=>
  intro l1 h
  cases h with
  | cons r t=>
   cases t with
   | cons r2 t=>exact⟨_ :: _ :: _,.cons r2 (.cons r t),List.Perm.swap _ _ _⟩
 | trans _ _ ih1 ih2=>
  intro l1 h;obtain⟨a,h1,h2⟩:=ih1 h;obtain⟨b,h3,h4⟩:=ih2 h1;exact⟨b,h3,h4.trans h2⟩
theorem Py{α β γ:Type}{R:α->β->Prop}{f:α->γ}{g:β->γ}:∀{l1:List α} {l2:List β},HC R l1 l2->(∀a∈l1,∀b,R a b->g b=f a)->l2.map g=l1.map f
 | _,_,.nil,_=>rfl
 | _,_,.cons r t,h=>by rw[BC,BC,h _ AT _ r,Py t λa ha=>h a (AS _ ha)]
theorem Tl{α β:Type}{R:α->β->Prop}:∀{l1:List α} {l2:List β} {b:β},HC R l1 l2->b∈l2->∃a∈l1,R a b
 | _,_,_,.nil,h=>nomatch h
 | _,_,b,.cons r t,h=>by
  rcases AZ.mp h with h | h
  ·subst h;exact⟨_,AT,r⟩
  ·obtain⟨a,ha,e⟩:=Tl t h
   exact⟨a,AS _ ha,e⟩
def VH:V->Int
 | .int n=>n
 | _=>0
def dH(H:Hp):AI->List Int
 | .int n _=>[n]
 | .ref b=>match H b with
  | some (.tup xs)=>xs.map VH
  | _=>[]
 | _=>[]
theorem Qx(r:List Int):(r.map V.int).map VH=r:=by
 rw[BL];exact(DV λa _=>rfl).trans (tP r)
def vf(K:AG)(H:Hp)(p:AW)(G:List V->Prop):Prop:=
 (∃vs,(SqL K H p vs∨SqT K H p vs)/\G vs)∨(∃f',H p=some (.dK f')/\G (f'.map λx=>kV x.1)) ∨
  ∃f',H p=some (.dT f')/\∀bs:List AW,HC (λ(k:List Key×V) b=>H b=some (.tup (k.1.map kV))) f' bs->G (bs.map V.ref)
def V5(H:Hp)(f:V->List Int)(vs:List V):Prop:=(∀v∈vs,∃n,v=.int n/\f v=[n])∨∀v∈vs,∃b,v=.ref b/\H b=some (.tup ((f v).map V.int))/\f v≠[]
def uY(K:AG):List V->Hp->VK->Prop:=λxs H Q=>∃p,xs=[.ref p]/\vf K H p λvs=>∃f:V->List Int,vs.length < 64/\V5 H f vs /\
 ∀out,out.Perm vs->out.Pairwise (λx y=>ltL (f y) (f x)=false)->∀l,H l=none->Q (.ref l) (upd H l (.lst out))
theorem V5.rel(h:V5 H f vs):∀v∈vs,∀u,RelV v u->dH H u=f v:=λv hv u r=>by
 rcases h with h | h
 ·obtain⟨n,rfl,e⟩:=h v hv
  obtain⟨t,rfl⟩:=r;exact e.symm
 ·obtain⟨b,rfl,e,_⟩:=h v hv
  cases r;show(match H b with | some (.tup xs)=>xs.map VH | _=>[])=_;rw[e];exact Qx _
theorem YB(hc:X.calm=true)(I:Inv X ζ σ H s)(h:vf X.K H p G) :
  ∃vs tx,G vs/\Bw vs tx/\tx.length<=sizeLine/\∀(R:List AI->AR->Prop) (E:AI->AR->Prop),(∀(g:C9) (tk:Nat),(∀b o,s.heap.get? b=some o->g.get? b=some o)->R tx { s with heap:=g,toks:=tk })->Af (Ao X.prog X.w) X.A.in1 (collect (.ref p)) R E s:=by
 have hh:X.A.handled=none:=I.ok.hd hc
 rcases h with⟨vs,sq,g⟩ | ⟨f',e,g⟩ | ⟨f',e,g⟩
 ·rcases sq with sq | sq
  ·obtain⟨tx,rv,pl,hz⟩:=I.list sq
   refine⟨vs,tx,g,rv,by rw[<-rv.length];exact hz,λR E k=>collect_list pl.isList (k _ s.toks λb o e=>?_) (by rw[<-rv.length];exact hz)⟩;rw[cY _ _ _ _ (BF (Ae e))];exact AN _ e
  ·obtain⟨tx,rv,⟨o,ho,zd,n,hd⟩,hz⟩:=I.tuple sq
   have hz':tx.length<=sizeLine:=by rw[<-rv.length];exact hz
   exact⟨vs,tx,g,rv,hz',λR E k=>wpAny_collect_seq p (.inr rfl) ho zd hd (λh' kp=>by simpa using k h' s.toks kp) (by simpa using hz')⟩
 ·obtain⟨hz,sm,us,kv,o,es,ep,g1,g2,g3,g5,g6,_⟩:=(show DE X.prog X.w H s.heap p (.dK f')from I.hok p _ e)
  have hlen:es.size=f'.length:=by
   have a1:=g6.length;have a2:f'.length=us.length:=FT kv;rw[CF]at a1
   lia
  have hv:Bw (f'.map λx=>kV x.1) (es.toList.map (·.key)):=by
   have key:∀{l:List RL} {us:List (Key×AI)} {f':List (Key×V)},Pairs (Ew X.prog X.w) l us->KV f' us->Bw (f'.map λx=>kV x.1) (l.map (·.key)):=by
    intro l us f' hp
    induction hp generalizing f' with
    | nil=>intro h;cases h;exact .nil
    | cons q1 q2 _ ih=>
     intro h
     cases h with
     | cons r t=>
      refine .cons ?_ (ih t);dsimp only;rw[r.1]
      rcases Dt q1 with⟨i,t,e1,e2⟩ | ⟨x,t,e1,e2⟩
      ·rw[e1,e2];exact⟨t,rfl⟩
      ·rw[e1,e2];exact⟨t,rfl⟩
   exact key g6 kv
  refine⟨_,es.toList.map (·.key),g,hv,by rw[AF,CF,hlen];exact hz,λR E k=>?_⟩
  refine ZD (Srt.bS (es:=es) (ep:=ep) sm) hh ⟨o,g1,g2,g3⟩ (by rw[hlen];exact hz) λg' tk acc kp ac=>?_
  have:acc.toList=es.toList.map (·.key):=by
   apply LX
   intro j
   by_cases hj:j < es.size
   ·have yo:j < acc.size:=by rw[ac.1];exact hj
    obtain⟨_,e2⟩:=ac.2 j acc[j] (by simp[yo]);simp[hj,yo,e2]
   ·have yo:¬j < acc.size:=by rw[ac.1];exact hj
    simp[hj,yo]
  rw[this];exact k g' tk kp
 ·obtain⟨hz,sm,xs,rr,o,es,ep,g1,g2,g3,g4,_⟩:=(show DE X.prog X.w H s.heap p (.dT f')from I.hok p _ e)
  have hlen:es.size=f'.length:=by
   have a1:=congrArg Oe g4;have a2:f'.length=xs.length:=FT rr;rw[CF,AF]at a1
   lia
  have hb:HC (λ(k:List Key×V) b=>H b=some (.tup (k.1.map kV))) f' (xs.map (·.2.1)):=by
   have key:∀{f':List (List Key×V)} {xs:List (List Key×AW×AI)},HC (λ(p:List Key×V) (q:List Key×AW×AI)=>p.1=q.1/\H q.2.1=some (.tup (p.1.map kV))/\RelV p.2 q.2.2) f' xs->HC (λ(k:List Key×V) b=>H b=some (.tup (k.1.map kV))) f' (xs.map (·.2.1)):=by
    intro f' xs h
    induction h with
    | nil=>exact .nil
    | cons r _ ih=>exact .cons r.2.1 ih
   exact key rr
  have hk:es.toList.map (·.key)=(xs.map (·.2.1)).map BM:=by
   rw[g4,BL,BL];rfl
  have hv:∀l:List AW,Bw (l.map V.ref) (l.map BM):=λl=>by
   induction l with
   | nil=>exact .nil
   | cons a l ih=>exact .cons rfl ih
  refine⟨_,(xs.map (·.2.1)).map BM,g _ hb,hv _,by rw[AF,AF,<-FT rr];exact hz,λR E k=>?_⟩
  refine ZD (Srt.bS (es:=es) (ep:=ep) sm) hh ⟨o,g1,g2,g3⟩ (by rw[hlen];exact hz) λg' tk acc kp ac=>?_
  have:acc.toList=(xs.map (·.2.1)).map BM:=by
   rw[<-hk]
   apply LX
   intro j
   by_cases hj:j < es.size
   ·have yo:j < acc.size:=by rw[ac.1];exact hj
    obtain⟨_,e2⟩:=ac.2 j acc[j] (by simp[yo]);simp[hj,yo,e2]
   ·have yo:¬j < acc.size:=by rw[ac.1];exact hj
    simp[hj,yo]
  rw[this];exact k g' tk kp
theorem YK{X:Cx}{s:AR}{H:Hp}{f:V->List Int}{vs:List V}{tx:List AI}(I:∀b xs,H b=some (.tup xs)->∃is:List AI,Bw xs is/\ZU s.heap b is.toArray)(h:V5 H f vs)(rv:Bw vs tx)(h2:2<=tx.length){A:CM}:Srt.XU X.prog X.w A s tx (dH H):=by
 rcases id h with hi | ht
 ·have:∃ns,EF tx ns:=by
   have key:∀{vs:List V} {tx:List AI},Bw vs tx->(∀v∈vs,∃n,v=.int n/\f v=[n])->∃ns,EF tx ns:=by
    intro vs tx r
    induction r with
    | nil=>exact λ_=>⟨[],.nil⟩
    | cons r _ ih=>
     intro hv
     obtain⟨ns,yi⟩:=ih λv zu=>hv v (AS _ zu)
     obtain⟨n,rfl,_⟩:=hv _ AT;obtain⟨t,rfl⟩:=r;exact⟨n :: ns,.cons n t yi⟩
   exact key rv hi
  obtain⟨ns,yi⟩:=this;obtain⟨κ,k1,k2⟩:=Srt.c9 (prog:=X.prog) (w:=X.w) (A:=A) (s:=s) yi h2;refine⟨κ,k1,λx y hx hy Q E q=>k2 x y hx hy Q E ?_⟩;obtain⟨n,t,e1⟩:=yi.all _ (Srt.IS hx).1;obtain⟨m,u,e2⟩:=yi.all _ (Srt.IS hy).1
  have e:Srt.ltK Srt.iB x y=Srt.ltK (dH H) x y:=by
   unfold Srt.ltK Srt.iB;rw[e1,e2];rfl
  rw[e];exact q
 ·refine Srt.c8 (λu hu=>?_) (by intro e;subst e;simp at h2)
  obtain⟨v,hv,r⟩:=Tl rv hu;rw[h.rel v hv u r];obtain⟨b,rfl,e,ne⟩:=ht v hv;cases r;refine⟨⟨b,?_⟩,ne⟩;obtain⟨is,r,o,ho,zd,n,hd⟩:=I b _ e;exact⟨is.toArray,rfl,⟨o,ho,zd,n,hd⟩,by simpa using intsAre_of r⟩
theorem eJ{X}(hc:X.calm=true):KI X (.builtin "sorted") (uY X.K):=by
 intro ζ s σ H xs us Q I r h;obtain⟨p,rfl,src⟩:=h;obtain⟨u,rfl,rx⟩:=vals1 r;cases rx;obtain⟨vs,tx,⟨f,h63,rows,q⟩,rv,hz,col⟩:=YB hc I src;refine Calls.call_function_entry kind_sorted plain_sorted entry_sorted (args_sorted1 _) ?_;unfold RM.«sorted»;refine AB (m:=checkCount "sorted" 1 1 _) (AM (AB (col _ _ λg tk kp=>?_)));refine AB (wpAny_newList ?_ hz);have I1:Inv X ζ σ H { s with heap:=g,toks:=tk }:=I.kept kp;have hl:(g.push (Ko "list" tx.toArray 0)).get? g.objs.size=some (Ko "list" tx.toArray 0):=Ad _ rfl;refine AB (E8 (DT slot_list_sort ⟨_,hl,rfl⟩ entry_list_sort (Srt.Rz (f:=dH H) hl hz (by rw[<-rv.length];exact h63) (λh2 s' keep=>?_) λout po so=>⟨_,rfl,AM ⟨_,rfl,?_⟩⟩) (args_list_sort _)))
 ·refine YK (λb xs e=>?_) rows rv h2
  obtain⟨_,is,r,o,ho,zd,n,hd⟩:=(show DE X.prog X.w H g b (.tup xs)from I1.hok b _ e);exact⟨is,r,o,keep b o (BF (Ae ho)) (AN _ ho),zd,n,hd⟩
 ·obtain⟨vo,ro,pv⟩:=YV po.symm rv
  have so':vo.Pairwise (λx y=>ltL (f y) (f x)=false):=by
   have e:out.toList.map (dH H)=vo.map f:=Py ro λa ha b rb=>rows.rel a (pv.mem_iff.mp ha) b rb
   have:=(Ca (f:=dH H) (R:=λx y=>ltL y x=false)).mpr so;rw[e]at this;exact Ca.mp this
  obtain⟨k,hk⟩:=sortedHeap_at (out:=out) hl
  have hlen:vo.length<=sizeLine:=by rw[pv.length_eq,rv.length];exact hz
  have I2:=I1.laid (a:=g.objs.size) (o:=.lst vo) (t':=tk) (h':=pB (g.push (Ko "list" tx.toArray 0)) g.objs.size tx out)
   (λb u z=>by
    have lt:b < g.objs.size:=Ae z;rw[sortedHeap_old (BF lt) (by rw[size_push'];exact IK lt)]
    exact AN _ z) (AL _) ⟨hlen,out.toList,k,ro,hk⟩
  exact⟨.ref g.objs.size,_,I2,rfl,q vo pv so' _ (I1.hok.fresh (AL _))⟩
def CI(ns:List Int):List Int:=ns.mergeSort (λa b=>decide (a<=b))
@[simp] def tV:CI []=[]:=by unfold CI;simp
theorem EK(ns:List Int):(CI ns).Perm ns:=cU ns _
theorem TM(ns:List Int):(CI ns).Pairwise (·<=·):=by
 have:=Xk (le:=λa b:Int=>decide (a<=b)) (by intro a b c h1 h2;simp at h1 h2 ⊢;lia) (by intro a b;simp;lia) ns
 exact this.imp λh=>by simpa using h
def Ps(rs:List (List Int)):List (List Int):=rs.mergeSort (λa b=>!ltL b a)
theorem Jm(rs:List (List Int)):(Ps rs).Perm rs:=cU rs _
theorem TN(rs:List (List Int)):(Ps rs).Pairwise (λa b=>ltL b a=false):=by
 have:=Xk (le:=λa b:List Int=>!ltL b a) (by intro a b c h1 h2;simp at h1 h2 ⊢;exact Srt.W4 _ _ _ h1 h2) (by
  intro a b
  cases e:ltL b a with
  | false=>simp
  | true=>simp[Srt.T9 _ _ e]) rs
 exact this.imp λh=>by simpa using h
theorem Vb{l l':List (List Int)}(p:l.Perm l')(h:l.Pairwise (λa b=>ltL b a=false))(h':l'.Pairwise (λa b=>ltL b a=false)):l=l':=
 p.eq_of_pairwise (λa b _ _ h1 h2=>Srt.bg a b h2 h1) h h'
def aJ:Key->D
 | .inl i=>.int i
 | .inr x=>.str x
def Mc(d:D)(S:Sto):Option (List D):=match d with
 | .fro ds=>some ds
 | .tup ds=>some ds
 | .ref n=>match S[n]? with
  | some (.lst ds)=>some ds
  | some (.dK f')=>some (f'.map λx=>aJ x.1)
  | some (.dT f')=>some (f'.map λx=>.tup (x.1.map aJ))
  | _=>none
 | _=>none
def Rs(r:List Int):D:=.tup (r.map D.int)
def Vf:List D->Option (List (List Int))
 | []=>some []
 | .tup ds :: r=>match JQ ds,Vf r with
  | some (n :: ns),some rs=>some ((n :: ns) :: rs)
  | _,_=>none
 | _ :: _=>none
def LZ(ds:List D):Option (List D):=if ds.length < 64 then(match JQ ds with
 | some ns=>some ((CI ns).map D.int)
 | none=>match Vf ds with
  | some rs=>some ((Ps rs).map Rs)
  | none=>none)else none
theorem Vc{ds es:List D}(h:LZ ds=some es):ds.length < 64:=by
 unfold LZ at h;split at h
 ·assumption
 ·cases h
def Ge(m:ME):ME:=λe S=>(m e S).bind λd S1=>match Mc d S1 with
 | some ds=>match LZ ds with
  | some es=>.ok (.ref S1.length) (S1++[.lst es])
  | none=>.bad
 | none=>.bad
section
theorem mj(x y:Int):ltL [y] [x]=decide (y < x):=by
 show(if y=x then false else decide (y < x))=_;split
 ·rename_i e;simp[e]
 ·rfl
def U2(H:Hp):V->List Int
 | .int n=>[n]
 | .ref b=>match H b with
  | some (.tup xs)=>xs.map VH
  | _=>[]
 | _=>[]
theorem YL{K}{ρ}{H}:∀{ds:List D} {rs:List (List Int)} {vs:List V},Vf ds=some rs->Ax K ρ H ds vs->vs.map (U2 H)=rs/\∀v∈vs,∃b,v=.ref b/\H b=some (.tup ((U2 H v).map V.int))/\U2 H v≠[]
 | [],_,_,h,.nil=>by cases h;exact⟨rfl,λv hv=>nomatch hv⟩
 | .tup ts :: ds,rs,_,h,.cons r t=>by
  unfold Vf at h;split at h
  ·rename_i n ns rs' h1 h2
   cases h;obtain⟨i1,i2⟩:=YL h2 t
   cases r with
   | @tup _ b ws hb rr=>
    have:=Nn h1;subst this;have:=rr.ints;subst this
    have e:U2 H (.ref b)=n :: ns:=by
     show(match H b with | some (.tup xs)=>xs.map VH | _=>[])=_;rw[hb];exact Qx _
    refine⟨by rw[BC,e,i1],λv hv=>?_⟩
    rcases AZ.mp hv with hv | hv
    ·subst hv
     refine⟨b,rfl,?_,?_⟩
     ·rw[e];exact hb
     ·rw[e];exact List.cons_ne_nil _ _
    ·exact i2 v hv
  ·cases h
 | .non :: _,_,_,h,_=>by cases h
 | .bl _ :: _,_,_,h,_=>by cases h
 | .int _ :: _,_,_,h,_=>by cases h
 | .str _ :: _,_,_,h,_=>by cases h
 | .fro _ :: _,_,_,h,_=>by cases h
 | .ref _ :: _,_,_,h,_=>by cases h
 | .exc _ :: _,_,_,h,_=>by cases h
theorem YN{K}{ρ}{H}:∀{vs:List V},(∀v∈vs,∃b,v=.ref b/\H b=some (.tup ((U2 H v).map V.int))/\U2 H v≠[])->Ax K ρ H ((vs.map (U2 H)).map Rs) vs
 | [],_=>.nil
 | v :: vs,h=>by
  obtain⟨b,e,hb,_⟩:=h v AT;refine .cons ?_ (YN λu hu=>h u (AS _ hu));subst e;exact .tup hb (Ax.of_ints _)
theorem ga{K:AG}{ρ:List AW}{H:Hp}{ds es:List D}{vs:List V}(h:LZ ds=some es)(r:Ax K ρ H ds vs) :
  ∃f:V->List Int,V5 H f vs/\∀out,out.Perm vs->out.Pairwise (λx y=>ltL (f y) (f x)=false)->Ax K ρ H es out:=by
 have hl:=Vc h;unfold LZ at h;rw[qX hl]at h;split at h
 ·rename_i ns hz
  cases h;have:=Nn hz;subst this;have:=r.ints;subst this;refine⟨λv=>[VH v],.inl λv hv=>?_,λout po so=>?_⟩
  ·obtain⟨n,_,rfl⟩:=Av.mp hv
   exact⟨n,rfl,rfl⟩
  ·have e1:out=(out.map VH).map V.int:=by
    rw[BL]
    conv=>lhs;rw[<-Sj out]
    refine DV λv hv=>?_
    obtain⟨n,_,rfl⟩:=Av.mp (po.mem_iff.mp hv);rfl
   have e2:out.map VH=CI ns:=by
    have p1:(out.map VH).Perm (CI ns):=by
     have:=po.map VH;rw[Qx]at this;exact this.trans (EK ns).symm
    refine p1.eq_of_pairwise (λa b _ _ h1 h2=>Int.le_antisymm h1 h2) ?_ (TM ns);rw[Ca]
    refine so.imp λ{x y} hxy=>?_
    rw[mj]at hxy;simp at hxy;exact hxy
   rw[e1,e2];exact Ax.of_ints _
 ·split at h
  ·rename_i rs hr
   cases h;obtain⟨i1,i2⟩:=YL hr r;refine⟨U2 H,.inr i2,λout po so=>?_⟩
   have e2:out.map (U2 H)=Ps rs:=by
    refine Vb ?_ (Ca.mpr so) (TN rs);have:=po.map (U2 H);rw[i1]at this;exact this.trans (Jm rs).symm
   rw[<-e2]
   exact YN λv hv=>i2 v (po.mem_iff.mp hv)
  ·cases h
theorem UE{K}{ρ}{H}:∀ks:List Key,Ax K ρ H (ks.map aJ) (ks.map kV)
 | []=>.nil
 | .inl i :: ks=>.cons (.int i) (UE ks)
 | .inr x :: ks=>.cons (.str x) (UE ks)
theorem P5{K}{ρ}{H}:∀{f':List (Key×D)} {w6:List (Key×V)},KVR K ρ H f' w6->Ax K ρ H (f'.map λx=>aJ x.1) (w6.map λx=>kV x.1)
 | _,_,.nil=>.nil
 | (k,_) :: _,(k',_) :: _,.cons r t=>by
  have e:k=k':=r.1;subst e
  cases k with
  | inl i=>exact .cons (.int i) (P5 t)
  | inr x=>exact .cons (.str x) (P5 t)
theorem UD{K}{ρ}{H}:∀{f':List (List Key×D)} {w6:List (List Key×V)} {bs:List AW},KVR K ρ H f' w6->HC (λ(k:List Key×V) b=>H b=some (.tup (k.1.map kV))) w6 bs->Ax K ρ H (f'.map λx=>.tup (x.1.map aJ)) (bs.map V.ref)
 | _,_,_,.nil,.nil=>.nil
 | (k,_) :: _,(k',_) :: _,_,.cons r t,.cons r2 t2=>by
  have e:k=k':=r.1;subst e;exact .cons (.tup r2 (UE k)) (UD t t2)
theorem Jf(hc:X.calm=true)(hg:Gl X "sorted") (hm:X.mg "sorted" = none) (h:GE X E e m) (he:AY [e] X.env=(false,Cc e X.env) :: AY [] X.env:=by rfl):GE X E (.Call (.Name "sorted" p) [e] [] pos) (Ge m):=
 (NZ (eJ hc) hg hm v0 (Gb h JG he) (by decide) (by decide) he rfl).imp λσ H Q ⟨ρ,l,S,hl,hs,hm⟩=>by
 refine⟨ρ,l,S,hl,hs,hm.seq λd S1 hm ρ1 H1 x l1 s1 r1=>?_⟩
 cases hq:Mc d S1 with
 | none=>rw[hq]at hm;exact hm.elim
 | some ds=>
  rw[hq]at hm;dsimp only at hm
  cases hi:LZ ds with
  | none=>rw[hi]at hm;exact hm.elim
  | some es=>
   rw[hi]at hm
   have fin:∀vs:List V,Ax X.K ρ1 H1 es vs->∀q,H1 q=none->Q (.ref q) (upd H1 q (.lst vs)):=λvs rr q hq=>by
    have le:Le X.K ρ1 H1 (ρ1++[q]) (upd H1 q (.lst vs)):=Le.alloc hq;obtain⟨s4,l4,at4⟩:=s1.alloc (ho:=.lst vs) (o:=.lst es) hq ⟨_,B0,rr.mono le⟩;exact hm _ _ _ (l1.trans l4) s4 (.ref at4)
   have out:∀vs,Ax X.K ρ1 H1 ds vs->∃f:V->List Int,vs.length < 64/\V5 H1 f vs/\∀out,out.Perm vs->out.Pairwise (λx y=>ltL (f y) (f x)=false)->∀l,H1 l=none->Q (.ref l) (upd H1 l (.lst out)):=λvs rr=>by
    obtain⟨f,k1,k2⟩:=ga hi rr;exact⟨f,by rw[<-rr.length];exact Vc hi,k1,λout po so=>fin out (k2 out po so)⟩
   cases r1 with
   | fro h1 h2=>cases hq;exact⟨_,rfl,.inl ⟨_,.inl h1.sq,out _ h2⟩⟩
   | tup h1 h2=>cases hq;exact⟨_,rfl,.inl ⟨_,.inr (.inl (.inl h1)),out _ h2⟩⟩
   | @ref n a hn=>
    obtain⟨o,ho,ro⟩:=s1.there hn;unfold Mc at hq;simp only[ho]at hq
    cases o with
    | lst ys=>cases hq;obtain⟨vs,e,rr⟩:=ro;exact⟨_,rfl,.inl ⟨vs,.inl (.inl (.inl e)),out _ rr⟩⟩
    | dK f'=>cases hq;obtain⟨vs,e,rr⟩:=ro;exact⟨_,rfl,.inr (.inl ⟨vs,e,out _ (P5 rr)⟩)⟩
    | dT f'=>cases hq;obtain⟨vs,e,rr⟩:=ro;exact⟨_,rfl,.inr (.inr ⟨vs,e,λbs hb=>out _ (UD rr hb)⟩)⟩
    | ins C fs=>cases hq
    | fK _=>cases hq
    | fT _=>cases hq
    | mem _=>cases hq
   | _=>cases hq
end
open PySem PySem.Spec PyProof.Rows
theorem ib{K}{t}(h:∀A∈["NoneType", "bool", "int", "str", "tuple", "list", "dict"],Fs K (.type A) (.type t)=oh t A):∀A b,isB t A=some b->Fs K (.type A) (.type t)=some b:=λA b e=>by
 unfold isB at e;split at e
 ·rename_i hA
  rw[h A (by simpa using hA)];exact e
 ·cases e
theorem dh{K}:∀A b,isB "tuple" A=some b->Fs K (.type A) (.type "tuple")=some b:=ib λA h=>by
 simp only[AZ,Iy,or_false]at h
 rcases h with rfl | rfl | rfl | rfl | rfl | rfl | rfl <;> kernel_rfl
theorem ic{K}:∀A b,isB "list" A=some b->Fs K (.type A) (.type "list")=some b:=ib λA h=>by
 simp only[AZ,Iy,or_false]at h
 rcases h with rfl | rfl | rfl | rfl | rfl | rfl | rfl <;> kernel_rfl
def gZ(K:AG):Sp:=λvs H Q _=>∃(a:AW) (ns:List Int),vs=[.ref a]/\VR K H a (ns.map V.int)/\ns.length<=63/\∀H',Q (.bl true) H'
theorem iT{P}{w}{K}{mg}{base}{k}{fa}{fd}{f}(F:Cq P w K mg base (CXG P w) k fa fd ["script"] (spM K 1 f))
  (h:∀ns:List Int,ns.length<=63->∃S',f [.fro (ns.map D.int)] []=.ok (.bl true) S'):Cq P w K mg base (CXG P w) k fa fd ["script"] (gZ K):=F.imp λvs H Q E ⟨a,ns,e,hS,hl,q⟩=>by
 subst e;obtain⟨S',e⟩:=h ns hl;refine⟨[],[.fro (ns.map D.int)],[],rfl,.cons (.fro hS (Ax.of_ints ns)) .nil,⟨rfl,λi j a hi=>by simp at hi,λn o a hn=>by simp at hn⟩,?_⟩;rw[e]
 exact λρ' H' x _ _ r=>by cases r;exact q H'
theorem sM{K:AG}{H:Hp}{a:AW}{ns:List Int}(hO:n9 H)(hS:SqL K H a (ns.map V.int)):VR K H a (ns.map V.int):=by
 rcases hS with(h | h) | h
 ·rcases hO a with z | ⟨o,xs,z⟩ <;> rw[z]at h <;> cases h
 ·exact .inl h
 ·exact .inr h
theorem sZ(h:CXG P w [] H s (λ_ _ _=>False) e s'):False:=by
 obtain⟨_,_,_,_,_,_,_,_,_,z⟩:=h;exact z
open PySem
def ou(I:Lo->Sto->Prop)(R:Fl->Sto->Prop)(f:Fl)(S:Sto):Prop:=match f with
 | .nx e=>I e S
 | .ct e=>I e S
 | .bk e=>R (.nx e) S
 | .rt d=>R (.rt d) S
 | .ex c e=>R (.ex c e) S
theorem nJ(I:Nat->Lo->Sto->Prop)(R:Fl->Sto->Prop)(hv:∀i e S,I i e S->v S=some xs)
  (step:∀i d e S,xs[i]?=some d->I i e S->∃e1 S1,g d e S=.ok e1 S1/\∃f S2,b e1 S1=.ok f S2/\ou (I (i+1)) R f S2)
  (fin:∀e S,I xs.length e S->R (.nx e) S):∀(k i:Nat) (e:Lo) (S:Sto),I i e S->i<=xs.length->xs.length<=i+k->∃f S',M9 v g b k i e S=.ok f S'/\R f S':=by
 intro k
 induction k with
 | zero=>
  intro i e S h h1 h2
  have:i=xs.length:=by lia
  subst this;refine⟨.nx e,S,?_,fin e S h⟩;unfold M9;rw[hv _ e S h];simp
 | succ k ih=>
  intro i e S h h1 h2;unfold M9;rw[hv _ e S h];dsimp only
  by_cases hi:i < xs.length
  ·have hd:xs[i]?=some xs[i]:=by simp[hi]
   rw[hd];dsimp only;obtain⟨e1,S1,q1,f,S2,q2,t⟩:=step i _ e S hd h;rw[q1];dsimp only[Res.bind];rw[q2];dsimp only[Res.bind]
   cases f with
   | nx e2=>exact ih (i+1) e2 S2 t (by lia) (by lia)
   | ct e2=>exact ih (i+1) e2 S2 t (by lia) (by lia)
   | bk e2=>exact⟨_,_,rfl,t⟩
   | rt d=>exact⟨_,_,rfl,t⟩
   | ex c e2=>exact⟨_,_,rfl,t⟩
  ·have:i=xs.length:=by lia
   subst this;rw[show xs[xs.length]?=none by simp];exact⟨.nx e,S,rfl,fin e S h⟩
theorem Nq(I:Nat->Lo->Sto->Prop)(R:Fl->Sto->Prop)(h0:I 0 e S)(hv:∀i e S,I i e S->v S=some xs)
  (step:∀i d e S,xs[i]?=some d->I i e S->∃e1 S1,g d e S=.ok e1 S1/\∃f S2,b e1 S1=.ok f S2/\ou (I (i+1)) R f S2)
  (fin:∀e S,I xs.length e S->R (.nx e) S):∃f S',M9 v g b (EQ v S) 0 e S=.ok f S'/\R f S':=by
 have hl:EQ v S=xs.length:=by unfold EQ;rw[hv 0 e S h0]
 rw[hl];exact nJ I R hv step fin _ _ _ _ h0 (Dz _) (by lia)
theorem jR(I:Nat->Lo->Sto->List D->Prop)(hv:∀i e S acc,I i e S acc->v S=some xs)
  (step:∀i d e S acc,xs[i]?=some d->I i e S acc->acc.length < sizeLine/\∃e1 S1,g d e S=.ok e1 S1/\∃b S2,c e1 S1=.ok b S2/\((b=true/\∃y S3,m e1 S2=.ok y S3/\I (i+1) e1 S3 (acc++[y]))∨(b=false/\I (i+1) e1 S2 acc))) :
  ∀(k i:Nat) (e:Lo) (S:Sto) (acc:List D),I i e S acc->i<=xs.length->xs.length<=i+k->∃r S',HI v g c m k i e S acc=.ok r S'/\∃e',I xs.length e' S' r:=by
 intro k
 induction k with
 | zero=>
  intro i e S acc h h1 h2
  have:i=xs.length:=by lia
  subst this;refine⟨acc,S,?_,e,h⟩;unfold HI;rw[hv _ e S acc h];simp
 | succ k ih=>
  intro i e S acc h h1 h2;unfold HI;rw[hv _ e S acc h];dsimp only
  by_cases hi:i < xs.length
  ·have hd:xs[i]?=some xs[i]:=by simp[hi]
   rw[hd];dsimp only;obtain⟨hz,e1,S1,q1,b,S2,q2,t⟩:=step i _ e S acc hd h;rw[qX hz,q1];dsimp only[okR,Res.bind];rw[q2];dsimp only[okR,Res.bind]
   rcases t with⟨rfl,y,S3,q3,t⟩ | ⟨rfl,t⟩
   ·rw[qX rfl,q3]
    exact ih (i+1) e1 S3 _ t (by lia) (by lia)
   ·rw[qY AK]
    exact ih (i+1) e1 S2 acc t (by lia) (by lia)
  ·have:i=xs.length:=by lia
   subst this;rw[show xs[xs.length]?=none by simp];exact⟨acc,S,rfl,e,h⟩
theorem cD(I:Nat->Lo->Sto->List D->Prop)(h0:I 0 e S [])(hv:∀i e S acc,I i e S acc->v S=some xs)
  (step:∀i d e S acc,xs[i]?=some d->I i e S acc->acc.length < sizeLine/\∃e1 S1,g d e S=.ok e1 S1/\∃b S2,c e1 S1=.ok b S2/\((b=true/\∃y S3,m e1 S2=.ok y S3/\I (i+1) e1 S3 (acc++[y]))∨(b=false/\I (i+1) e1 S2 acc))) :
  ∃r S',HI v g c m (EQ v S) 0 e S []=.ok r S'/\∃e',I xs.length e' S' r:=by
 have hl:EQ v S=xs.length:=by unfold EQ;rw[hv 0 e S [] h0]
 rw[hl];exact jR I hv step _ _ _ _ _ h0 (Dz _) (by lia)
theorem rT(h:-1000000<=j):-(2 ^ 62)<=j:=Int.le_trans (by decide) h
theorem rp{j:Int}(h:j<=1000000):j < 2 ^ 62:=Int.lt_of_le_of_lt h (by decide)
theorem ig{ml:ML}{e:Lo}{S S1:Sto}{j:Int}(h:ml e S=.ok [.int j] S1)(h0:-1000000<=j)(h1:j<=1000000):iR1 ml e S=.ok (Gx (Jv 0 j.toNat)) S1:=by
 unfold iR1;rw[h];dsimp only[Res.bind];rw[qX ⟨rT h0,rp h1⟩]
theorem rm{ml:ML}{e:Lo}{S S1:Sto}{i j:Int}(h:ml e S=.ok [.int i,.int j] S1)(h0:-1000000<=i)(h1:i<=1000000)(h2:-1000000<=j)(h3:j<=1000000):iR2 ml e S=.ok (Gx (Jv i (j - i).toNat)) S1:=by
 unfold iR2;rw[h];dsimp only[Res.bind];rw[qX ⟨rT h0,rp h1,rT h2,rp h3⟩]
theorem dI(lo:Int)(n:Nat):(Jv lo n).length=n:=by simp[Jv]
theorem gi{lo:Int}{n i:Nat}{d:D}(h:(Jv lo n)[i]?=some d):i < n/\d=.int (lo+i):=by
 rw[Vg]at h;split at h
 ·rename_i hi
  cases h;exact⟨hi,rfl⟩
 ·cases h
theorem jD(h:0 < j)(h1:j<=1000000):QI (.int i) (.int j) S=.ok (.int (i / j)) S:=by
 show(if jm i j then _ else _)=_;rw[qX ⟨h,by lia⟩]
theorem bZ(h:0 < j):Ry (.int i) (.int j) S=.ok (.int (i % j)) S:=by
 show(if 0 < j then _ else _)=_;rw[qX h]
theorem Dr(ha:ma e S=.ok x S1)(hb:mb e S1=.ok y S2)(hf:f x y S2=.ok d S3):m2 f ma mb e S=.ok d S3:=by
 unfold m2;rw[ha];dsimp only[Res.bind];rw[hb];dsimp only[Res.bind];rw[hf];rfl
theorem JF(h:m e S=.ok d S1):CN i m e S=.ok (.nx (e.set i (some d))) S1:=by
 unfold CN uX;rw[h];rfl
theorem K6(h:m e S=.ok d S1):CS m e S=.ok (.rt d) S1:=by
 unfold CS;rw[h];rfl
theorem QJ(h:m e S=.ok d S1):Ir m e S=.ok (.nx e) S1:=by
 unfold Ir;rw[h];rfl
theorem G0(h:t e S=.ok c S1):sIf t a b e S=if c=true then a e S1 else b e S1:=by
 unfold sIf;rw[h];rfl
theorem ia(h:t e S=.ok c S1):W3 t a b e S=if c=true then a e S1 else b e S1:=by
 unfold W3;rw[h];rfl
theorem LB(h:m e S=.ok v S1):FJ m g b e S=M9 v g b (EQ v S1) 0 e S1:=by
 unfold FJ;rw[h];rfl
theorem Mn(h:m e S=.ok ds S1)(hn:ds.length=n):CB n f m e S=f ds S1:=by
 unfold CB;rw[h];dsimp only[Res.bind];rw[qX hn]
theorem Bv(h:a e S=.ok (.nx e1) S1):BE a b e S=b e1 S1:=by unfold BE;rw[h];rfl
theorem Qn(h:a e S=.ok (.rt d) S1):BE a b e S=.ok (.rt d) S1:=by unfold BE;rw[h];rfl
def Keeps(S S':Sto):Prop:=S.length<=S'.length/\∀j,j < S.length->S'[j]?=S[j]?
theorem Keeps.refl(S:Sto):Keeps S S:=⟨AL _,λ_ _=>rfl⟩
theorem Keeps.trans(a:Keeps S S1)(b:Keeps S1 S2):Keeps S S2:=⟨Am a.1 b.1,λj h=>(b.2 j (AV h a.1)).trans (a.2 j h)⟩
theorem Keeps.app(S:Sto)(G:Sto):Keeps S (S++G):=⟨by simp,λj h=>BA h⟩
theorem Keeps.set(a:Keeps S S1)(h:S.length<=m)(o:Ob):Keeps S (S1.set m o):=⟨by simpa using a.1,λj hj=>by rw[Ac (by lia)];exact a.2 j hj⟩
theorem Keeps.at{S S1:Sto}(a:Keeps S S1){j:Nat}{o:Ob}(h:S[j]?=some o):S1[j]?=some o:=by
 rw[a.2 j (AC.mp h).1];exact h
theorem XS(h1:mo e S=.ok (.ref n) S1)(h2:S1[n]?=some (.lst xs))(h3:ma e S1=.ok y S2)(h4:S2[n]?=some (.lst xs2))(h5:xs2.length < sizeLine) :
  PF mo ma e S=.ok .non (S2.set n (.lst (xs2++[y]))):=by
 unfold PF;rw[h1];dsimp only[Res.bind];rw[h2];dsimp only;rw[h3];dsimp only[Res.bind];rw[h4];dsimp only;rw[qX h5]
theorem lA(h:xs.length+ys.length<=sizeLine):Iw (.tup xs) (.tup ys) S=.ok (.tup (xs++ys)) S:=by
 unfold Iw;dsimp only;rw[qX h]
theorem De(h:S[n]?=some (.lst xs)):Ff (.ref n) S=some xs:=by
 unfold Ff RO;dsimp only;rw[h]
theorem Lj(h:m e S=.ok (.ref n) S1)(hx:S1[n]?=some (.lst xs)):EE m e S=.ok (Ff (.ref n)) S1:=by
 unfold EE;rw[h];dsimp only[Res.bind];rw[De hx]
theorem UJ(h:m e S=.ok (.tup xs) S1):EE m e S=.ok (Gx xs) S1:=by
 unfold EE;rw[h];rfl
theorem Z7(h:ml e S=.ok ds S1):Eh ml e S=.ok (.ref S1.length) (S1++[.lst ds]):=by
 unfold Eh;rw[h];rfl
theorem Ep(S:Sto)(o:Ob):(S++[o])[S.length]?=some o:=by simp
theorem Gy(h:S[n]?=some (.lst ds)):Gj (.ref n) S=some ds:=by
 unfold Gj;dsimp only;rw[h]
theorem UG(h:S[n]?=some (.lst ds)):Mc (.ref n) S=some ds:=by
 unfold Mc;dsimp only;rw[h]
theorem OK(h:m e S=.ok d S1)(hi:Mc d S1=some ds)(hs:LZ ds=some es):Ge m e S=.ok (.ref S1.length) (S1++[.lst es]):=by
 unfold Ge;rw[h];dsimp only[Res.bind];rw[hi];dsimp only;rw[hs]
theorem Pr(h:m e S=.ok d S1)(hq:Gj d S1=some ds):Gk m e S=.ok (.tup ds) S1:=by
 unfold Gk;rw[h];dsimp only[Res.bind];rw[hq]
theorem aI(h:m e S=.ok d S1)(hq:Gj d S1=some ds):Lg m e S=.ok (.int ds.length) S1:=by
 unfold Lg;rw[h];dsimp only[Res.bind];rw[hq]
theorem SJ(hv:mv e S=.ok v S1)(ho:mo e S1=.ok (.ref n) S2)(hs:S2[n]?=some (.ins C fs))(hl:fs.length < 1000) :
  KZ C f mo mv e S=.ok (.nx e) (S2.set n (.ins C (KO f v fs))):=by
 unfold KZ;rw[hv];dsimp only[Res.lift];rw[ho];dsimp only[Res.lift];rw[hs];dsimp only;rw[qX ⟨rfl,hl⟩]
theorem LC(h:m e S=.ok (.ref n) S1)(hs:S1[n]?=some (.ins C fs))(hl:fs.lookup f=some v):Dj C f m e S=.ok v S1:=by
 unfold Dj;rw[h];dsimp only[Res.bind];rw[hs];dsimp only;rw[qX rfl,hl]
theorem bb(h:ml e S=.ok ds S1)(hn:ds.length+1=n)(hf:f (.ref S1.length :: ds) (S1++[.ins C []])=.ok .non S2):RT C n f ml e S=.ok (.ref S1.length) S2:=by
 unfold RT;rw[h];dsimp only[Res.bind];rw[qX hn,hf]
theorem Cz(h:m e S=.ok d S1)(hr:r e S1=.ok ds S2):AO m r e S=.ok (d :: ds) S2:=by
 unfold AO;rw[h];dsimp only[Res.bind];rw[hr]
theorem XG(h:mi e S=.ok v S1):EL n mi g c m e S=HI v g c m (EQ v S1) 0 (Bt n none++e) S1 []:=by
 unfold EL;rw[h];rfl
theorem Uf(h:m e S=.ok (.bl b) S1):mB m e S=.ok b S1:=by
 unfold mB;rw[h];rfl
theorem oY(ha:ma e S=.ok x S1)(hb:mb e S1=.ok y S2)(hf:f x y S2=.ok (.bl true) S3)(hc:mc e S3=.ok w S4)(hg:g y w S4=.ok d S5):m3 f g ma mb mc e S=.ok d S5:=by
 unfold m3;rw[ha];dsimp only[Res.bind];rw[hb];dsimp only[Res.bind];rw[hf];dsimp only[Res.bind,okR];rw[hc];dsimp only[Res.bind];rw[hg]
theorem vB(ha:ma e S=.ok x S1)(hb:mb e S1=.ok y S2)(hf:f x y S2=.ok (.bl false) S3):m3 f g ma mb mc e S=.ok (.bl false) S3:=by
 unfold m3;rw[ha];dsimp only[Res.bind];rw[hb];dsimp only[Res.bind];rw[hf];rfl
theorem iS(h:decide (i<=j)=b):leD (.int i) (.int j) S=.ok (.bl b) S:=by subst h;rfl
theorem rR(h:decide (i < j)=b):ltD (.int i) (.int j) S=.ok (.bl b) S:=by subst h;rfl
theorem sL(h:decide (j<=i)=b):geD (.int i) (.int j) S=.ok (.bl b) S:=by subst h;rfl
theorem sU(h:decide (i=j)=b):eqD false (.int i) (.int j) S=.ok (.bl b) S:=by
 subst h;show Res.ok (D.bl (i==j)) S=_;rfl
theorem PB(h:m e S=.ok b S1):OX m e S=.ok (!b) S1:=by
 unfold OX;rw[h];rfl
theorem Zk(h:ml e S=.ok ds S1)(hl:ds.length<=1000):Jy ml e S=.ok (.tup ds) S1:=by
 unfold Jy;rw[h];dsimp only[Res.bind];rw[qX (Am hl (by decide))]
theorem iA(h:ta e S=.ok true S1):mOr ta tb e S=.ok true S1:=by
 unfold mOr;rw[h];rfl
theorem hZ(h:ta e S=.ok false S1):mOr ta tb e S=tb e S1:=by
 unfold mOr;rw[h];rfl
theorem XT(h:ta e S=.ok true S1):P3 ta tb e S=tb e S1:=by
 unfold P3;rw[h];rfl
theorem cK(h:ta e S=.ok false S1):P3 ta tb e S=.ok false S1:=by
 unfold P3;rw[h];rfl
theorem oS(h:m e S=.ok d S1)(hq:Gj d S1=some ds):Tz m e S=.ok ds S1:=by
 unfold Tz;rw[h];dsimp only[Res.bind];rw[hq]
theorem lW(h:ml e S=.ok ds S1)(hf:f ds S1=.ok d S2):mQ f ml e S=.ok d S2:=by
 unfold mQ;rw[h];dsimp only[Res.bind];rw[hf];rfl
theorem Lh(h:S[n]?=some (.lst ds)):P4 (.ref n) S=some ds:=by
 unfold P4;dsimp only;rw[h]
open PySem PySem.Spec PyProof.Rows
section
variable{X:Cx}{E:EW}{e:Expr}{p pos:Pos}{m:ME}
def mf(m:ME):ME:=λe S=>(m e S).bind λd S1=>match d with
 | .int i=>.ok (.int i) S1
 | .bl k=>.ok (.int (if k then 1 else 0)) S1
 | _=>.bad
theorem nG(hg:Gl X "int") (hm:X.mg "int" = none) (h:GE X E e m) (he:AY [e] X.env=(false,Cc e X.env) :: AY [] X.env:=by rfl):GE X E (.Call (.Name "int" p) [e] [] pos) (mf m):=
 (Qs eQ hg hm wC (Gb h JG he) (by decide) (by decide) he rfl).imp λσ H Q ⟨ρ,l,S,hl,hs,hm⟩=>by
 refine⟨ρ,l,S,hl,hs,hm.seq λd S1 hm ρ1 H1 x l1 s1 r1=>?_⟩
 cases d <;> first | exact hm.elim | skip
 ·cases r1
  exact .inr ⟨_,rfl,hm ρ1 H1 _ l1 s1 (.int _)⟩
 ·cases r1
  exact .inl ⟨_,rfl,hm ρ1 H1 _ l1 s1 (.int _)⟩
end
end L2
namespace PySem
open Sem (wp)
open AutoSeq1 (wpAny_loadPart')
theorem Ni(l:AW)(items:Array AI)(n:Nat)(zF:Option AW)(sl:Array (Option AI)) :
  Meets (RM.«enumerate.__new__» ⟨[.type "enumerate",.ref l],[]⟩) (λ_ R s=>s.heap.get? l=some { cls:=.type "tuple",dict:=zF,data:=.seq items n,slots:=sl } /\
   R (.ok (.ret (.ref (s.heap.push { cls:=.type "tuple_iterator",data:=.fields #[.ref l,.int 0 0] }).objs.size)))
    { s with heap:=(s.heap.push { cls:=.type "tuple_iterator",data:=.fields #[.ref l,.int 0 0] }).push { cls:=.type "enumerate",data:=.fields #[.none,.bool false,.ref s.heap.objs.size,Lu 0,.none,.none] } }):=
 .of_wp λprog w A R s h=>by
  obtain⟨hp,g,d,tk,os⟩:=s;obtain⟨hl,h⟩:=h;have yn:=sub_enumerate;have hL:tS (pF ⟨hp,g,d,tk,os⟩) l items:=⟨_,hl,rfl,n,rfl⟩
  wp_walk using Dk hl
  refine vq λst=>AM ?_
  split
  ·rename_i c _ _ _ _ _
   cases(c==GY "enumerate")
   ·wp_walk using Dk hl,Dy hL
    exact⟨_,rfl,h⟩
   ·wp_walk using Dk hl,Dy hL
    exact⟨_,rfl,h⟩
  ·wp_walk using Dk hl,Dy hL
   exact⟨_,rfl,h⟩
section
variable{w:CH}{A:CM}{E:AI->AR->Prop}{s:AR}
theorem N2(hL:s.heap.IsTuple l items)
  (h:∀h',Ly h' (s.heap.objs.size+1) s.heap.objs.size 0 .none->h'.IsTupleIter s.heap.objs.size l 0->h'.objs.size=s.heap.objs.size+2 ->
   (∀b o,s.heap.get? b=some o->h'.get? b=some o)->Q (.ref (s.heap.objs.size+1)) { s with heap:=h' }) :
  Af (Ao prog w) A (call (.type "enumerate") [.ref l]) Q E s:=by
 obtain⟨⟨c,zF,dt,sl⟩,hl,hc,n,hd⟩:=hL
 replace hc:c=.type "tuple":=hc
 replace hd:dt=.seq items n:=hd
 subst hc hd
 refine callType_new kD (by decide) (F.typeCall_enumerate_1 _) (F.newCall_enumerate_1 _) (λobj=>F.args_object_init_2 obj _) ei
  (Ni l items n zF sl) ⟨hl,?_⟩
 have hz:(s.heap.push { cls:=.type "tuple_iterator",data:=.fields #[.ref l,.int 0 0] }).objs.size=s.heap.objs.size+1:=C0 ..;show _/\_;rw[hz]
 have he:Ly ((s.heap.push { cls:=.type "tuple_iterator",data:=.fields #[.ref l,.int 0 0] }).push
   { cls:=.type "enumerate",data:=.fields #[.none,.bool false,.ref s.heap.objs.size,Lu 0,.none,.none] }) (s.heap.objs.size+1) s.heap.objs.size 0 .none:=by
  have:=Ad (s.heap.push { cls:=.type "tuple_iterator",data:=.fields #[.ref l,.int 0 0] })
   (o:={ cls:=.type "enumerate",data:=.fields #[.none,.bool false,.ref s.heap.objs.size,Lu 0,.none,.none] }) rfl
  rw[hz]at this;exact this
 refine⟨⟨_,he,rfl⟩,h _ he ⟨_,AN _ (Ad _ rfl),rfl,rfl⟩ (by rw[C0,hz]) λb o x=>AN _ (AN _ x)⟩
theorem Kh{it t}{i}{items}{x}{Q}(hit:s.heap.IsTupleIter it t i)
  (ht:s.heap.IsTuple t items) (hx:items[i]?=some x)
  (hQ:∀h',h'.IsTupleIter it t (i+1)->FO it s.heap h'->Q x { s with heap:=h' }) :
  Af (Ao prog w) A (FA (.ref it)) Q E s:=by
 obtain⟨o,ho,hc,hd⟩:=id hit;obtain⟨ol,hol,_,nl,hdl⟩:=ht;unfold FA
 refine AB (Ci (name:=Gs "__next__") hit.typeIs Gw
  (DT Gw hit.typeIs Xc ?_ (WJ _)))
 show Af _ _ (tG (.ref it) 0 >>= _) _ _ s;refine AB (HB ho hd (x:=.ref t) rfl ?_);show Af _ _ (if (BM t==D0)=true then _ else _) _ _ s;rw[qY (show ¬((BM t==D0)=true)from AK)];show Af _ _ (tG (.ref it) 1 >>= _) _ _ s;refine AB (HB ho hd (x:=.int i 0) rfl ?_);show Af _ _ (V8 (.ref t) >>= _) _ _ s;refine AB (Lr hol hdl ?_);simp only[Ak,hx];refine AB (QW ho hd (by simp) (AM ⟨x,rfl,AM (hQ _ ?_ (IL ..))⟩))
 exact⟨_,Fn _ ho (aw (Kq hd _)),(jo ..).trans hc,by
  rw[Kq hd];simp[Lu]⟩
theorem Gc{it t}{i}{items}{Q}(hh:A.handled=none)
  (hit:s.heap.IsTupleIter it t i) (ht:s.heap.IsTuple t items) (hx:items[i]?=none)
  (hE:∀h' e,Sk it s.heap h'->(∃o,h'.get? e=some o/\o.cls=.type "StopIteration")->E (.ref e) { s with heap:=h' }) :
  Af (Ao prog w) A (FA (.ref it)) Q E s:=by
 obtain⟨o,ho,hc,hd⟩:=id hit;obtain⟨ol,hol,_,nl,hdl⟩:=ht;unfold FA
 refine AB (Ci (name:=Gs "__next__") hit.typeIs Gw
  (DT Gw hit.typeIs Xc ?_ (WJ _)))
 show Af _ _ (tG (.ref it) 0 >>= _) _ _ s;refine AB (HB ho hd (x:=.ref t) rfl ?_);show Af _ _ (if (BM t==D0)=true then _ else _) _ _ s;rw[qY (show ¬((BM t==D0)=true)from AK)];show Af _ _ (tG (.ref it) 1 >>= _) _ _ s;refine AB (HB ho hd (x:=.int i 0) rfl ?_);show Af _ _ (V8 (.ref t) >>= _) _ _ s;refine AB (Lr hol hdl ?_);simp only[Ak,hx];refine AB (ZI (AB (QW ho hd (by simp) ?_)));show Af _ _ (newExc (.type "StopIteration") [] >>= _) _ _ _;refine AB ?_;simp only[newExc,newTuple];refine AB (Ch ?_ (by size_fits));refine AB (m:=QY _ _) (XY (a:=D0) (by first | rfl | (simp only[QY];rfl)) ?_);refine Ch ?_ (by size_fits);simp only[raiseNew];refine AB (wpAny_handled ?_)
 first | rw[show A.in1.handled=none from hh] | rw[hh]
 refine AB (AM (wpAny_throw ?_));exact hE _ _ (((IL ..).extBut.push _).push _) ⟨_,Ad _ rfl,rfl⟩
theorem Y9(hh:A.handled=none)(it l:AW)(wd:l≠it)(items:Array AI) :
  Draws prog w A it [it,l] items.size (λi v=>items[i]?=some v) (λi h=>h.IsTupleIter it l i/\h.IsTuple l items) where
 live:=λ_ _ st=>let ⟨o,ho,_⟩:=st.1;⟨o,ho⟩
 frame:=λ_ _ _ st hk=>⟨st.1.at λo e=>hk it (by simp) o e,let ⟨o,ho,r⟩:=st.2;⟨o,hk l (by simp) o ho,r⟩⟩
 item:=λi s Q E hi st hQ=>by
  refine Kh st.1 st.2 (x:=items[i]) (by simp[hi]) λh' yp zg=>?_
  exact hQ _ h' s.toks (by simp[hi]) ⟨yp,st.2.extBut zg.extBut wd⟩ zg
 done:=λs Q E st hE=>Gc hh st.1 st.2 (by simp) hE
theorem OW{e it l:AW}{i:Nat}{items:Array AI}{old:AI}{Q:Option AI->AR->Prop}(hh:A.handled=none)
  (he:Ly s.heap e it i old) (hit:s.heap.IsTupleIter it l i) (hl:s.heap.IsTuple l items) (hx:items[i]?=none)
  (hQ:∀h',Sk it s.heap h'->Q none { s with heap:=h' }):Af (Ao prog w) A (Lv (.ref e)) Q E s:=by
 have hT:s.TypeIs (.ref e) "enumerate":=⟨_,he,rfl⟩;unfold Lv
 refine AB (NG (Ci (name:=Gs "__next__") hT JM
  (DT JM hT cZ ?_ (az _))))
 show Af _ _ (tG (.ref e) 2 >>= _) _ _ _;refine AB (HB he rfl (x:=.ref it) rfl ?_);refine AB (Gc hh hit hl hx λh' x ι yN=>?_);obtain⟨o,ho,hc⟩:=yN;refine AB (V6 (T:="StopIteration") (b:=true) ⟨o,ho,hc⟩ ZL ?_);exact AM (hQ _ ι)
end
end PySem
namespace L2
open PySem PySem.Spec PyProof.Rows
theorem Inv.turned2(I:Inv X ζ σ H s)(k:∀b u,b≠e->b≠it->s.heap.get? b=some u->h'.get? b=some u)
  (fe:PP X ζ H e) (fi:PP X ζ H it) (ha:s.heap.objs.size<=a) (new:DE X.prog X.w (upd H a o) h' a o):Inv X ζ σ (upd H a o) { s with heap:=h',toks:=t' }:=by
 have hn:=I.hok.fresh ha
 have Y':∀b u,H b=some u->b≠e/\b≠it:=λb u q=>⟨λz=>(by rw[z,fe.1]at q;cases q),λz=>(by rw[z,fi.1]at q;cases q)⟩
 have out:∀b:AW,b∉[e,it]->b≠e/\b≠it:=λb hb=>⟨λz=>hb (by simp[z]),λz=>hb (by simp[z])⟩
 refine I.step (g':=s.gens) (d':=s.drawn) (ch:=[e,it]) (λb hb=>?_) (λb o _ _ hc q _=>k b o (out b hc).1 (out b hc).2 q) (λb o _ _ hc q _=>⟨o.slots,k b o (out b hc).1 (out b hc).2 q⟩) (λb o _ q n=>?_)
  (λb o hc q=>⟨o,k b o (out b hc).1 (out b hc).2 q⟩) (λb xs q=>by rw[Bi (Cn q hn)];exact q) (λb o u q=>by rw[Bi (Cn q hn)];exact q) (λb ps q=>⟨#[],by rw[Bi (Cn q hn),q];simp⟩) (λm hm=>?_) (λb u q=>?_) I.bare
 ·have wc:b=e∨b=it:=by simpa using hb
  rcases wc with z | z
  ·subst z;exact⟨fe.2.2.2.1,fe.2.1,fe.2.2.2.2.1,fe.2.2.2.2.2⟩
  ·subst z;exact⟨fi.2.2.2.1,fi.2.1,fi.2.2.2.2.1,fi.2.2.2.2.2⟩
 ·rw[Bi (BF (AV (Ae q) ha))];exact n
 ·obtain⟨o,es,ep,ho,r⟩:=hm
  exact⟨o,es,ep,k _ o (Bs fe.2.1) (Bs fi.2.1) ho,r⟩
 ·by_cases hb:b=a
  ·subst hb;rw[B0]at q;cases q;exact new
  ·rw[Bi hb]at q
   refine(I.hok b u q).stay (λc v hc r=>?_) (λc r=>by rw[Bi (Cn r hn)];exact r) λc xs r=>by rw[Bi (Cn r hn)];exact r
   have:c≠e/\c≠it:=by
    rcases hc with z | z
    ·rw[z];exact Y' b u q
    ·exact Y' c _ z
   exact k c v this.1 this.2 r
def Ite(sq:Hp->List V->Prop):It:=
 ⟨λi H=>∃xs x,sq H xs/\xs[i]?=some x,λi H y H'=>∃p x,H p=none/\y=.ref p/\H'=upd H p (.tup [.int i,x])/\∀xs,sq H xs->xs[i]?=some x,λi H=>∃xs,sq H xs/\xs.length<=i⟩
section
variable{P:Bh}{w:CH}{K:AG}{elts:List Expr}{x1:Nat}{pos:Pos}
theorem Q7{X:Cx}{ζ:List (AW×Obj)}{σ:St}{H:Hp}{s:AR}{E:AI->AR->Prop}{sq:Hp->List V->Prop}{e it:AW}{i:Nat}{x:V}{u:AI}{tk:Nat}{h':C9}{tn:Nat->C9->Prop}
  (I:Inv X ζ σ H s) (wd:e≠it) (hf:∀b∈[e,it],PP X ζ H b) (le:e < s.heap.objs.size) (li:it < s.heap.objs.size) (ru:RelV x u) (hx:∀xs,sq H xs->xs[i]?=some x)
  (ho:IsEnumOut h' e it ((i:Int)+1) u s.heap.objs.size) (hT:h'.get? s.heap.objs.size=some { cls:=.type "tuple",data:=.seq #[.int i tk,u] }) (hk:∀b o,b≠e->b≠it->s.heap.get? b=some o->h'.get? b=some o)
  (ht:∀h2,FO e h' h2->(∃old,Ly h2 e it ((i+1:Nat):Int) old)->tn (i+1) h2) :
  Af (Ao X.prog X.w) X.A (PU (.Tuple elts x1 pos) (.ref e) (.ref s.heap.objs.size)) (λ_ s2=>∃y H',Inv X ζ σ H' s2/\RelV y (.ref s.heap.objs.size)/\(Ite sq).yld i H y H'/\tn (i+1) s2.heap/\∀b∈[e,it],H' b=none) E { s with heap:=h',toks:=tk+1 }:=by
 have fe:=hf e (by simp);have fi:=hf it (by simp);have ne:e≠s.heap.objs.size:=BF le;have ni:it≠s.heap.objs.size:=BF li
 have new:DE X.prog X.w (upd H s.heap.objs.size (.tup [.int i,x])) h' s.heap.objs.size (.tup [.int i,x]):=
  ⟨⟨Am (show 2<=1000 by decide) (by decide),_,hT,rfl⟩,[.int i tk,u],.cons ⟨tk,rfl⟩ (.cons ru .nil),_,hT,rfl,_,rfl⟩
 have I1:=I.turned2 (t':=tk+1) hk fe fi (AL _) new
 refine wpAny_letOwnedTupleGo_enum (s:={ s with heap:=h',toks:=tk+1 }) ho λh2 yO wQ=>?_
 have ν:FO e h' h2:=wQ;have I2:=I1.turned (t':=tk+1) (h':=h2) (it:=e) (λb o hb q=>(ν.2 b hb).trans q) (by rw[Bi ne];exact fe.1) fe.2.1 fe.2.2.2.1 fe.2.2.2.2.1 fe.2.2.2.2.2;refine⟨.ref s.heap.objs.size,_,I2,rfl,⟨s.heap.objs.size,x,I.hok.fresh (AL _),rfl,rfl,hx⟩,ht h2 ν ⟨u,by rw[Int.natCast_add,Int.natCast_one];exact yO⟩,λb hb=>?_⟩
 have wc:b=e∨b=it:=by simpa using hb
 rcases wc with z | z
 ·rw[z,Bi ne];exact fe.1
 ·rw[z,Bi ni];exact fi.1
theorem Zj(a e it:AW)(wd:e≠it):Ud P w K (.Tuple elts x1 pos) (Ite λH xs=>SqL K H a xs) [e,it] e (λi h=>(∃old,Ly h e it i old)/\h.IsListIter it a i) where
 mem:=by simp
 obj:=λi h st b hb=>by
  have wc:b=e∨b=it:=by simpa using hb
  rcases wc with z | z
  ·subst z
   obtain⟨⟨old,he⟩,_⟩:=st
   exact⟨_,he,λv z=>by
    have z':Sm _=Xq v:=z
    cases z'⟩
  ·subst z
   obtain⟨_,o,e,c,d⟩:=st;exact⟨o,e,λv z=>by rw[d]at z;cases z⟩
 keep:=λi h h' st k=>⟨st.1.imp λold he=>k e (by simp) _ he,st.2.at λo q=>k it (by simp) o q⟩
 item:=by
  intro X hP hw hK hc i ζ s σ H E I hf st hg;subst hP hw hK;obtain⟨xs,x,hq,hx⟩:=hg;obtain⟨tx,rv,p,hz⟩:=I.list hq;obtain⟨u,hu,ru⟩:=rv.get hx;obtain⟨⟨old,he⟩,hit⟩:=st
  have li:it < s.heap.objs.size:=by obtain⟨o,q,_⟩:=hit;exact Ae q
  refine wpAny_pyNext_enum_item he hit p.isList (x:=u) (by simpa using hu) wd λh' ho yp hT hsz hk=>?_
  exact⟨_,rfl,Q7 (sq:=λH xs=>SqL X.K H a xs) (tn:=λi h=>(∃old,Ly h e it i old)/\h.IsListIter it a i) I wd hf (Ae he) li ru (λys hy=>by rw[I.list_inj hy hq];exact hx) ho hT hk λh2 wQ yO=>⟨yO,yp.at λo q=>(wQ.2 it (Bs wd)).trans q⟩⟩
 done:=by
  intro X hP hw hK hc i ζ s σ H E I hf st hg;subst hP hw hK;obtain⟨xs,hq,hx⟩:=hg;obtain⟨tx,rv,p,hz⟩:=I.list hq;obtain⟨⟨old,he⟩,hit⟩:=st;obtain⟨f0,f1,f2,f3,f4,f5⟩:=hf it (by simp);have hl:=rv.length
  exact wpAny_pyNext_enum_end (I.ok.hd hc) he hit p.isList (by simp;lia) λh' eb=>⟨rfl,I.turned (t':=s.toks) (λb o hb e=>eb b o hb e) f0 f1 f3 f4 f5⟩
 self:=λ_ _ _ _ _ st h=>by
  obtain⟨⟨old,he⟩,_⟩:=st;exact Gn he h
theorem Zi(a e it:AW)(wd:e≠it)(hae:a≠it)(hef:e≠a):Ud P w K (.Tuple elts x1 pos) (Ite λH xs=>SqT K H a xs) [e,it] e (λi h=>(∃old,Ly h e it i old)/\h.IsTupleIter it a i) where
 mem:=by simp
 obj:=λi h st b hb=>by
  have wc:b=e∨b=it:=by simpa using hb
  rcases wc with z | z
  ·subst z
   obtain⟨⟨old,he⟩,_⟩:=st
   exact⟨_,he,λv z=>by
    have z':Sm _=Xq v:=z
    cases z'⟩
  ·subst z
   obtain⟨_,o,e,c,d⟩:=st;exact⟨o,e,λv z=>by rw[d]at z;cases z⟩
 keep:=λi h h' st k=>⟨st.1.imp λold he=>k e (by simp) _ he,st.2.at λo q=>k it (by simp) o q⟩
 item:=by
  intro X hP hw hK hc i ζ s σ H E I hf st hg;subst hP hw hK;obtain⟨xs,x,hq,hx⟩:=hg;obtain⟨tx,rv,p,hz⟩:=I.tuple hq;have p':s.heap.IsTuple a tx.toArray:=p;obtain⟨u,hu,ru⟩:=rv.get hx
  have wk:i < tx.toArray.size:=by
   have:=(AC.mp hu).1;simpa using this
  obtain⟨⟨old,he⟩,hit⟩:=st
  have li:it < s.heap.objs.size:=by obtain⟨o,q,_⟩:=hit;exact Ae q
  refine eW (Y9 (A:=X.A.in1) (I.ok.hd hc) it a hae tx.toArray) he ⟨hit,p'⟩ wk wd (by simp[wd,hef]) λu' h' tk hu' ho zG hT hsz hk=>?_
  have:u'=u:=by
   have ο:tx[i]?=some u':=by simpa using hu'
   rw[hu]at ο;cases ο;rfl
  subst this;exact⟨_,rfl,Q7 (sq:=λH xs=>SqT X.K H a xs) (tn:=λi h=>(∃old,Ly h e it i old)/\h.IsTupleIter it a i) I wd hf (Ae he) li ru (λys hy=>by rw[I.tuple_inj hy hq];exact hx) ho hT hk λh2 wQ yO=>⟨yO,zG.1.at λo q=>(wQ.2 it (Bs wd)).trans q⟩⟩
 done:=by
  intro X hP hw hK hc i ζ s σ H E I hf st hg;subst hP hw hK;obtain⟨xs,hq,hx⟩:=hg;obtain⟨tx,rv,p,hz⟩:=I.tuple hq;obtain⟨⟨old,he⟩,hit⟩:=st;obtain⟨f0,f1,f2,f3,f4,f5⟩:=hf it (by simp);have hl:=rv.length
  exact OW (I.ok.hd hc) he hit (show s.heap.IsTuple a tx.toArray from p) (by simp;lia) λh' eb=>⟨rfl,I.turned (t':=s.toks) (λb o hb e=>eb b o hb e) f0 f1 f3 f4 f5⟩
 self:=λ_ _ _ _ _ st h=>by
  obtain⟨⟨old,he⟩,_⟩:=st;exact Gn he h
end
section
variable{X:Cx}{E:EW}{e:Expr}{elts:List Expr}{x1:Nat}{p pos ς:Pos}{ta:TA}
def vQ(K:AG)(ta:TA):TI:=λσ H R=>ta σ H λvs H1=>∃a,vs=[.ref a]/\(((∃xs,SqL K H1 a xs)/\R (Ite λH xs=>SqL K H a xs) H1)∨((∃xs,SqT K H1 a xs)/\R (Ite λH xs=>SqT K H a xs) H1))
theorem lw(hg:Gl X "enumerate") (hm:X.mg "enumerate" = none) (ha:PA X [e] ta) (hs:AY [e] X.env=[(false,Cc e X.env)]:=by rfl):PI X (.Tuple elts x1 ς) (.Call (.Name "enumerate" p) [e] [] pos) (vQ X.K ta):=by
 intro ζ s σ H R I h;refine Call_ (Nl I hg hm boot_enumerate (Dw (thn (ha pos ζ s σ H _ I h) λus s1 ⟨vs,H1,I1,r1,q1⟩=>?_) hs rfl));obtain⟨a,rfl,q1⟩:=q1;obtain⟨u,rfl,ru⟩:=vals1 r1;cases ru
 have fp:∀{h':C9} (b:AW),b∈[s1.heap.objs.size+1,s1.heap.objs.size]->PP X ζ H1 b:=λb hb=>by
  have wc:b=s1.heap.objs.size+1∨b=s1.heap.objs.size:=by simpa using hb
  rcases wc with z | z
  ·rw[z];exact I1.fpOk (JS _) (I1.hok.fresh (JS _))
  ·rw[z];exact I1.fpOk (AL _) (I1.hok.fresh (AL _))
 rcases q1 with⟨⟨xs,sq⟩,q⟩ | ⟨⟨xs,sq⟩,q⟩
 ·obtain⟨tx,rv,pl,hz⟩:=I1.list sq
  refine call_enumerate_list pl.isList λh' he hit hsz hk=>Gn he ?_
  exact⟨_,[s1.heap.objs.size+1,s1.heap.objs.size],_,_,H1,rfl,I1.kept (t':=s1.toks) hk,Zj a _ _ (Sg _),⟨⟨_,he⟩,hit⟩,fp (h':=h'),q⟩
 ·obtain⟨tx,rv,pl,hz⟩:=I1.tuple sq
  have yP:s1.heap.IsTuple a tx.toArray:=pl
  have la:a < s1.heap.objs.size:=by obtain⟨o,q,_⟩:=yP;exact Ae q
  refine N2 yP λh' he hit hsz hk=>Gn he ?_
  exact⟨_,[s1.heap.objs.size+1,s1.heap.objs.size],_,_,H1,rfl,I1.kept (t':=s1.toks) hk,Zi a _ _ (Sg _) (BF la) (Et (IK la)),⟨⟨_,he⟩,hit⟩,fp (h':=h'),q⟩
def UU(ds:List D):List D:=ds.zipIdx.map λx=>.tup [.int x.2,x.1]
def Of(v:RI):RI:=λS=>(v S).map UU
def J1(m:ME):MI:=λe S=>(m e S).bind λd S1=>match Ff d S1 with
 | some _=>.ok (Of (Ff d)) S1
 | none=>.bad
theorem UT(ds:List D)(i:Nat):(UU ds)[i]?=(ds[i]?).map λd=>.tup [.int i,d]:=by
 unfold UU;rw[Ab,Es]
 cases ds[i]? <;> simp
theorem RN{K}{ρ}{H}{J}{v}{sq}(hJ:Mu K ρ H J v)(h1:∀i H,J.go i H->∃xs x,sq H xs/\xs[i]?=some x)(h2:∀i H,J.stop i H->∃xs,sq H xs/\xs.length<=i)
  (h3:∀i H x,(∀xs,sq H xs->xs[i]?=some x)->J.yld i H x H):Mu K ρ H (Ite sq) (Of v):=by
 intro ρ2 H2 S ds i l s hv;unfold Of at hv
 cases hd:v S with
 | none=>rw[hd]at hv;cases hv
 | some ds0=>
  rw[hd]at hv;cases hv;obtain⟨a1,a2⟩:=hJ ρ2 H2 S ds0 i l s hd;refine⟨λhn=>?_,λd yg=>?_⟩
  ·rw[UT]at hn
   refine h2 i H2 (a1 ?_)
   cases hq:ds0[i]? with
   | none=>rfl
   | some d=>rw[hq]at hn;cases hn
  ·rw[UT]at yg
   cases hq:ds0[i]? with
   | none=>rw[hq]at yg;cases yg
   | some d0=>
    rw[hq]at yg;cases yg;obtain⟨b1,b2⟩:=a2 d0 hq;refine⟨h1 i H2 b1,λy H' hy=>?_⟩;obtain⟨p,x,hp,rfl,rfl,hx⟩:=hy;obtain⟨ρ3,l3,s3,r3⟩:=b2 x H2 (h3 i H2 x hx);obtain⟨s4,l4⟩:=HW (ho:=.tup [.int i,x]) s3 hp;exact⟨ρ3,l3.trans l4,s4,.tup B0 (.cons (.int _) (.cons (r3.mono l4) .nil))⟩
theorem XB(hg:Gl X "enumerate") (hm:X.mg "enumerate" = none) (h:GE X E e m) (he:AY [e] X.env=[(false,Cc e X.env)]:=by rfl):GI X E (.Tuple elts x1 ς) (.Call (.Name "enumerate" p) [e] [] pos) (J1 m):=
 (lw hg hm (Gb h JG he) he).imp λσ H R ⟨ρ,l,S,hl,hs,hm⟩=>by
 refine⟨ρ,l,S,hl,hs,hm.seq λd S1 hm ρ1 H1 x l1 s1 r1=>?_⟩
 cases d with
 | tup ds=>
  have υ:=hm
  cases r1 with
  | @tup _ a vs q1 q2=>
   exact⟨a,rfl,.inr ⟨⟨vs,.inl (.inl q1)⟩,υ ρ1 H1 _ l1 s1 (RN (Ss q1 q2) (λi H z=>z) (λi H z=>z) λi H x z=>⟨rfl,z⟩)⟩⟩
 | _=>
  cases hv:Ff _ S1 with
  | none=>rw[hv]at hm;exact hm.elim
  | some ds=>
   rw[hv]at hm
   have:∃a,x=.ref a:=by
    cases r1 <;> first | exact⟨_,rfl⟩ | (cases hv;done)
   obtain⟨a,rfl⟩:=this;obtain⟨xs,sq,_⟩:=Sx s1 r1 hv;exact⟨a,rfl,.inl ⟨⟨xs,sq⟩,hm ρ1 H1 _ l1 s1 (RN (Sv r1) (λi H z=>z) (λi H z=>z) λi H x z=>⟨rfl,z⟩)⟩⟩
end
section
theorem bY{s:AR}{o:Obj}{h':C9}(hk:∀b u,b∉[s.heap.objs.size]->(s.heap.push o).get? b=some u->h'.get? b=some u):∀b u,s.heap.get? b=some u->h'.get? b=some u:=λb u e=>
 hk b u (λhm=>zX (AU.mp hm▸Ae e) (Cj _)) (AN _ e)
theorem oo{s:AR}{o:Obj}{l:AW}(hl:l < s.heap.objs.size):∀b∈[s.heap.objs.size,l],b < (s.heap.push o).objs.size:=λb hb=>by
 rw[C0]
 have wc:b=s.heap.objs.size∨b=l:=by simpa using hb
 rcases wc with rfl | rfl
 ·exact DL _
 ·exact IK hl
end
open PySem
theorem KF{α:Type}{xs:List α}{j:Int}{x:α}(h0:0<=j)(h:xs[j.toNat]?=some x):atI xs j=some x:=by
 have wk:=(AC.mp h).1;unfold atI ixN;rw[qX (by omega),qX (by lia)];simpa using h
theorem bq(hd:Gj d S=some ds)(h0:0<=j)(h:ds[j.toNat]?=some z):ixA d (.int j) S=.ok z S:=by
 show Jw (ixD d (.int j) S) _=_
 have:ixD d (.int j) S=.ok z S:=by
  unfold ixD;rw[hd];dsimp only;rw[KF h0 h]
 rw[this];rfl
theorem sd{α:Type}(xs:List α){k:Nat}(h:k<=xs.length):HE xs none (some (k:Int))=xs.take k:=by
 unfold HE;rw[HT.bP,HT.YI,oI h];simp
theorem Yz{α:Type}(xs:List α){k:Nat}(h:k<=xs.length):HE xs (some (k:Int)) none=xs.drop k:=by
 unfold HE;rw[HT.bP,HT.YI,oI h];exact FM (by simp)
theorem rW{α:Type}:∀{l:List α},l.length=1->∃x1,l=[x1]
 | [a],_=>⟨a,rfl⟩
theorem vH{α:Type}:∀{l:List α},l.length=2->∃x1 x2,l=[x1,x2]
 | y :: _,q=>by
  obtain⟨x2,rfl⟩:=rW (PY q);exact⟨y,x2,rfl⟩
theorem vG{α:Type}:∀{l:List α},l.length=3->∃x1 x2 x3,l=[x1,x2,x3]
 | y :: _,q=>by
  obtain⟨x2,x3,rfl⟩:=vH (PY q);exact⟨y,x2,x3,rfl⟩
theorem vF{α:Type}:∀{l:List α},l.length=4->∃x1 x2 x3 x4,l=[x1,x2,x3,x4]
 | y :: _,q=>by
  obtain⟨x2,x3,x4,rfl⟩:=vG (PY q);exact⟨y,x2,x3,x4,rfl⟩
theorem len5{α:Type}:∀{l:List α},l.length=5->∃x1 x2 x3 x4 x5,l=[x1,x2,x3,x4,x5]
 | y :: _,q=>by
  obtain⟨x2,x3,x4,x5,rfl⟩:=vF (PY q);exact⟨y,x2,x3,x4,x5,rfl⟩
open PySem PySem.Spec PyProof.Rows
section
def Te(i:Nat)(g:Int->Int->Int)(m:ME):MS:=λe S=>match e[i]? with
 | some (some (.int x))=>(m e S).lift e λd S1=>match d with
  | .int y=>.ok (.nx (e.set i (some (.int (g x y))))) S1
  | _=>.bad
 | _=>.bad
theorem sC(hN:X.N.Nodup)(hi:X.N[i]?=some x)(hx:Loc X.env.scope x)(hp:PIp X op (ipI g))(he:GE X E e m)
  (hf:X.fn x=true∨X.env.scope.names.lookup x=some .local:=by first | exact .inl rfl | exact .inr rfl | assumption):GS X E (.AugAssign (.Name x pos') op e pos) (Te i g m):=(qc hN hi hx he hp hf).imp λD σ H ⟨ρ,l,S,hl,hs,hm⟩=>by
 unfold Te at hm;split at hm
 ·rename_i n hn
  obtain⟨v,h1,h2⟩:=hl.at' i _ hn;cases h2;refine⟨_,h1,ρ,l,S,hl,hs,hm.lift hl .refl λd S1 hm ρ1 H1 y l1 s1 r1=>?_⟩
  cases d with
  | int y=>cases r1;exact⟨n,y,rfl,rfl,hm ρ1 H1 _ l1 s1 ((hl.mono l1).set (.int _) i)⟩
  | _=>exact hm.elim
 ·exact hm.elim
end
def Itv(K:AG)(a:AW)(n:Nat):It:=
 ⟨λi H=>∃xs x,SqL K H a xs/\xs.length=n/\xs.reverse[i]?=some x,λi H x H'=>H'=H/\∀xs,SqL K H a xs->xs.reverse[i]?=some x,λi H=>∃xs,SqL K H a xs/\xs.length=n/\n<=i⟩
theorem gK{P}{w}{K}{tg}(a it:AW)(n:Nat):Ud P w K tg (Itv K a n) [it] it (λi h=>i<=n/\h.IsRevIter it a ((n:Int) - 1 - i)) where
 mem:=by simp
 obj:=λi h st b hb=>by
  have e:b=it:=by simpa using hb
  subst e;obtain⟨_,o,e,c,d⟩:=st;exact⟨o,e,λv z=>by rw[d]at z;cases z⟩
 keep:=λi h h' st k=>⟨st.1,st.2.at λo e=>k it (by simp) o e⟩
 item:=by
  intro X hP hw hK hc i ζ s σ H E I hf st hg;subst hP hw hK;obtain⟨zH,st⟩:=st;obtain⟨xs,x,hq,hn,hx⟩:=hg
  have hi:i < n:=by have:=(AC.mp hx).1;simpa[hn]using this
  have yN:=hx;rw[List.getElem?_reverse (by lia)]at yN;obtain⟨tx,rv,p,hz⟩:=I.list hq;obtain⟨u,hu,ru⟩:=rv.get yN;obtain⟨f0,f1,f2,f3,f4,f5⟩:=hf it (by simp)
  have e0:(n:Int) - 1 - (i:Int)=((xs.length - 1 - i:Nat):Int):=by lia
  rw[e0]at st
  refine wpAny_pyNext_rev_item st p.isList (x:=u) (by simpa using hu) λh' w5 sb=>?_
  have I1:Inv X ζ σ H { s with heap:=h' }:=I.turned (t':=s.toks) (λb o hb e=>(sb.2 b hb).trans e) f0 f1 f3 f4 f5;obtain⟨o,e,c,d⟩:=id w5;refine⟨u,rfl,Ys (s:={ s with heap:=h' }) e c d (by decide) ⟨x,H,I1,ru,⟨rfl,λys hy=>by rw[I.list_inj hy hq];exact hx⟩,⟨hi,?_⟩,λb hb=>(hf b hb).1⟩⟩
  have e1:(n:Int) - 1 - ((i+1:Nat):Int)=((xs.length - 1 - i:Nat):Int) - 1:=by lia
  rw[e1];exact w5
 done:=by
  intro X hP hw hK hc i ζ s σ H E I hf st hg;subst hP hw hK;obtain⟨zH,st⟩:=st;obtain⟨xs,hq,hn,hx⟩:=hg;obtain⟨f0,f1,f2,f3,f4,f5⟩:=hf it (by simp)
  have e0:(n:Int) - 1 - (i:Int) = -1:=by lia
  rw[e0]at st
  exact wpAny_pyNext_rev_end (I.ok.hd hc) st λh' eb=>⟨rfl,I.turned (t':=s.toks) (λb o hb e=>eb b o hb e) f0 f1 f3 f4 f5⟩
 self:=λ_ _ _ _ _ st h=>jr st.2 h
section
def vN(K:AG)(ta:TA):TI:=λσ H R=>ta σ H λvs H1=>∃a xs,vs=[.ref a]/\SqL K H1 a xs/\R (Itv K a xs.length) H1
theorem qe(hg:Gl X "reversed") (hm:X.mg "reversed" = none) (ha:PA X [e] ta) (hs:AY [e] X.env=[(false,Cc e X.env)]:=by rfl):PI X tg (.Call (.Name "reversed" p) [e] [] pos) (vN X.K ta):=by
 intro ζ s σ H R I h;refine Call_ (Nl I hg hm boot_reversed (Dw (thn (ha pos ζ s σ H _ I h) λus s1 ⟨vs,H1,I1,r1,q1⟩=>?_) hs rfl));obtain⟨a,xs,rfl,sq,q⟩:=q1;obtain⟨u,rfl,ru⟩:=vals1 r1;cases ru;obtain⟨tx,rv,pl,hz⟩:=I1.list sq;have hl:=rv.length;refine call_reversed_list pl.isList ?_;have hit:(s1.heap.push (revObj a ((tx.toArray.size:Int) - 1))).IsRevIter s1.heap.objs.size a ((xs.length:Int) - 1 - ((0:Nat):Int)):=⟨_,Ad _ rfl,rfl,by simp[revObj,hl]⟩;refine jr hit ⟨s1.heap.objs.size,[s1.heap.objs.size],_,_,H1,rfl,I1.kept (t':=s1.toks) λb o e=>AN _ e,gK a _ xs.length,⟨Dz _,hit⟩,λb hb=>?_,q⟩
 have e:b=s1.heap.objs.size:=by simpa using hb
 subst e;exact I1.fpOk (AL _) (I1.hok.fresh (AL _))
def Xw(d:D)(n:Nat):RI:=λS=>match P4 d S with
 | some ds=>if ds.length=n then some ds.reverse else none
 | none=>none
def Yp(m:ME):MI:=λe S=>(m e S).bind λd S1=>match P4 d S1 with
 | some ds=>.ok (Xw d ds.length) S1
 | none=>.bad
theorem ZY{K}{ρ}{H}{a}{d}{n}(r:CA K ρ H d (.ref a)):Mu K ρ H (Itv K a n) (Xw d n):=by
 intro ρ2 H2 S ds i l s hv;unfold Xw at hv;split at hv
 ·rename_i es hes
  split at hv
  ·rename_i hlen
   cases hv;obtain⟨a',xs,e,rr,sq⟩:=Kj s (r.mono l) hes;cases e;have hl:=rr.length;refine⟨λhn=>⟨xs,sq,by lia,?_⟩,λd hd=>?_⟩
   ·have:=Dc.mp hn
    rw[PZ]at this
    lia
   ·obtain⟨x,hx,rx⟩:=rr.reverse.get hd
    refine⟨⟨xs,x,sq,by lia,hx⟩,λy H' ⟨e,hy⟩=>?_⟩;subst e;have:=hy xs sq;rw[hx]at this;cases this;exact⟨ρ2,.refl,s,rx⟩
  ·cases hv
 ·cases hv
theorem iq(hg:Gl X "reversed") (hm:X.mg "reversed" = none) (h:GE X E e m) (he:AY [e] X.env=[(false,Cc e X.env)]:=by rfl):GI X E tg (.Call (.Name "reversed" p) [e] [] pos) (Yp m):=
 (qe hg hm (Gb h JG he) he).imp λσ H R ⟨ρ,l,S,hl,hs,hm⟩=>by
 refine⟨ρ,l,S,hl,hs,hm.seq λd S1 hm ρ1 H1 x l1 s1 r1=>?_⟩
 cases hq:P4 d S1 with
 | none=>rw[hq]at hm;exact hm.elim
 | some ds=>
  rw[hq]at hm;obtain⟨a,xs,rfl,rr,sq⟩:=Kj s1 r1 hq;refine⟨a,xs,rfl,sq,hm ρ1 H1 _ l1 s1 ?_⟩;rw[<-rr.length];exact ZY r1
end
open PySem PySem.Spec PyProof.Rows
section
theorem YO{K}{ρ}{H}:∀{ns:List Int} {vs:List V},Ax K ρ H (ns.map D.int) vs->vs=ns.map V.int
 | [],_,.nil=>rfl
 | n :: ns,_,.cons r t=>by
  cases r;rw[YO t];rfl
end
end L2
namespace PySem
open Sem (wp)
open AutoSeq1 (wpAny_loadPart')
section
variable{w:CH}{A:CM}{E:AI->AR->Prop}{s:AR}
theorem Yc(hl:o0 (.type T) "__init__" = pure (some (.builtin "object.__init__"))) (hm:Bind.madeBy (.type T)=pure (some newId)) (wd:(some newId != some "object.__new__")=true) (hr:(!rest.isEmpty||!kw.isEmpty)=true) :
  Meets (RM.«object.__init__» ⟨self :: rest,kw⟩) (λ_ R s=>s.TypeIs self T/\R (.ok (.ret .none)) s):=by
 refine Meets.of_wp λprog w A R s hs=>?_
 obtain⟨hT,hq⟩:=hs;unfold RM.«object.__init__»;dsimp only;rw[qX hr];(repeat(any_goals (first | assumption | wp_step)));exact⟨_,rfl,hq⟩
theorem aV(ft:TypeCalled T newId "object.__init__") (wd:(some newId != some "object.__new__")=true) (hr:(!args.isEmpty||!kw.isEmpty)=true)
  (hct:checkTypeCall T ⟨args,kw⟩=pure ()) (Ι:checkBuiltinCall newId ⟨.type T :: args,kw⟩=pure ()) (hok:∀obj,argsOk "object.__init__" ⟨obj :: args,kw⟩) (zI:entryFor table newId=some Bn) (g:Meets (Bn ⟨.type T :: args,kw⟩) S)
  (h:S A.in1 (wants (λobj s₁=>s₁.TypeIs obj T/\Q obj s₁) E) s):Af (Ao prog w) A (call (.type T) args kw) Q E s:=by
 obtain⟨c,tl,hmro⟩:=ft.mro;have hmade:=ft.made;have yn:=ft.sub;refine oy (codeAny_of_tree ?_);show Af _ _ (callAny (.type T) _) _ _ _;refine AM ⟨Code.quiet_builtin _ (by decide +kernel),PV F.entry_type_call ?_⟩;rw[CM.under_plain (weight_type_call_type T args kw) (units_type_call_type T args kw)];have h1:=ft.notType;have h2:=ft.canCreate;(repeat(any_goals (first | assumption | wp_step)))
 refine LU (jz ft.plain zI (XY Ι (g prog w A.in1 _ s h))) λr s₁ hr₁=>?_
 cases r with
 | error e=>exact hr₁
 | ok fl=>
  cases fl with
  | ret obj=>
   obtain⟨hT,hq⟩:=hr₁;have hli:=ft.init.lookup;have hbi:=ft.init.bind obj;(repeat(any_goals (first | assumption | wp_step)))
   refine LU (jz (R:=wants (λr s₂=>r=.none/\Q obj s₂) E) ft.init.plain F.entry_object_init (ft.init.check _ _ _ _ _ _ _ _ hT (hok obj) (Yc ft.init.lookup ft.made wd hr prog w A.in1 _ s₁ ⟨hT,rfl,hq⟩))) λr₂ s₂ hr₂=>?_
   cases r₂ with
   | error e=>exact hr₂
   | ok fl₂=>
    cases fl₂ with
    | ret r=>
     obtain⟨rfl,hq⟩:=hr₂;(repeat(any_goals (first | assumption | wp_step)))
    | _=>exact hr₂.elim
  | _=>exact hr₁.elim
theorem M6(l:AW)(items:Array AI)(n:Nat)(zF:Option AW)(sl:Array (Option AI))(t:Tok) :
  Meets (RM.«enumerate.__new__» ⟨[.type "enumerate",.ref l],[("start",.int 1 t)]⟩) (λ_ R s=>s.heap.get? l=some { cls:=.type "tuple",dict:=zF,data:=.seq items n,slots:=sl } /\
   R (.ok (.ret (.ref (s.heap.push { cls:=.type "tuple_iterator",data:=.fields #[.ref l,.int 0 0] }).objs.size)))
    { s with heap:=(s.heap.push { cls:=.type "tuple_iterator",data:=.fields #[.ref l,.int 0 0] }).push { cls:=.type "enumerate",data:=.fields #[.none,.bool false,.ref s.heap.objs.size,Lu 1,.none,.none] } }):=
 .of_wp λprog w A R s h=>by
  obtain⟨hp,g,d,tk,os⟩:=s;obtain⟨hl,h⟩:=h;have yn:=sub_enumerate;have hL:tS (pF ⟨hp,g,d,tk,os⟩) l items:=⟨_,hl,rfl,n,rfl⟩
  wp_walk using Dk hl
  refine vq λst=>AM ?_
  split
  ·rename_i c _ _ _ _ _
   cases(c==GY "enumerate")
   ·wp_walk using Dk hl,Dy hL
    exact⟨_,rfl,h⟩
   ·wp_walk using Dk hl,Dy hL
    exact⟨_,rfl,h⟩
  ·wp_walk using Dk hl,Dy hL
   exact⟨_,rfl,h⟩
end
section
variable{w:CH}{A:CM}{E:AI->AR->Prop}{s:AR}
theorem NB(hL:s.heap.IsTuple l items)
  (h:∀h',Ly h' (s.heap.objs.size+1) s.heap.objs.size 1 .none->h'.IsTupleIter s.heap.objs.size l 0->h'.objs.size=s.heap.objs.size+2 ->
   (∀b o,s.heap.get? b=some o->h'.get? b=some o)->Q (.ref (s.heap.objs.size+1)) { s with heap:=h' }) :
  Af (Ao prog w) A (call (.type "enumerate") [.ref l] [("start",.int 1 t)]) Q E s:=by
 obtain⟨⟨c,zF,dt,sl⟩,hl,hc,n,hd⟩:=hL
 replace hc:c=.type "tuple":=hc
 replace hd:dt=.seq items n:=hd
 subst hc hd
 refine aV kD (by decide) rfl (by kernel_rfl) (by kernel_rfl) (λobj=>by
  unfold argsOk;rw[signature?_of (id:="object.__init__") (n:=['_','_','t','i','n','i','_','_']) (o:=['t','c','e','j','b','o']) (by kernel_rfl) F.owner_object];kernel_rfl) ei
  (M6 l items n zF sl t) ⟨hl,?_⟩
 have hz:(s.heap.push { cls:=.type "tuple_iterator",data:=.fields #[.ref l,.int 0 0] }).objs.size=s.heap.objs.size+1:=C0 ..;show _/\_;rw[hz]
 have he:Ly ((s.heap.push { cls:=.type "tuple_iterator",data:=.fields #[.ref l,.int 0 0] }).push
   { cls:=.type "enumerate",data:=.fields #[.none,.bool false,.ref s.heap.objs.size,Lu 1,.none,.none] }) (s.heap.objs.size+1) s.heap.objs.size 1 .none:=by
  have:=Ad (s.heap.push { cls:=.type "tuple_iterator",data:=.fields #[.ref l,.int 0 0] })
   (o:={ cls:=.type "enumerate",data:=.fields #[.none,.bool false,.ref s.heap.objs.size,Lu 1,.none,.none] }) rfl
  rw[hz]at this;exact this
 refine⟨⟨_,he,rfl⟩,h _ he ⟨_,AN _ (Ad _ rfl),rfl,rfl⟩ (by rw[C0,hz]) λb o x=>AN _ (AN _ x)⟩
theorem Tu(hh:A.handled=none)
  (he:Ly s.heap e it j old) (hit:s.heap.IsTupleIter it l i) (hl:s.heap.IsTuple l items) (hx:items[i]?=none)
  (hQ:∀h',Sk it s.heap h'->Q none { s with heap:=h' }):Af (Ao prog w) A (Lv (.ref e)) Q E s:=by
 have hT:s.TypeIs (.ref e) "enumerate":=⟨_,he,rfl⟩;unfold Lv
 refine AB (NG (Ci (name:=Gs "__next__") hT JM
  (DT JM hT cZ ?_ (az _))))
 show Af _ _ (tG (.ref e) 2 >>= _) _ _ _;refine AB (HB he rfl (x:=.ref it) rfl (AB (Gc hh hit hl hx λh' x ι yN=>?_)));obtain⟨o,ho,hc⟩:=yN;exact AB (V6 (T:="StopIteration") (b:=true) ⟨o,ho,hc⟩ ZL (AM (hQ _ ι)))
theorem XW(hh:A.handled=none)(it l:AW)(wd:l≠it)(items:Array AI) :
  Draws prog w A it [it,l] (items.size+1) (λi v=>items[i - 1]?=some v) (λi h=>1<=i/\h.IsTupleIter it l (i - 1)/\h.IsTuple l items) where
 live:=λ_ _ st=>let ⟨o,ho,_⟩:=st.2.1;⟨o,ho⟩
 frame:=λ_ _ _ st hk=>⟨st.1,st.2.1.at λo e=>hk it (by simp) o e,let ⟨o,ho,r⟩:=st.2.2;⟨o,hk l (by simp) o ho,r⟩⟩
 item:=λi s Q E hi st hQ=>by
  obtain⟨h1,st⟩:=st
  have wk:i - 1 < items.size:=by omega
  refine Kh st.1 st.2 (x:=items[i - 1]) (by simp[wk]) λh' yp zg=>?_
  refine hQ _ h' s.toks (by simp[wk]) ⟨by lia,?_,st.2.extBut zg.extBut wd⟩ zg;rw[show i+1 - 1=i - 1+1 by lia];exact yp
 done:=λs Q E st hE=>Gc hh st.2.1 st.2.2 (by simp) hE
end
end PySem
namespace L2
open PySem PySem.Spec PyProof.Rows
def sr(sq:Hp->List V->Prop):It:=
 ⟨λi H=>∃xs x,sq H xs/\xs[i]?=some x,λi H y H'=>∃p x,H p=none/\y=.ref p/\H'=upd H p (.tup [.int ((i+1:Nat):Int),x])/\∀xs,sq H xs->xs[i]?=some x,λi H=>∃xs,sq H xs/\xs.length<=i⟩
section
variable{P:Bh}{w:CH}{K:AG}{elts:List Expr}{x1:Nat}{pos:Pos}
theorem X8(a e it:AW)(wd:e≠it)(hae:a≠it)(hef:e≠a):Ud P w K (.Tuple elts x1 pos) (sr λH xs=>SqT K H a xs) [e,it] e (λi h=>(∃old,Ly h e it ((i+1:Nat):Int) old)/\h.IsTupleIter it a i) where
 mem:=by simp
 obj:=λi h st b hb=>by
  have wc:b=e∨b=it:=by simpa using hb
  rcases wc with z | z
  ·subst z
   obtain⟨⟨old,he⟩,_⟩:=st
   exact⟨_,he,λv z=>by
    have z':Sm _=Xq v:=z
    cases z'⟩
  ·subst z
   obtain⟨_,o,e,c,d⟩:=st;exact⟨o,e,λv z=>by rw[d]at z;cases z⟩
 keep:=λi h h' st k=>⟨st.1.imp λold he=>k e (by simp) _ he,st.2.at λo q=>k it (by simp) o q⟩
 item:=by
  intro X hP hw hK hc i ζ s σ H E I hf st hg;subst hP hw hK;obtain⟨xs,x,hq,hx⟩:=hg;obtain⟨tx,rv,p,hz⟩:=I.tuple hq;have p':s.heap.IsTuple a tx.toArray:=p;obtain⟨u,hu,ru⟩:=rv.get hx
  have wk:i < tx.toArray.size:=by
   have:=(AC.mp hu).1;simpa using this
  obtain⟨⟨old,he⟩,hit⟩:=st
  have li:it < s.heap.objs.size:=by obtain⟨o,q,_⟩:=hit;exact Ae q
  refine eW (XW (A:=X.A.in1) (I.ok.hd hc) it a hae tx.toArray) (i:=i+1) he ⟨by lia,hit,p'⟩ (by lia) wd (by simp[wd,hef]) λu' h' tk hu' ho zG hT hsz hk=>?_
  have:u'=u:=by
   have ο:tx[i]?=some u':=by simpa using hu'
   rw[hu]at ο;cases ο;rfl
  subst this
  have t:=Q7 (i:=i+1) (E:=E) (elts:=elts) (x1:=x1) (pos:=pos) (sq:=λH xs=>∃y ys,xs=y :: ys/\SqT X.K H a ys) (tn:=λj h=>(∃old,Ly h e it (j:Int) old)/\h.IsTupleIter it a (j - 1)) I wd hf (Ae he) li ru (λys hy=>by
   obtain⟨y,ys',rfl,hy⟩:=hy;rw[Xm,I.tuple_inj hy hq]
   exact hx) ho hT hk λh2 wQ yO=>⟨yO,zG.2.1.at λo q=>(wQ.2 it (Bs wd)).trans q⟩
  refine⟨_,rfl,Em t (λ_ s2 h2=>?_) λ_ _ z=>z⟩;obtain⟨y,H',q1,q2,⟨p,x,e1,e2,e3,e4⟩,q4,q5⟩:=h2;exact⟨y,H',q1,q2,⟨p,x,e1,e2,e3,λzs hz=>by simpa using e4 (x :: zs) ⟨x,zs,rfl,hz⟩⟩,q4,q5⟩
 done:=by
  intro X hP hw hK hc i ζ s σ H E I hf st hg;subst hP hw hK;obtain⟨xs,hq,hx⟩:=hg;obtain⟨tx,rv,p,hz⟩:=I.tuple hq;obtain⟨⟨old,he⟩,hit⟩:=st;obtain⟨f0,f1,f2,f3,f4,f5⟩:=hf it (by simp);have hl:=rv.length
  exact Tu (I.ok.hd hc) he hit (show s.heap.IsTuple a tx.toArray from p) (by simp;lia) λh' eb=>⟨rfl,I.turned (t':=s.toks) (λb o hb e=>eb b o hb e) f0 f1 f3 f4 f5⟩
 self:=λ_ _ _ _ _ st h=>by
  obtain⟨⟨old,he⟩,_⟩:=st;exact Gn he h
end
section
variable{X:Cx}{E:EW}{e:Expr}{elts:List Expr}{x1:Nat}{p pos ς kp vp:Pos}{j1:Nat}{ta:TA}
def rn(K:AG)(ta:TA):TI:=λσ H R=>ta σ H λvs H1=>∃a,vs=[.ref a]/\(∃xs,SqT K H1 a xs)/\R (sr λH xs=>SqT K H a xs) H1
theorem R6{M}{A}{E}{s}{env}{pos}{T}{e}{rest}{kws}{Q}
  (h:Af M A (spliced (D6 pos (AY (e :: rest) env))) (λvs s₁=>Af M A (evalAll ((KM pos (Fm kws env)).map (·.2)))
   (λf' s₂=>Af M A (call (.type T) vs (((KM pos (Fm kws env)).filterMap (·.1)).zip f')) Q E s₂) E s₁) E s)
  (he:D6 pos (AY (e :: rest) env)=(false,Cc e env) :: D6 pos (AY rest env)) (xc:(D6 pos (AY (e :: rest) env)).any (·.1)=false)
  (yh:(KM pos (Fm kws env)).all (·.1.isSome)=true) (hkw:(KM pos (Fm kws env)).any (·.1.isNone)=false) :
  Af M A (j3 pos (.type T) [] (D6 pos (AY (e :: rest) env)) (KM pos (Fm kws env))) Q E s:=by
 have h2:Af M A (evalArgs (.type T) true (D6 pos (AY (e :: rest) env)) (KM pos (Fm kws env))) (λa s₁=>Af M A (call (.type T) ([]++a.pos) a.kw) Q E s₁) E s:=by
  rw[he]at h ⊢;exact evalArgs_kwB yh h
 unfold j3;refine AB (E8 (Em h2 (λa s₁ h₁=>AB (cL ?_)) λ_ _ x=>x));simp only[xc,hkw,Bool.or_false];exact AB (AM (AB (Em h₁ (λr s₂ hr=>AB (E8 (wpAny_point (AM hr)))) λ_ _ x=>x)))
theorem gv(hg:Gl X "enumerate") (hm:X.mg "enumerate" = none) (ha:PA X [e] ta) (hs:AY [e] X.env=[(false,Cc e X.env)]:=by rfl) :
  PI X (.Tuple elts x1 ς) (.Call (.Name "enumerate" p) [e] [⟨some "start",.Constant (.int 1) j1 vp,kp⟩] pos) (rn X.K ta):=by
 intro ζ s σ H R I h;refine II (Nl I hg hm boot_enumerate ?_ (by decide) (by decide));refine R6 (thn (ha pos ζ s σ H _ I h) λus s1 ⟨vs,H1,I1,r1,q1⟩=>?_) (by rw[hs];rfl) (by rw[hs];rfl) rfl rfl;obtain⟨a,rfl,⟨xs,sq⟩,q⟩:=q1;obtain⟨u,rfl,ru⟩:=vals1 r1;cases ru;refine kws_cons ?_
 refine thn (gx (X:=X) (i:=1) (j:=j1) (pos:=vp) ζ s1 σ H1 (λx H2=>x=.int 1/\H2=H1) I1 ⟨rfl,rfl⟩) λv s2 ⟨x,H2,I2,r2,e1,e2⟩=>?_
 subst e1 e2;obtain⟨t,rfl⟩:=r2;refine kws_nil ?_;show Af _ _ (call (.type "enumerate") [.ref a] [("start",.int 1 t)]) _ _ _;obtain⟨tx,rv,pl,hz⟩:=I2.tuple sq;have yP:s2.heap.IsTuple a tx.toArray:=pl
 have la:a < s2.heap.objs.size:=by obtain⟨o,q,_⟩:=yP;exact Ae q
 refine NB yP λh' he hit hsz hk=>Gn he ?_
 refine⟨_,[s2.heap.objs.size+1,s2.heap.objs.size],_,_,_,rfl,I2.kept (t':=s2.toks) hk,X8 a _ _ (Sg _) (BF la) (Et (IK la)),⟨⟨_,he⟩,hit⟩,λb hb=>?_,q⟩
 have wc:b=s2.heap.objs.size+1∨b=s2.heap.objs.size:=by simpa using hb
 rcases wc with z | z
 ·rw[z];exact I2.fpOk (JS _) (I2.hok.fresh (JS _))
 ·rw[z];exact I2.fpOk (AL _) (I2.hok.fresh (AL _))
def Kn(ds:List D):List D:=ds.zipIdx.map λx=>.tup [.int ((x.2+1:Nat):Int),x.1]
theorem RY(ds:List D)(i:Nat):(Kn ds)[i]?=(ds[i]?).map λd=>.tup [.int ((i+1:Nat):Int),d]:=by
 unfold Kn;rw[Ab,Es]
 cases ds[i]? with
 | none=>rfl
 | some d=>simp
theorem WO{K}{ρ}{H}{a}{ds}{xs}(h1:H a=some (.tup xs))(h2:Ax K ρ H ds xs):Mu K ρ H (sr λH xs=>SqT K H a xs) (Gx (Kn ds)):=by
 intro ρ2 H2 S xm i l s hv;cases hv;have rr:=h2.mono l;have sq:SqT K H2 a xs:=.inl (.inl (l.tup _ _ h1));refine⟨λhn=>⟨xs,sq,?_⟩,λd hd=>?_⟩
 ·rw[RY]at hn
  rw[<-rr.length]
  cases hq:ds[i]? with
  | none=>exact Dc.mp hq
  | some d=>rw[hq]at hn;cases hn
 ·rw[RY]at hd
  cases hq:ds[i]? with
  | none=>rw[hq]at hd;cases hd
  | some d0=>
   rw[hq]at hd;cases hd;obtain⟨x,hx,rx⟩:=rr.get hq;refine⟨⟨xs,x,sq,hx⟩,λy H' ⟨p,x',e1,e2,e3,e4⟩=>?_⟩;subst e2 e3;have:=e4 xs sq;rw[hx]at this;cases this;obtain⟨s4,l4⟩:=HW (ho:=.tup [.int ((i+1:Nat):Int),x]) s e1;exact⟨ρ2,l4,s4,.tup B0 (.cons (.int _) (.cons (rx.mono l4) .nil))⟩
def SQ(m:ME):MI:=λe S=>(m e S).bind λd S1=>match d with
 | .tup ds=>.ok (Gx (Kn ds)) S1
 | _=>.bad
theorem ir(hg:Gl X "enumerate") (hm:X.mg "enumerate" = none) (h:GE X E e m) (he:AY [e] X.env=[(false,Cc e X.env)]:=by rfl) :
  GI X E (.Tuple elts x1 ς) (.Call (.Name "enumerate" p) [e] [⟨some "start",.Constant (.int 1) j1 vp,kp⟩] pos) (SQ m):=
 (gv hg hm (Gb h JG he) he).imp λσ H R ⟨ρ,l,S,hl,hs,hm⟩=>by
 refine⟨ρ,l,S,hl,hs,hm.seq λd S1 hm ρ1 H1 x l1 s1 r1=>?_⟩
 cases d with
 | tup ds=>
  have υ:=hm
  cases r1 with
  | @tup _ a vs q1 q2=>exact⟨a,rfl,⟨vs,.inl (.inl q1)⟩,υ ρ1 H1 _ l1 s1 (WO q1 q2)⟩
 | _=>exact hm.elim
end
open PySem PySem.Spec PyProof.Rows
theorem sO{P}{w}{K}{mg}{base}{CX}{k n}{f}{fd}{ps}:Cq P w K mg base CX k f fd ps (spM K n λ_ _=>.bad):=
 ⟨λ_ _ _ _ ⟨_,_,_,_,_,_,h⟩=>h.elim,λ_ _ _ _ _ _ _ _ _ _ _ _ _ ⟨_,_,_,_,_,_,h⟩=>h.elim⟩
end L2
namespace HT
open PySem PySem.Spec PyProof.Rows
section
variable{E:AI->AR->Prop}
theorem QC{t sl}{items}{vl vu}{lo hi}{Q}(ht:ZU s.heap t items)(hs:s.heap.IsSliceOf sl vl vu .none)(pl:Qb vl lo)(pu:Qb vu hi)
  (hw:sIx items.size 0 lo=0/\sIx items.size items.size hi=items.size) (h:Q (.ref t) s):Af (Ao prog w) A (LS (.ref t) (.ref sl)) Q E s:=by
 obtain⟨os,yI,hcs,Δ⟩:=id hs;have hTs:s.TypeIs (.ref sl) "slice":=⟨os,yI,hcs⟩;unfold LS
 try with_reducible refine E8 ?_
 first | refine AB (AM ?_) | skip
 refine AB (su ht.typeIs (by decide) (AB (Ci (name:=Gs "__getitem__") ht.typeIs CY
  (DT CY ht.typeIs oE ?_ (pD _ _)))))
 show Af (Ao prog w) _ (Pi (.ref t) >>= _) _ _ s;refine AB (tupleItemsOf_ ht (AB (Ug hTs ?_)));rw[qX (by decide)];refine AB (Lb hs pl pu ?_);show Af (Ao prog w) _ (if (((sIx items.size 0 lo:Nat):Int)==0&&(1:Int)==1&&(sIx items.size items.size hi - sIx items.size 0 lo)==items.size)=true then _ else _) _ _ s;rw[hw.1,hw.2,qX (by simp)];unfold t4;refine AB (AB (Ug ht.typeIs (AM ?_)));rw[qX (by decide)];exact AB (ZI (AB (AM (AM ⟨_,rfl,AM h⟩))))
end
end HT
namespace L2
open PySem PySem.Spec PyProof.Rows
section
variable{X:Cx}
def rSlW(K:AG):V->Option Int->Option Int->Hp->VK->Prop:=λx lo hi H Q=>∃a xs,x=.ref a/\SqT K H a xs/\(HT.sIx xs.length 0 lo=0/\HT.sIx xs.length xs.length hi=xs.length)/\Q (.ref a) H
theorem qH:SlR X (rSlW X.K):=by
 intro ζ s σ H x v vl vu lo hi sl Q I rx hs pl pu h;obtain⟨a,xs,rfl,hx,hw,q⟩:=h;cases rx;obtain⟨tx,r,ht,_⟩:=I.tuple hx
 have hlen:tx.toArray.size=xs.length:=by rw[Ah];exact r.length.symm
 exact⟨"tuple",_,CY.lookup,ht.typeIs,HT.QC ht hs pl pu (by rw[hlen];exact hw) ⟨.ref a,H,I,rfl,q⟩⟩
def qG(d:D)(lo hi:Option Int)(S:Sto):Res D:=match d with
 | .tup ds=>.ok (.tup (HE ds lo hi)) S
 | _=>.bad
def P2(m:ME)(ml mh:MO):ME:=λe S=>(m e S).bind λd S1=>(ml e S1).bind λlo S2=>(mh e S2).bind λhi S3=>okR (qG d lo hi S3)
variable{E:EW}{e:Expr}{lo hi:Option Expr}{pos p2:Pos}{m:ME}{ml mh:MO}
theorem nX{α:Type}(xs:List α)(lo hi:Option Int)(h:HT.sIx xs.length 0 lo=0/\HT.sIx xs.length xs.length hi=xs.length):HE xs lo hi=xs:=by
 unfold HE;rw[h.1,h.2];simp
theorem Vt(he:GE X E e m)(hl:GO X E lo ml)(hu:GO X E hi mh):GE X E (.Subscript e (.Slice lo hi none p2) pos) (P2 m ml mh):=(YU (qH.or gc) he hl hu).imp λσ H Q ⟨ρ,l,S,hl,hs,hm⟩=>by
 refine⟨ρ,l,S,hl,hs,hm.seq λd S1 hm ρ1 H1 x l1 s1 r1=>⟨ρ1,l,S1,hl.mono l1,s1,(hm.later l1).seq λlo S2 hm ρ2 H2 l2 s2=>⟨ρ2,l,S2,hl.mono (l1.trans l2),s2,(hm.later l2).seq λhi S3 hm ρ3 H3 l3 s3=>?_⟩⟩⟩;obtain⟨d',S',e,k⟩:=hm.okR;have r3:=r1.mono (l2.trans l3)
 cases d with
 | tup ds=>
  cases e
  cases r3 with
  | @tup _ a vs h1 h2=>
   by_cases hw:HT.sIx vs.length 0 lo=0/\HT.sIx vs.length vs.length hi=vs.length
   ·refine .inl ⟨a,vs,rfl,.inl (.inl h1),hw,k _ _ _ (l1.trans (l2.trans l3)) s3 ?_⟩
    rw[nX ds lo hi (by rw[h2.length];exact hw)];exact .tup h1 h2
   ·refine .inr ⟨a,vs,rfl,.inl (.inl h1),hw,λq hq=>?_⟩
    obtain⟨s4,l4⟩:=HW (ho:=.tup (R5 vs lo hi)) s3 hq;exact k _ _ _ (l1.trans (l2.trans (l3.trans l4))) s4 (.tup B0 ((UX h2 lo hi).mono l4))
 | _=>cases e
end
section
instance(i j:Int):Decidable ((λ_ j:Int=>0<=j) i j):=inferInstanceAs (Decidable (0<=j))
abbrev Ql:=intOp jl λi j=>.int (i * 2 ^ j.toNat)
abbrev YC:=intOp (λ_ j=>0<=j) λi j=>.int (i / 2 ^ j.toNat)
abbrev RH:=intOp (λ_ _=>True) λi j=>.int (BH i j)
abbrev pL:=intOp (λ_ _=>True) λi j=>.int (CD i j)
theorem Nd:OpR X (Cw .LShift) (rD X.K Ql):=Qw (λ_ _ _ _=>.int _) qw
theorem Z4:OpR X (Cw .RShift) (rD X.K YC):=Qw (λ_ _ _ _=>.int _) qv
theorem Ng:OpR X (Cw .BitAnd) (rD X.K RH):=Ma (λ_ _ _ _=>.int _) rB
theorem rF:OpR X (Cw .BitXor) (rD X.K pL):=Ma (λ_ _ _ _=>.int _) qt
theorem br:PIp X .BitOr (ipI λi j=>Cg i j):=by
 intro ζ s σ H x y v u Q I r1 r2 h;obtain⟨i,j,e1,e2,q⟩:=h;subst e1;subst e2;obtain⟨a,rfl⟩:=r1;obtain⟨b,rfl⟩:=r2;exact ior_int ⟨.int _,H,I.tok _,⟨_,rfl⟩,q⟩
theorem rj:PIp X .BitAnd (ipI λi j=>BH i j):=by
 intro ζ s σ H x y v u Q I r1 r2 h;obtain⟨i,j,e1,e2,q⟩:=h;subst e1;subst e2;obtain⟨a,rfl⟩:=r1;obtain⟨b,rfl⟩:=r2;exact iand_int ⟨.int _,H,I.tok _,⟨_,rfl⟩,q⟩
theorem rh:PIp X .BitXor (ipI λi j=>CD i j):=by
 intro ζ s σ H x y v u Q I r1 r2 h;obtain⟨i,j,e1,e2,q⟩:=h;subst e1;subst e2;obtain⟨a,rfl⟩:=r1;obtain⟨b,rfl⟩:=r2;exact ixor_int ⟨.int _,H,I.tok _,⟨_,rfl⟩,q⟩
end
def Ki(C:AW)(m:Str)(n:Nat)(f:List D->Sto->Res D)(mo:ME)(ml:ML):ME:=λe S=>(mo e S).bind λd S1=>match d with
 | .ref k=>match S1[k]? with
  | some (.ins C' fs)=>if C'=C/\fs.lookup m=none then(ml e S1).bind λds S2=>if ds.length+1=n then f (.ref k :: ds) S2 else .bad else .bad
  | _=>.bad
 | _=>.bad
theorem KVR.none{K}{ρ}{H}(f:Str):∀{x:List (Str×D)} {y:List (Str×V)},KVR K ρ H x y->x.lookup f=none->y.lookup f=none
 | _,_,.nil,_=>rfl
 | (g,a) :: x,(g',b) :: y,.cons r t,h=>by
  obtain⟨r1,r2⟩:=r;dsimp only at r1 r2;subst r1;rw[Ba]at h ⊢
  cases hq:(f==g)with
  | true=>rw[hq]at h;cases h
  | false=>rw[hq]at h;exact KVR.none f t h
section
variable{X:Cx}{E:EW}{k n:Nat}{f C:AW}{m:Str}{mo:ME}{ml:ML}{g:List D->Sto->Res D}
theorem gU{t:TA}{σ:St}{H:Hp}{Q:VK}(h:gE X.K E (Ki C m n g mo ml) σ H Q):oQ C m (spM X.K n g) [] (WL E) (gE X.K E mo) (gA X.K E ml) σ H Q:=by
 obtain⟨ρ,l,S,hl,hs,hm⟩:=h;refine⟨ρ,l,S,hl,hs,hm.seq λd S1 hm ρ1 H1 x l1 s1 r1=>?_⟩
 cases d <;> first | exact hm.elim | skip
 rename_i q;dsimp only at hm
 cases ho:S1[q]? with
 | none=>rw[ho]at hm;exact hm.elim
 | some ob=>
  rw[ho]at hm
  cases ob <;> first | exact hm.elim | skip
  rename_i C' fs;dsimp only at hm;split at hm
  ·rename_i hC
   obtain⟨hC,hno⟩:=hC;rw[hC]at ho
   cases r1 with
   | ref xq=>
    obtain⟨dx,yA,e1,e2⟩:=s1.ob q _ _ ho xq;refine⟨_,dx,yA,rfl,e1,KVR.none m e2 hno,ρ1,l,S1,hl.mono l1,s1,(hm.later l1).seq λds S2 hm ρ2 H2 xs l2 s2 r2=>?_⟩;split at hm
    ·rename_i hlen
     rw[CG];exact⟨ρ2,.ref q :: ds,S2,by simpa using hlen,.cons (.ref (l2.pre _ _ xq)) r2,s2,hm.xk l2 λ_ _ k ρ' H' z l' s' r'=>k ρ' H' z (l1.trans (l2.trans l')) s' r'⟩
    ·exact hm.elim
  ·exact hm.elim
theorem Kl{pl:Sem Bool}(ho:GE X E o mo)(c:Cls X.K C)(hm:VQ X.K C m f)(F:Cq X.prog X.w X.K X.mg X.base CX k f fd ps (spM X.K n g))(hx:Mw CX X (WL E))(hr:IE k X.A)(hb:Binds X.K fd ps [])(ha:GA X E (e :: es) ml)
  (yH:AY (e :: es) X.env=(false,Cc e X.env) :: AY es X.env:=by rfl) (wI:(D6 pos (AY es X.env)).any (·.1)=false:=by rfl)
  (ht:Cc (.Call (.Attribute o m apos) (e :: es) [] pos) X.env=(do
   let ov <-Cc o X.env
   ZC apos.atName
   let (f,fts) <-Oq [ov] (eX ov m pl)
   j3 pos f fts (D6 pos (AY (e :: es) X.env)) (KM pos (Fm [] X.env))):=by rfl) :
  GE X E (.Call (.Attribute o m apos) (e :: es) [] pos) (Ki C m n g mo ml):=
 (mE (E:=WL E) ho c hm F hr hb .nil hx ha yH wI ht).imp λσ H Q h=>gU (t:=gA X.K E ml) h
end
section
def uf:V->List V->Hp->VK->Prop:=λx vs H Q=>∃i,x=.int i/\vs=[]/\Q (.int (Du i)) H
theorem mY:MtR X "int.bit_length" uf:=by
 intro ζ s σ H x vs v us Q I rx rv h;obtain⟨i,rfl,rfl,q⟩:=h;obtain⟨t,rfl⟩:=rx;cases rv;exact call_int_bit_length ⟨.int _,H,I.tok _,⟨_,rfl⟩,q⟩
def be(m:ME):ME:=λe S=>(m e S).bind λd S1=>match d with
 | .int i=>.ok (.int (Du i)) S1
 | _=>.bad
theorem nI(ho:GE X E o mo)(wW:ID o "bit_length" X.env (Cc o X.env)=Cc o X.env:=by rfl) (wZ:(apos.endLine==wu.line)=true:=by rfl) :
  GE X E (.Call (.Attribute o "bit_length" apos) [] [] wu) (be mo):=(qq PySem.F.plainAttrs_int PySem.F.slot_int_bit_length PySem.F.type_int_bit_length mY ho wW wZ).imp λσ H Q ⟨ρ,l,S,hl,hs,hm⟩=>by
 refine⟨ρ,l,S,hl,hs,hm.seq λd S1 hm ρ1 H1 v l1 s1 r1=>?_⟩
 cases d <;> first | exact hm.elim | skip
 cases r1;exact⟨rfl,_,rfl,rfl,hm ρ1 H1 _ l1 s1 (.int _)⟩
end
section
def uc(K:AG):V->V->Hp->VK->Prop:=λo i H Q=>∃p xs k z,o=.ref p/\i=.int k/\0<=k/\H p=some (.lst xs)/\xs[k.toNat]?=some z/\Q z H
theorem iw:vn X (uc X.K):=by
 intro ζ s σ H o i ov iv Q I ro ri h;obtain⟨p,xs,k,z,rfl,rfl,h0,hp,hz,q⟩:=h;cases ro;obtain⟨t,rfl⟩:=ri;obtain⟨tx,n,r,ho,hsz⟩:=I.lst hp
 obtain⟨u,hu,ru⟩:∃u,tx[k.toNat]?=some u/\RelV z u:=r.get hz
 have wk:k.toNat < xs.length:=(AC.mp hz).1;have hn:=Q0;exact getItem_listL (l:=tx) ⟨_,ho,rfl,n,rfl⟩ h0 (by omega) hu ⟨z,H,I,ru,q⟩
def YJ(g:Int->Int->Int)(mo mi mv:ME):MS:=λe S=>(mo e S).lift e λd S1=>(mi e S1).lift e λk S2=>match atL d S2,k with
 | some (_,xs),.int i=>if 0<=i then(match xs[i.toNat]? with
  | some (.int x)=>(mv e S2).lift e λy S3=>match y,atL d S3 with
   | .int y,some (n,zs)=>if i.toNat < zs.length then .ok (.nx e) (S3.set n (.lst (zs.set i.toNat (.int (g x y)))))else .bad
   | _,_=>.bad
  | _=>.bad)else .bad
 | _,_=>.bad
theorem m6(ho:GE X E o mo)(hi:GE X E i mi)(he:GE X E e mv)(hp:PIp X op (ipI g))
  (ha:∀ov iv new,augStore i ov iv new=(do Oq [new,ov,iv] (tD ov iv new);release [new,ov,iv] [];pure .next):=by intros;rfl):GS X E (.AugAssign (.Subscript o i tpos) op e pos) (YJ g mo mi mv):=
 (lq ho hi iw he hp gd ha).imp λD σ H ⟨ρ,l,S,hl,hs,hm⟩=>by
 refine⟨ρ,l,S,hl,hs,hm.lift hl .refl λd S1 hm ρ1 H1 x l1 s1 r1=>⟨ρ1,l,S1,hl.mono l1,s1,(hm.later l1).lift (hl.mono l1) l1 λk S2 hm ρ2 H2 y l2 s2 r2=>?_⟩⟩;have r12:=r1.mono l2;split at hm
 ·rename_i n xs i hq
  split at hm
  ·rename_i h0
   obtain⟨rfl,h5,a,vs,rfl,hn,e1,rr⟩:=jf s2 r12 hq;cases r2;split at hm
   ·rename_i x hx
    obtain⟨z,hz,rz⟩:=rr.get hx;cases rz;refine⟨a,vs,i,.int x,rfl,rfl,h0,e1,hz,ρ2,l,S2,hl.mono (l1.trans l2),s2,(hm.later l2).lift (hl.mono (l1.trans l2)) (l1.trans l2) λy S3 hm ρ3 H3 w l3 s3 r3=>?_⟩;split at hm
    ·rename_i y n3 zs zJ
     split at hm
     ·rename_i wk
      cases r3;obtain⟨_,h6,a3,vs3,e4,hn3,e3,rr3⟩:=jf s3 (r12.mono l3) zJ;cases e4;obtain⟨s4,l4⟩:=lY s3 hn3 e3 (rr3.set (.int (g x y)) i.toNat)
      have hix:ixN vs3.length i=some i.toNat:=by
       unfold ixN;rw[qX h0,qX (by rw[<-rr3.length];omega)]
      exact⟨x,y,rfl,rfl,a,vs3,i,i.toNat,rfl,rfl,e3,hix,hm ρ3 _ _ ((l1.trans l2).trans (l3.trans l4)) s4 (hl.mono ((l1.trans l2).trans (l3.trans l4)))⟩
     ·exact hm.elim
    ·exact hm.elim
   ·exact hm.elim
  ·exact hm.elim
 ·exact hm.elim
end
open PySem PySem.Spec PyProof.Rows PySem.SeqAt
section
theorem E5(h1:N.Nodup:=by decide +kernel)(h2:∀x∈ps,sc.names.lookup x=some .local∨sc.names.lookup x=some .cell:=by decide +kernel)(h3:∀y∈sc.names,y.2≠.free:=by decide +kernel)(h4:sc.kind=.function:=by rfl)(h5:sc.isCoroutine=false:=by rfl)(h6:sc.isGenerator=false:=by rfl)(h7:N.take ps.length=ps:=by rfl):BZ N ps sc:=⟨h4,h5,h6,h1,h7,h2,h3⟩
end
section
variable{X:Cx}{E:EW}{e:Expr}
theorem By(i:Nat)(hN:X.N.Nodup)(hi:X.N[i]?=some x:=by rfl)(hx:Loc X.env.scope x:=by first | exact PX rfl | exact OB rfl)(hf:X.fn x=true∨X.env.scope.names.lookup x=some .local:=by first | exact .inl rfl | exact .inr rfl | assumption):GG X (.Name x pos) (tgN i):=nB (mD hN hi hx hf)
theorem CK(i:Nat)(hN:X.N.Nodup)(he:GE X E e m)(hi:X.N[i]?=some x:=by rfl)(hx:Loc X.env.scope x:=by first | exact PX rfl | exact OB rfl)(hs:HJ e (some (.Name x pos')) pos.line X.env=pure false:=by rfl)
  (hf:X.fn x=true∨X.env.scope.names.lookup x=some .local:=by first | exact .inl rfl | exact .inr rfl | assumption):GS X E (.Assign [.Name x pos'] e pos) (CN i m):=sB hN hi hx he hs hf
theorem Vr(i:Nat)(hN:X.N.Nodup)(hp:PIp X op (ipI g))(he:GE X E e m)(hi:X.N[i]?=some x:=by rfl)(hx:Loc X.env.scope x:=by first | exact PX rfl | exact OB rfl)
  (hf:X.fn x=true∨X.env.scope.names.lookup x=some .local:=by first | exact .inl rfl | exact .inr rfl | assumption):GS X E (.AugAssign (.Name x pos') op e pos) (Te i g m):=sC hN hi hx hp he hf
end
end L2
namespace PySem
open Sem (wp)
def jk(prog:Bh)(w:CH)(A:CM)(op:CmpOp)(P:Nat->AI->Prop)(bt:Nat->Nat->Bool)(J:C9->Prop):Prop:=
 ∀i j vi vj (s:AR) (Q E:AI->AR->Prop),J s.heap->P i vi->P j vj->Q (.bool (bt i j)) s->Af (Ao prog w) A (jy op vi vj) Q E s
section
def Y7(wr:List AW)(B:AW)(h h':C9):Prop:=∀b o,b∉wr->b≠B->h.get? b=some o->h'.get? b=some o
theorem aA(W:Walks prog w A.in1 z fp wr n P St)(hJ:∀h h',J h->Y7 wr B h h'->J h')(cm:jk prog w A.in1 .Lt P bt J)(nf:B∉fp)(m:Nat) :
  ∀(j:Nat) (s:AR) (x:AI) (c:Nat),j+1+m=n->J s.heap->St (j+1) s.heap->P (Gp bt j) x->s.heap.get? B=some { cls:=.type "list",dict:=none,data:=.seq #[x,x] c,slots:=#[] } ->
   (∀v h' tk,P (Gp bt (n - 1)) v->Y7 wr B s.heap h'->R (.ok (.ret v)) { s with heap:=h',toks:=tk })->ND (Ao prog w) A (.builtin "min.loop" ⟨[.ref z,.none,.ref B],[]⟩) R s:=by
 have nw:B∉wr:=λh=>nf (W.sub _ h)
 have nm:(toString "min"++toString ".loop" : String) = "min.loop":=by decide
 induction m with
 | zero=>
  intro j s x c e hj st hx hB k;have e':j+1=n:=e;refine PV Uo ?_;rw[OE FI _];refine(show Af _ A.in1 (V8 (.ref B) >>= _) _ _ s from AB (Lr hB rfl ?_));refine(show Af _ A.in1 (tryCatch (Lv (.ref z)) _ >>= _) _ _ s from AB (QV (W.done s _ _ (e'▸st) λh1 tk wy=>?_)));have zh:=wy B _ nw hB;refine(show Af _ A.in1 (updateSeq B (λ_=>#[]) >>= _) _ _ _ from AB (Xe zh rfl (AB (XZ (AM ?_)))))
  exact k x _ tk (by rw[<-e'];exact hx) λb o q1 q2 q3=>(B1 _ _ (Bs q2)).trans (wy b o q1 q3)
 | succ m ih=>
  intro j s x c e hj st hx hB k
  have lt:j+1 < n:=by lia
  refine PV Uo ?_;rw[OE FI _];refine(show Af _ A.in1 (V8 (.ref B) >>= _) _ _ s from AB (Lr hB rfl ?_));refine(show Af _ A.in1 (tryCatch (Lv (.ref z)) _ >>= _) _ _ s from AB (QV (W.item (j+1) s _ _ lt st λy h1 tk hy w5 wy=>?_)));have zh:=wy B _ nw hB
  have xV:J h1:=hJ _ _ hj λb o q1 _ q3=>wy b o q1 q3
  refine(show Af _ A.in1 (tryCatch (Oq [y,y] (jy .Lt y x >>= _)) _ >>= _) _ _ _ from AB (QV (E8 (AB (cm (j+1) (Gp bt j) y x _ _ _ xV hy hx ?_)))));refine AB (E8 (DC ?_));refine AB (XZ (AM ?_))
  cases hb:bt (j+1) (Gp bt j)with
  | true=>
   simp only[if_true];refine AB ?_;refine Xe zh rfl (AB (XZ ?_));rw[nm]
   have up:Y7 wr B h1 (h1.update B λo=>{ o with data:=.seq #[y,y] (c+1) }):=λb o _ q2 q3=>(B1 _ _ (Bs q2)).trans q3
   refine AM ⟨R9 FI _,ih (j+1) _ y _ (by lia) (hJ _ _ xV λb o _ q2 q3=>(B1 _ _ (Bs q2)).trans q3) (W.frame _ _ _ w5 λb q o q3=>(B1 _ _ λh:B=b=>nf (by rw[h];exact q)).trans q3) (by simp only[Gp,hb,if_true];exact hy) (Fn _ zh rfl) λv h2 χ hv wa=>?_⟩
   exact k v h2 χ hv λb o q1 q2 q3=>wa b o q1 q2 ((B1 _ _ (Bs q2)).trans (wy b o q1 q3))
  | false=>
   simp only[Bb,if_false];refine AB (XZ ?_);rw[nm];refine AM ⟨R9 FI _,ih (j+1) _ x c (by lia) xV w5 (by simp only[Gp,hb,Bb,if_false];exact hx) zh λv h2 χ hv wa=>?_⟩
   exact k v h2 χ hv λb o q1 q2 q3=>wa b o q1 q2 (wy b o q1 q3)
theorem Tx
  (h:Af (Ao prog w) A.in1 (e8 x) (λit s2=>∃z fp wr n P St bt J,it=.ref z/\Walks prog w A.in1 z fp wr n P St/\St 0 s2.heap/\(∀b∈fp,b < s2.heap.objs.size)/\0 < n/\jk prog w A.in1 .Lt P bt J/\J s2.heap/\(∀h h',J h->Y7 wr s2.heap.objs.size h h'->J h') /\
   ∀v h' tk,P (Gp bt (n - 1)) v->(∀b o,b∉wr->s2.heap.get? b=some o->h'.get? b=some o)->Q v { s2 with heap:=h',toks:=tk }) E s):Af (Ao prog w) A (call (.builtin "min") [x]) Q E s:=by
 have nm:(toString "min"++toString ".loop" : String) = "min.loop":=by decide
 refine call_function_tree F.kind_min F.plain_min F.entry_min (F.args_min1 _) ?_;refine(show Af _ A.in1 (OV "min" ["key", "default"] 0 ⟨[],[]⟩ >>= _) _ _ s from AB (XY (show OV "min" ["key", "default"] 0 ⟨[],[]⟩=pure [none,none]from rfl) ?_));refine AB (AM (AB (Em h (λit s2 h2=>?_) λ_ _ e=>e)));obtain⟨z,fp,wr,n,P,St,bt,J,rfl,W,st,hf,hn,cm,hj,hJ,k⟩:=h2
 have nf:s2.heap.objs.size∉fp:=λq=>Cj _ (hf _ q)
 have nw:s2.heap.objs.size∉wr:=λq=>nf (W.sub _ q)
 refine AB (Ch ?_);rw[nm];refine AM ⟨R9 FI _,?_⟩;refine PV Uo ?_;rw[OE FI _];refine(show Af _ A.in1 (V8 (.ref s2.heap.objs.size) >>= _) _ _ _ from AB (Lr (Ad _ rfl) rfl ?_));refine(show Af _ A.in1 (tryCatch (Lv (.ref z)) _ >>= _) _ _ _ from AB (QV (W.item 0 _ _ _ hn (W.frame _ _ _ st λb _ o e=>AN _ e) λy h1 tk hy w5 wy=>?_)));have zh:=wy _ _ nw (Ad _ rfl)
 have old:∀b o,b∉wr->s2.heap.get? b=some o->b≠s2.heap.objs.size/\h1.get? b=some o:=λb o q1 q2=>⟨BF (Ae q2),wy b o q1 (AN _ q2)⟩
 refine(show Af _ A.in1 (updateSeq s2.heap.objs.size (λ_=>#[y,y]) >>= _) _ _ _ from AB (Xe zh rfl ?_));rw[nm];refine AM ⟨R9 FI _,aA W hJ cm nf (n - 1) 0 _ y _ (by lia) (hJ _ _ hj λb o q1 q2 q3=>(B1 _ _ (Bs q2)).trans (old b o q1 q3).2) (W.frame _ _ _ w5 λb q o q3=>(B1 _ _ λh:s2.heap.objs.size=b=>nf (by rw[h];exact q)).trans q3) hy (Fn _ zh rfl) λv h2 χ hv wa=>?_⟩
 exact k v h2 χ hv λb o q1 q3=>wa b o q1 (old b o q1 q3).1 ((B1 _ _ (Bs (old b o q1 q3).1)).trans (old b o q1 q3).2)
end
end PySem
namespace L2
open PySem PySem.Spec PyProof.Rows
section
variable{X:Cx}{e:Expr}
def Ve:List D->Option (List (List Int))
 | []=>some []
 | .tup xs :: ds=>match JQ xs,Ve ds with
  | some r,some rs=>some (r :: rs)
  | _,_=>none
 | _ :: _=>none
theorem YM:∀{ds:List D} {rs:List (List Int)},Ve ds=some rs->rs.length=ds.length/\∀(i:Nat) d,ds[i]?=some d->d=.tup ((rs.getD i []).map D.int)
 | [],rs,h=>by cases h;exact⟨rfl,λi d h=>by simp at h⟩
 | d :: ds,rs,h=>by
  cases d with
  | tup xs=>
   unfold Ve at h;split at h
   ·rename_i r rs' h1 h2
    cases h;obtain⟨l,a⟩:=YM h2;refine⟨by simp[l],λi d hd=>?_⟩
    cases i with
    | zero=>cases hd;rw[Nn h1];rfl
    | succ i=>exact a i d hd
   ·cases h
  | _=>cases h
def Z9(ds:List D)(S:Sto):Res D:=match Ve ds with
 | some rs=>match ds[Gp (λi j=>HT.lexLt (rs.getD i []) (rs.getD j [])) (rs.length - 1)]? with
  | some d=>.ok d S
  | none=>.bad
 | none=>.bad
def oV(K:AG):List V->Hp->VK->Prop:=λxs H Q=>∃(a:AW) (vs:List V) (rs:List (List Int)) (v:V),xs=[.ref a]/\(SqL K H a vs∨SqT K H a vs)/\vs.length=rs.length/\(∀(i:Nat) u,vs[i]?=some u->∃b,u=.ref b/\SqT K H b ((rs.getD i []).map V.int))/\vs[Gp (λi j=>HT.lexLt (rs.getD i []) (rs.getD j [])) (rs.length - 1)]?=some v/\Q v H
theorem eL(hc:X.calm=true)(hu:X.A.units+64 < E4):KI X (.builtin "min") (oV X.K):=by
 intro ζ s σ H xs us Q I r h;obtain⟨a,vs,rs,v,rfl,sq,hl,tp,hv,q⟩:=h;obtain⟨u,rfl,ru⟩:=vals1 r;cases ru;have hh:=I.ok.hd hc
 have at_:∀tx:List AI,Bw vs tx->∀(i:Nat) (x:AI),tx[i]?=some x->∃b,x=.ref b/\∃ts:List AI,s.heap.IsTuple b ts.toArray/\EF ts (rs.getD i []):=λtx rv i x hx=>by
  obtain⟨y,hy,ry⟩:∃y,vs[i]?=some y/\RelV y x:=by
   have hi:i < tx.toArray.size:=by rw[Ah];exact(AC.mp hx).1
   obtain⟨y,h1,h2⟩:=Bw.at_ rv hi
   have:tx.toArray[i]=x:=by simpa using(AC.mp hx).2
   exact⟨y,h1,this▸h2⟩
  obtain⟨b,rfl,sb⟩:=tp i y hy;cases ry;obtain⟨ts,rt,pt,_⟩:=I.tuple sb;exact⟨b,rfl,ts,pt,intsAre_of rt⟩
 have pos:∀tx:List AI,Bw vs tx->0 < tx.toArray.size:=λtx rv=>by
  have h1:=(AC.mp hv).1;have h2:=rv.length;rw[Ah]
  lia
 have cmp:∀tx:List AI,Bw vs tx->jk X.prog X.w X.A.in1 .Lt (λi v=>tx.toArray[i]?=some v) (λi j=>HT.lexLt (rs.getD i []) (rs.getD j [])) (λh'=>∀b o,s.heap.get? b=some o->h'.get? b=some o):=λtx rv i j vi vj s' Q' E' hJ hi hj hq=>by
  obtain⟨b,rfl,ts,t1,n1⟩:=at_ tx rv i vi (by simpa using hi);obtain⟨b',rfl,ts',t2,n2⟩:=at_ tx rv j vj (by simpa using hj);obtain⟨o,ho,r1⟩:=t1;obtain⟨o',xS,r2⟩:=t2;exact HT.aF (A:=X.A.in1) ⟨o,hJ _ _ ho,r1⟩ ⟨o',hJ _ _ xS,r2⟩ (by simpa using n1) (by simpa using n2) (by rw[HG];lia) hq
 have stay:∀(o':Obj) (h1 h2:C9),(∀b o,s.heap.get? b=some o->h1.get? b=some o)->Y7 [s.heap.objs.size] (s.heap.push o').objs.size h1 h2->∀b o,s.heap.get? b=some o->h2.get? b=some o:=λo' h1 h2 q1 q2 b o e=>by
  have lb:=Ae e;refine q2 b o (λhm=>?_) (λhm=>?_) (q1 b o e)
  ·exact zX (AU.mp hm▸lb) (Cj _)
  ·rw[hm,C0]at lb
   exact zX (Nat.lt_of_succ_lt lb) (Cj _)
 have fin:∀(tx:List AI) (x:AI) (h':C9) (tk:Nat),Bw vs tx->tx.toArray[Gp (λi j=>HT.lexLt (rs.getD i []) (rs.getD j [])) (tx.toArray.size - 1)]?=some x->(∀b o,s.heap.get? b=some o->h'.get? b=some o)->EP X ζ σ Q x { s with heap:=h',toks:=tk }:=λtx x h' tk rv hx hk=>by
  rw[List.getElem?_toArray,Ah]at hx
  have hi:Gp (λi j=>HT.lexLt (rs.getD i []) (rs.getD j [])) (tx.length - 1) < tx.toArray.size:=by rw[Ah];exact(AC.mp hx).1
  obtain⟨y,h1,h2⟩:=Bw.at_ rv hi
  have e1:tx.toArray[Gp (λi j=>HT.lexLt (rs.getD i []) (rs.getD j [])) (tx.length - 1)]=x:=by simpa using(AC.mp hx).2
  rw[e1]at h2
  have e2:tx.length=rs.length:=by have:=rv.length;lia
  rw[e2,hv]at h1;cases h1;exact⟨_,H,I.kept hk,h2,q⟩
 rcases sq with sq | sq
 ·obtain⟨tx,rv,pl,hz⟩:=I.list sq
  have la:a < s.heap.objs.size:=by obtain⟨o,q,_⟩:=pl.isList;exact Ae q
  refine Tx (sv pl.isList ?_);exact⟨_,_,_,_,_,_,_,_,rfl,Walks.list (A:=X.A.in1) hh _ a (BF la) tx.toArray,⟨⟨_,Ad _ rfl,rfl,rfl⟩,pl.isList.push _⟩,oo la,pos tx rv,cmp tx rv,λb o e=>AN _ e,stay _,λx h' tk hx hk=>fin tx x h' tk rv hx (bY hk)⟩
 ·obtain⟨tx,rv,pl,hz⟩:=I.tuple sq
  have yP:s.heap.IsTuple a tx.toArray:=pl
  have la:a < s.heap.objs.size:=by obtain⟨o,q,_⟩:=yP;exact Ae q
  refine Tx (Dy yP ?_);exact⟨_,_,_,_,_,_,_,_,rfl,Walks.tuple (A:=X.A.in1) hh _ a (BF la) tx.toArray,⟨⟨_,Ad _ rfl,rfl,rfl⟩,yP.push _⟩,oo la,pos tx rv,cmp tx rv,λb o e=>AN _ e,stay _,λx h' tk hx hk=>fin tx x h' tk rv hx (bY hk)⟩
theorem lP:sj X.K (oV X.K) Z9:=λρ H S ds q xs d S' Q hs rr sq hm k=>by
 unfold Z9 at hm;split at hm
 ·rename_i rs hr
  obtain⟨hl,ha⟩:=YM hr;split at hm
  ·rename_i d' hd
   cases hm;obtain⟨v,hv,rv⟩:=rr.get hd;refine⟨q,xs,rs,v,rfl,sq,by rw[<-rr.length,hl],λi u hu=>?_,hv,k ρ H _ .refl hs rv⟩;obtain⟨x,hx,rx⟩:=rr.get' hu;have e:=ha i x hx;subst e
   cases rx with
   | tup a1 a2=>rw[YO a2]at a1;exact⟨_,rfl,.inl (.inl a1)⟩
  ·cases hm
 ·cases hm
theorem nD(hu:X.A.units+64 < E4)(hc:X.calm=true)(hg:Gl X "min") (hm:X.mg "min" = none) (h:GE X E e m) (he:AY [e] X.env=(false,Cc e X.env) :: AY [] X.env:=by rfl):GE X E (.Call (.Name "min" p) [e] [] pos) (mQ Z9 (Tz m)):=
 bv (eL hc hu) lP hg hm Sd (ip h) (by decide) (by decide) he
end
open PySem PySem.Spec PyProof.Rows
section
variable{X:Cx}{E:EW}{tg e:Expr}{K:AG}{ζ:List (AW×Obj)}{σ:St}{H:Hp}{s:AR}
def Itk(a:AW)(ob:Obj)(u:HO)(xs:List V):It:=
 ⟨λi H=>H a=some (.frz ob u)/\i < xs.length,λi H x H'=>H'=H/\xs[i]?=some x,λi H=>H a=some (.frz ob u)/\xs.length<=i⟩
theorem cq(hx:ob.ExactDict)(hd:ob.data=.dict es ep)(hv:Bw xs (es.toList.map (·.key))):Ud P w K tg (Itk a ob u xs) [it] it (λi h=>h.IsKeyIter it a i es.size ep) where
 mem:=by simp
 obj:=λi h st b hb=>by
  have e:b=it:=by simpa using hb
  subst e;obtain⟨o,e,c,d⟩:=st;exact⟨o,e,λv z=>by rw[d]at z;cases z⟩
 keep:=λi h h' st k=>st.at λo e=>k it (by simp) o e
 item:=by
  intro X hP hw hK hc i ζ s σ H E I hf st hg;subst hP hw hK;obtain⟨ha,hi⟩:=hg;obtain⟨g,_⟩:=(show DE X.prog X.w H s.heap a (.frz ob u)from I.hok a _ ha)
  have hs:xs.length=es.size:=by have:=hv.length;rw[AF,CF]at this;exact this
  have hi2:i < es.size:=by rw[<-hs];exact hi
  obtain⟨v,h1,h2⟩:=hv.get (Aa hi);rw[Ab,ZH,VY hi2]at h1;cases h1;obtain⟨f0,f1,f2,f3,f4,f5⟩:=hf it (by simp)
  refine Srt.YQ st ⟨ob,g,hx,hd⟩ hi2 λh' w5 sb=>?_
  have I1:Inv X ζ σ H { s with heap:=h' }:=I.turned (t':=s.toks) (λb o hb e=>(sb.2 b hb).trans e) f0 f1 f3 f4 f5;obtain⟨o,e,c,d⟩:=id w5;exact⟨_,rfl,Ys (s:={ s with heap:=h' }) e c d (by decide) ⟨_,H,I1,h2,⟨rfl,Aa hi⟩,w5,λb hb=>(hf b hb).1⟩⟩
 done:=by
  intro X hP hw hK hc i ζ s σ H E I hf st hg;subst hP hw hK;obtain⟨ha,hi⟩:=hg;obtain⟨g,_⟩:=(show DE X.prog X.w H s.heap a (.frz ob u)from I.hok a _ ha)
  have hs:xs.length=es.size:=by have:=hv.length;rw[AF,CF]at this;exact this
  obtain⟨f0,f1,f2,f3,f4,f5⟩:=hf it (by simp)
  exact Srt.bT (I.ok.hd hc) st ⟨ob,g,hx,hd⟩ (by rw[<-hs];exact hi) λh' eb=>⟨rfl,I.turned (t':=s.toks) (λb o hb e=>eb b o hb e) f0 f1 f3 f4 f5⟩
 self:=λ_ _ _ _ _ st h=>jt st h
theorem nV:∀{l:List RL} {us:List (Key×AI)} {f':List (Key×V)},Pairs (Ew P w) l us->KV f' us->Bw (f'.map λx=>kV x.1) (l.map (·.key)):=by
 intro l us f' hp
 induction hp generalizing f' with
 | nil=>intro h;cases h;exact .nil
 | cons q1 q2 _ ih=>
  intro h
  cases h with
  | cons r t=>
   refine .cons ?_ (ih t);dsimp only;rw[r.1]
   rcases Dt q1 with⟨i,t,e1,e2⟩ | ⟨x,t,e1,e2⟩
   ·rw[e1,e2];exact⟨t,rfl⟩
   ·rw[e1,e2];exact⟨t,rfl⟩
theorem jJ:∀{f':List (List Key×V)} {xs:List (List Key×AW×AI)},HC (λ(p:List Key×V) (q:List Key×AW×AI)=>p.1=q.1/\H q.2.1=some (.tup (p.1.map kV))/\RelV p.2 q.2.2) f' xs->HC (λ(k:List Key×V) b=>H b=some (.tup (k.1.map kV))) f' (xs.map (·.2.1)):=by
 intro f' xs h
 induction h with
 | nil=>exact .nil
 | cons r _ ih=>exact .cons r.2.1 ih
theorem dL(l:List AW):Bw (l.map V.ref) (l.map BM):=by
 induction l with
 | nil=>exact .nil
 | cons a l ih=>exact .cons rfl ih
def iDct(tl:TE):TI:=λσ H R=>tl σ H λx H1=>∃a ob,x=.ref a/\((∃f',H1 a=some (.frz ob (.dK f'))/\R (Itk a ob (.dK f') (f'.map λx=>kV x.1)) H1) ∨
 ∃f',H1 a=some (.frz ob (.dT f'))/\∀bs,HC (λ(k:List Key×V) b=>H1 b=some (.tup (k.1.map kV))) f' bs->R (Itk a ob (.dT f') (bs.map V.ref)) H1)
theorem ly(hl:PE X l tl):PI X tg l (iDct tl):=by
 intro ζ s σ H R I h
 refine thn (hl ζ s σ H _ I h) λv s1 ⟨x,H1,I1,r1,q1⟩=>?_
 obtain⟨a,ob,e,q⟩:=q1;subst e;cases r1
 have fin:∀{u:HO} {xs:List V} {es:Array RL} {ep:Nat},(a==EI)=false->s1.heap.get? a=some ob->ob.ExactDict->ob.data=.dict es ep->Bw xs (es.toList.map (·.key))->R (Itk a ob u xs) H1 ->
   Af (Ao X.prog X.w) X.A (e8 (.ref a)) (PIE X ζ σ tg R) X.xe s1:=λsm g g2 g3 hv q=>by
  refine Srt.YR sm ⟨ob,g,g2,g3⟩ ?_;refine⟨s1.heap.objs.size,[s1.heap.objs.size],_,_,H1,rfl,I1.kept (t':=s1.toks) λb o e=>AN _ e,cq g2 g3 hv,⟨_,Ad _ rfl,rfl,rfl⟩,λb hb=>?_,q⟩
  have e:b=s1.heap.objs.size:=by simpa using hb
  subst e;exact I1.fpOk (AL _) (I1.hok.fresh (AL _))
 rcases q with⟨f',ha,q⟩ | ⟨f',ha,q⟩
 ·obtain⟨g,hz,sm,us,kv,o,es,ep,g1,g2,g3,g5,g6,_⟩:=(show DE X.prog X.w H1 s1.heap a (.frz ob (.dK f'))from I1.hok a _ ha)
  rw[g]at g1;cases g1;exact fin sm g g2 g3 (nV g6 kv) q
 ·obtain⟨g,hz,sm,xs,rr,o,es,ep,g1,g2,g3,g4,_⟩:=(show DE X.prog X.w H1 s1.heap a (.frz ob (.dT f'))from I1.hok a _ ha)
  rw[g]at g1;cases g1
  have hk:es.toList.map (·.key)=(xs.map (·.2.1)).map BM:=by
   rw[g4,BL,BL];rfl
  exact fin sm g g2 g3 (by rw[hk];exact dL _) (q _ (jJ rr))
def Ym(d:D)(S:Sto):Option (List D):=match d with
 | .ref n=>match S[n]? with
  | some (.fK f')=>some (f'.map λx=>aJ x.1)
  | some (.fT f')=>some (f'.map λx=>.tup (x.1.map aJ))
  | _=>none
 | _=>none
def bu(m:ME):MI:=λe S=>(m e S).bind λd S1=>match Ym d S1 with
 | some ds=>.ok (Gx ds) S1
 | none=>.bad
theorem Sw(ha:H a=some (.frz ob u))(h2:Ax K ρ H ds xs):Mu K ρ H (Itk a ob u xs) (Gx ds):=by
 intro ρ2 H2 S xm i l s hv;cases hv;have rr:=h2.mono l;have ha2:=l.frz _ _ _ ha;refine⟨λhn=>⟨ha2,by rw[<-rr.length];exact Dc.mp hn⟩,λd hd=>?_⟩;obtain⟨x,hx,rx⟩:=rr.get hd;refine⟨⟨ha2,(AC.mp hx).1⟩,λy H' ⟨e,hy⟩=>?_⟩;subst e;rw[hx]at hy;cases hy;exact⟨ρ2,.refl,s,rx⟩
theorem nA(h:GE X E e m):GI X E tg e (bu m):=(ly h).imp λσ H R ⟨ρ,l,S,hl,hs,hm⟩=>by
 refine⟨ρ,l,S,hl,hs,hm.seq λd S1 hm ρ1 H1 x l1 s1 r1=>?_⟩
 cases hq:Ym d S1 with
 | none=>rw[hq]at hm;exact hm.elim
 | some ds=>
  rw[hq]at hm
  cases r1 with
  | @ref n a hn=>
   obtain⟨o,ho,ro⟩:=s1.there hn;unfold Ym at hq;simp only[ho]at hq
   cases o with
   | fK f'=>
    cases hq;obtain⟨ob,vs,e,rr⟩:=ro;exact⟨a,ob,rfl,.inl ⟨vs,e,hm ρ1 H1 _ l1 s1 (Sw e (P5 rr))⟩⟩
   | fT f'=>
    cases hq;obtain⟨ob,vs,e,rr⟩:=ro;exact⟨a,ob,rfl,.inr ⟨vs,e,λbs hb=>hm ρ1 H1 _ l1 s1 (Sw e (UD rr hb))⟩⟩
   | _=>cases hq
  | _=>cases hq
theorem Inv.fz(I:Inv X ζ σ H s)(hg:s.heap.get? a=some ob)(ha:H a=some u)(mu:Mut (some u)):Inv X ζ σ (upd H a (.frz ob u)) s:=by
 have nn:∀b,H b=none->b≠a:=λb h z=>by subst z;rw[ha]at h;cases h
 have nm:∀b o,H b=some o->¬Mut (some o)->b≠a:=λb o h n z=>by subst z;rw[ha]at h;cases h;exact n mu
 have st:∀b o,DE X.prog X.w H s.heap b o->DE X.prog X.w (upd H a (.frz ob u)) s.heap b o:=λb o x=>
  x.stay (λ_ _ _ q=>q) (λc r=>by rw[Bi (nm c _ r λz=>z)];exact r) λc xs r=>by rw[Bi (nm c _ r λz=>z)];exact r
 refine⟨I.ok,I.os,I.bare,⟨I.base.keep,I.base.slot,λb o q n hx=>?_,I.base.there,λb xs q=>?_,λb o xs q=>?_,λb ps q=>?_⟩,I.loc,I.cell,?_,λx c q=>?_,λp hp=>?_,λb o q=>?_,I.len⟩
 ·have:=I.base.free b o q n hx
  rw[Bi (nn b this)];exact this
 ·have:=I.base.tups b xs q
  rw[Bi (nm b _ this λz=>z)];exact this
 ·have:=I.base.frzs b o xs q
  rw[Bi (nm b _ this λz=>z)];exact this
 ·obtain⟨more,this⟩:=I.base.tbls b ps q
  exact⟨more,by rw[Bi (nm b _ this λz=>z)];exact this⟩
 ·rw[Bi (nn _ I.free)];exact I.free
 ·rw[Bi (nn _ (I.freeC x c q))];exact I.freeC x c q
 ·obtain⟨h1,h2,h3⟩:=I.pin p hp
  exact⟨h1,by rw[Bi (nn _ h2)];exact h2,h3⟩
 ·by_cases hb:b=a
  ·subst hb
   rw[B0]at q;cases q;exact⟨hg,st b u (I.hok b u ha)⟩
  ·rw[Bi hb]at q
   exact st b o (I.hok b o q)
def fzO:Ob->Option Ob
 | .dK f'=>some (.fK f')
 | .dT f'=>some (.fT f')
 | .fK f'=>some (.fK f')
 | .fT f'=>some (.fT f')
 | _=>none
def sFz(i:Nat):MS:=λe S=>match e[i]? with
 | some (some (.ref n))=>match S[n]? with
  | some o=>match fzO o with
   | some o'=>.ok (.nx e) (S.set n o')
   | none=>.bad
  | none=>.bad
 | _=>.bad
theorem YE{S:Sto}{n:Nat}{o:Ob}(h:S[n]?=some o):S.set n o=S:=by
 apply LX
 intro j;rw[D1];split
 ·rename_i c
  subst c;split
  ·exact h.symm
  ·rename_i c;rw[CC (Kr.mp c)]at h;cases h
 ·rfl
theorem vS{i:Nat}{st:DK}{ms:MS}(h:GS X E st ms):GS X E st (BE (sFz i) ms):=λζ s σ H D I ⟨ρ,l,S,hl,hs,hm⟩=>by
 cases hx:l[i]? with
 | none=>unfold BE sFz at hm;rw[hx]at hm;exact hm.elim
 | some x=>
  cases x with
  | none=>unfold BE sFz at hm;rw[hx]at hm;exact hm.elim
  | some d=>
   cases d with
   | ref n=>
    cases ho:S[n]? with
    | none=>unfold BE sFz at hm;rw[hx]at hm;dsimp only at hm;rw[ho]at hm;exact hm.elim
    | some o=>
     cases hf:fzO o with
     | none=>unfold BE sFz at hm;rw[hx]at hm;dsimp only at hm;rw[ho]at hm;dsimp only at hm;rw[hf]at hm;exact hm.elim
     | some o'=>
      have w8:Cb X.K noH ρ H (ms l (S.set n o')) λfl S'=>R4 X.K E ρ H S' D fl:=by
       unfold BE sFz at hm;rw[hx]at hm;dsimp only at hm;rw[ho]at hm;dsimp only at hm;rw[hf]at hm;exact hm
      obtain⟨a,hn,ro⟩:=hs.at ho
      have fr:∀u,H a=some u->Mut (some u)->(∃ob,s.heap.get? a=some ob)->(∀ob,Ea X.K ρ (upd H a (.frz ob u)) a o')->Af (Ao X.prog X.w) X.A (exec st X.env) _ _ s:=λu ha mu ⟨ob,hg⟩ ra=>by
       have le:Le X.K ρ H ρ (upd H a (.frz ob u)):=Le.write hn (by rw[ha];exact mu);obtain⟨s5,_⟩:=hs.write hn (ra ob) le;exact h ζ s σ _ D (I.fz hg ha mu) ⟨ρ,l,_,hl.mono le,s5,w8.go le λ_ _ k=>k.later le⟩
      cases o with
      | dK f'=>
       cases hf;obtain⟨vs,e,rr⟩:=ro
       refine fr _ e trivial ?_ λob=>⟨ob,vs,B0,KVR.mono (Le.write hn (by rw[e];trivial)) rr⟩
       obtain⟨_,_,_,_,o,_,_,e,_⟩:=(show DE X.prog X.w H s.heap a (.dK vs)from I.hok a _ e);exact⟨o,e⟩
      | dT f'=>
       cases hf;obtain⟨vs,e,rr⟩:=ro
       refine fr _ e trivial ?_ λob=>⟨ob,vs,B0,KVR.mono (Le.write hn (by rw[e];trivial)) rr⟩
       obtain⟨_,_,_,_,o,_,_,e,_⟩:=(show DE X.prog X.w H s.heap a (.dT vs)from I.hok a _ e);exact⟨o,e⟩
      | fK f'=>cases hf;rw[YE ho]at w8;exact h ζ s σ H D I ⟨ρ,l,S,hl,hs,w8⟩
      | fT f'=>cases hf;rw[YE ho]at w8;exact h ζ s σ H D I ⟨ρ,l,S,hl,hs,w8⟩
      | _=>cases hf
   | _=>unfold BE sFz at hm;rw[hx]at hm;exact hm.elim
end
open PySem PySem.Spec PyProof.Rows
section
variable{K:AG}{ρ ρ':List AW}{H H':Hp}{S:Sto}{L:Key->Int}{m n:Nat}{a:AW}
mutual
theorem CA.cut(p:∀(n:Nat) a,ρ[n]?=some a->ρ'[n]?=some a):∀{d:D} {v v':V},CA K ρ H d v->CA K ρ' H' d v'->CA K ρ H' d v'
 | _,_,_,.non,.non=>.non
 | _,_,_,.bl _,.bl b=>.bl b
 | _,_,_,.int _,.int i=>.int i
 | _,_,_,.str _,.str x=>.str x
 | _,_,_,.tup _ r,.tup h r'=>.tup h (Ax.cut p r r')
 | _,_,_,.fro _ r,.fro h r'=>.fro h (Ax.cut p r r')
 | _,_,_,.ref h,.ref h'=>by
  have e:=(p _ _ h).symm.trans h';cases e;exact .ref h
 | _,_,_,.exc _ _,.exc h e=>.exc h e
theorem Ax.cut(p:∀(n:Nat) a,ρ[n]?=some a->ρ'[n]?=some a):∀{d:List D} {v v':List V},Ax K ρ H d v->Ax K ρ' H' d v'->Ax K ρ H' d v'
 | _,_,_,.nil,.nil=>.nil
 | _,_,_,.cons r t,.cons r' t'=>.cons (CA.cut p r r') (Ax.cut p t t')
end
theorem KVR.cut(p:∀(n:Nat) a,ρ[n]?=some a->ρ'[n]?=some a):∀{x:List (κ×D)} {y z:List (κ×V)},KVR K ρ H x y->KVR K ρ' H' x z->KVR K ρ H' x z
 | _,_,_,.nil,.nil=>.nil
 | _,_,_,.cons r t,.cons r' t'=>.cons ⟨r'.1,r.2.cut p r'.2⟩ (KVR.cut p t t')
theorem Ea.cut(p:∀(n:Nat) a,ρ[n]?=some a->ρ'[n]?=some a)(h:Ea K ρ H a o)(h':Ea K ρ' H' a o):Ea K ρ H' a o:=by
 cases o with
 | lst ds=>obtain⟨_,_,r⟩:=h;obtain⟨vs,e,r'⟩:=h';exact⟨vs,e,r.cut p r'⟩
 | dK ds=>obtain⟨_,_,r⟩:=h;obtain⟨vs,e,r'⟩:=h';exact⟨vs,e,KVR.cut p r r'⟩
 | dT ds=>obtain⟨_,_,r⟩:=h;obtain⟨vs,e,r'⟩:=h';exact⟨vs,e,KVR.cut p r r'⟩
 | ins C ds=>obtain⟨_,_,_,r⟩:=h;obtain⟨dx,vs,e,r'⟩:=h';exact⟨dx,vs,e,KVR.cut p r r'⟩
 | fK ds=>obtain⟨_,_,_,r⟩:=h;obtain⟨dx,vs,e,r'⟩:=h';exact⟨dx,vs,e,KVR.cut p r r'⟩
 | fT ds=>obtain⟨_,_,_,r⟩:=h;obtain⟨dx,vs,e,r'⟩:=h';exact⟨dx,vs,e,KVR.cut p r r'⟩
 | mem L=>exact h'
def oA(L:Key->Int)(f':List (Key×D)):Prop:=(f'.map (·.1)).Nodup/\∀x∈f',x.1∈W2/\x.2=D.int (L x.1)
theorem ba:∀{f':List (Key×V)},(∀x∈f',x.2=V.int (L x.1))->KVR K ρ H (f'.map λx=>(x.1,D.int (L x.1))) f'
 | [],_=>.nil
 | (k,v) :: l,h=>.cons ⟨rfl,by rw[show v=V.int (L k)from h _ (AT ..)];exact .int _⟩ (ba λx hx=>h x (AS _ hx))
theorem Yl:∀{f':List (Key×D)} {us:List (Key×V)},KVR K ρ H f' us->(∀x∈f',x.1∈W2/\x.2=D.int (L x.1))->∀x∈us,x.1∈W2/\x.2=V.int (L x.1)
 | _,_,.nil,_,x,hx=>by cases hx
 | (k,d) :: l,(k',v) :: us,.cons r t,h,x,hx=>by
  rcases AZ.mp hx with rfl | hx
  ·obtain⟨e,r⟩:=r
   dsimp only at e r ⊢;subst e;obtain⟨h1,h2⟩:=h _ (AT ..);dsimp only at h1 h2;rw[h2]at r;cases r;exact⟨h1,rfl⟩
  ·exact Yl t (λy hy=>h y (AS _ hy)) x hx
theorem bn(r:KVR K ρ H f' us)(h:oA L f'):(us.map (·.1)).Nodup/\∀x∈us,x.1∈W2/\x.2=V.int (L x.1):=⟨by rw[<-KVR.keys r];exact h.1,Yl r h.2⟩
theorem CP.swap(s:CP K ρ S H)(hm:S[m]?=some o)(h:∀a,ρ[m]?=some a->Ea K ρ H a o->Ea K ρ H a o'):CP K ρ (S.set m o') H:=
 ⟨by rw[D5];exact s.len,s.nd,λj q b hj hb=>by
  rw[D1]at hj;split at hj
  ·rename_i c
   subst c;split at hj
   ·cases hj;exact h b hb (s.ob m o b hm hb)
   ·cases hj
  ·exact s.ob j q b hj hb⟩
end
def lmI:Res D->Int
 | .ok (.int z) _=>z
 | _=>0
def sQ(x:Str)(q:Nat)(S:Sto):Option Str:=match S[q]? with
 | some (.ins _ fs)=>match fs.lookup x with
  | some (.str y)=>some y
  | _=>none
 | _=>none
def Vn(x:Str)(ds:List D)(S:Sto):Option Nat:=match ds with
 | .ref q :: _=>match S[q]? with
  | some (.ins _ fs)=>match fs.lookup x with
   | some (.ref m)=>some m
   | _=>none
  | _=>none
 | _=>none
def ox(f:List D->Sto->Res D)(ds:List D)(S:Sto)(m:Nat)(L:Key->Int)(z:Int):Prop:=
 ∀f',oA L f'->∃S' w6,f ds (S.set m (.dK f'))=.ok (.int z) S'/\S'[m]?=some (.dK w6)/\oA L w6/\∀n,n < S.length->n≠m->S'[n]?=S[n]?
open Classical in
def n8(x:Str)(f:List D->Sto->Res D)(ds:List D)(S:Sto):Res D:=match Vn x ds S with
 | some m=>match S[m]? with
  | some (.mem L)=>match f ds (S.set m (.dK []))with
   | .ok (.int z) _=>if ox f ds S m L z then .ok (.int z) S else .bad
   | _=>.bad
  | _=>.bad
 | none=>.bad
def mZ(x:Str)(Lf:List D->Sto->Key->Int)(f:List D->Sto->Res D)(ds:List D)(S:Sto):Res D:=match f ds S with
 | .ok .non S'=>match Vn x ds S' with
  | some m=>match S'[m]? with
   | some (.dK [])=>.ok .non (S'.set m (.mem (Lf ds S')))
   | _=>.bad
  | none=>.bad
 | _=>.bad
section
variable{P:Bh}{w:CH}{K:AG}{mg:Str->Option AI}{base:C9}{CX:CXT}{k n:Nat}{fa:AW}{fd:Lz}{ps:List Str}{x:Str}{f:List D->Sto->Res D}{Lf:List D->Sto->Key->Int}
theorem sP(F:Cq P w K mg base CX k fa fd ps (spM K n f)):Cq P w K mg base CX k fa fd ps (spM K n (n8 x f)):=F.imp λvs H Q E ⟨ρ,ds,S,h1,h2,h3,h4⟩=>by
 unfold n8 at h4;split at h4
 ·rename_i m hm
  split at h4
  ·rename_i L hL
   split at h4
   ·rename_i z S0 hz
    split at h4
    ·rename_i hA
     obtain⟨a,ha,f',e,hn,hc⟩:=h3.at hL
     obtain⟨S',w6,hf,υ,wV,hk⟩:=hA (f'.map λx=>(x.1,D.int (L x.1))) ⟨by rw[BL];exact hn,λy hy=>by
      obtain⟨u,hu,rfl⟩:=Av.mp hy
      exact⟨(hc u hu).1,rfl⟩⟩
     refine⟨ρ,ds,S.set m (.dK (f'.map λx=>(x.1,D.int (L x.1)))),h1,h2,h3.swap hL (λb hb _=>⟨f',?_,ba λx hx=>(hc x hx).2⟩),?_⟩
     ·rw[ha]at hb;cases hb;exact e
     ·rw[hf]
      intro ρ' H' y l s r;cases r;refine h4 ρ H' _ ⟨λ_ _ h=>h,l.tup,l.frz,λa o e n=>⟨(l.oth a o e n).1,n⟩⟩ ⟨h3.len,h3.nd,λj o b hj hb=>?_⟩ (.int z);have wc:=l.pre j b hb
      by_cases c:j=m
      ·subst c
       rw[hL]at hj;cases hj;obtain⟨us,e3,r3⟩:=s.ob j _ b υ wc;exact⟨us,e3,bn r3 wV⟩
      ·exact(h3.ob j o b hj hb).cut l.pre (s.ob j o b ((hk j (AC.mp hj).1 c).trans hj) wc)
    ·exact h4.elim
   ·exact h4.elim
  ·exact h4.elim
 ·exact h4.elim
theorem nL(F:Cq P w K mg base CX k fa fd ps (spM K n f)):Cq P w K mg base CX k fa fd ps (spM K n (mZ x Lf f)):=F.imp λvs H Q E ⟨ρ,ds,S,h1,h2,h3,h4⟩=>by
 unfold mZ at h4;refine⟨ρ,ds,S,h1,h2,h3,?_⟩;split at h4
 ·rename_i S' hf
  split at h4
  ·rename_i m hm
   split at h4
   ·rename_i hL
    rw[hf];intro ρ' H' y l s r;exact h4 ρ' H' y l (s.swap hL λa ha ⟨us,e,r⟩=>⟨us,e,bn r ⟨EX,λ_ hx=>nomatch hx⟩⟩) r
   ·exact h4.elim
  ·exact h4.elim
 ·exact h4.elim
end
end L2
namespace L2
open PySem PySem.Spec PyProof.Rows PySem.W
section
variable{X:Cx}{k k' n:Nat}{x qual:Str}{st:DK}{ps:List Str}{p pos:Pos}{e:Expr}{es:List Expr}{ml:ML}{g:List D->Sto->Res D}
theorem gcl(D:Dfn X.K X.mg x qual st ps)(F:Cq X.prog X.w X.K X.mg X.base (CXG X.prog X.w) k D.f D.fd ps (spM X.K n g))(hr:IE k' X.A)(ha:GA X noE (e :: es) ml)(hk:k<=k':=by decide)(hx:X.xe=λ_ _=>False:=by rfl)(hg:Gl X x:=by rfl)
  (xu:(x==("__debug__" : Str))=false:=by decide) (he:AY (e :: es) X.env=(false,Cc e X.env) :: AY es X.env:=by rfl) (wI:(D6 pos (AY es X.env)).any (·.1)=false:=by rfl) :
  GE X noE (.Call (.Name x p) (e :: es) [] pos) (CB n g ml):=XD F (good_none hx).pass (hr.mono hk) hg D.m D.kp D.b ha xu he wI
end
abbrev FnAt(K:Frag)(x qual:Str)(st:DK)(f:AW):Prop:=∃(oc:AI) (od:Option AW) (kV doc pm:AI) (an:Option AW) (wg ct:AI) (yc:Array (Option AI)),
 K.lookup f=some ⟨oc,od,.func (fnOf x qual (Mm st) (Jb st) (BB st) .none kV doc pm an wg ct),yc⟩/\codeIn K wg qual=true/\keepIn K (.ref f)=true
abbrev D3(K:Frag)(x:Str)(st:DK)(f:AW):Prop:=Sa K BY x=some (some (.ref f))/\FnAt K x x st f
abbrev OA(K:Frag)(C:AW)(x qual:Str)(st:DK)(f:AW):Prop:=findIn K (.ref C) x=some (some (.ref f))/\isFn K (.ref f)=true/\FnAt K x qual st f
abbrev ClsAt(K:Frag)(x:Str)(C:AW):Prop:=Sa K BY x=some (some (.ref C))/\plainGet K C Str.empty=true/\hasDictIn K C=true/\plainOver K C=true/\findIn K (.ref C) "__setattr__" = some (some (.builtin "object.__setattr__"))/\makesIn K C=true/\keepIn K (.ref C)=true
def am(st:DK)(ps:List Str):Prop:=∀(x qual:Str) (kV doc pm:AI) (an:Option AW) (wg ct:AI) (us:List AI),us.length=ps.length->j4 (fnOf x qual (Mm st) (Jb st) (BB st) .none kV doc pm an wg ct) ⟨us,[]⟩=pure (ps.zip us)
section
variable{K:Frag}{h:C9}{mg:Str->Option AI}{x qual:Str}{st:DK}{f C:AW}{ps:List Str}{a b c d e:Str}
theorem FnAt.fd(z:FnAt K x qual st f):∃fd,Fun K x qual st f fd:=by
 obtain⟨oc,od,kV,doc,pm,an,wg,ct,yc,l,c,k⟩:=z;exact⟨_,i7 l c k⟩
def mkD(X:K.In h)(G:h.Ns BY mg)(z:D3 K x st f)(b:am st ps):Dfn K mg x x st ps:=⟨f,(FnAt.fd z.2).choose,(FnAt.fd z.2).choose_spec,(FnAt.fd z.2).choose_spec.binds (b x x),tE X G z.1⟩
def mkM(z:OA K C x qual st f)(b:am st ps):Mtd K x qual st ps:=⟨f,(FnAt.fd z.2.2).choose,(FnAt.fd z.2.2).choose_spec,(FnAt.fd z.2.2).choose_spec.binds (b x qual)⟩
theorem FnAt.kp(z:FnAt K x qual st f):keepIn K (.ref f)=true:=by
 obtain⟨oc,od,kV,doc,pm,an,wg,ct,yc,l,c,k⟩:=z;exact k
theorem mkE(z:OA K C x qual st f):VQ K C x f:=⟨z.1,z.2.1,FnAt.kp z.2.2⟩
theorem mkO(X:K.In h)(G:h.Ns BY mg)(z:ClsAt K y C)(i:OA K C "__init__" qual st f):Own K mg y C f:=⟨⟨z.2.1,z.2.2.1,z.2.2.2.1,z.2.2.2.2.1⟩,⟨z.2.2.2.2.2.1,i.1,i.2.1,z.2.2.2.2.2.2⟩,tE X G z.1⟩
abbrev bnd(st:DK)(ps:List Str)(us:List AI):Prop:=∀(x qual:Str) (kV doc pm:AI) (an:Option AW) (wg ct:AI),j4 (fnOf x qual (Mm st) (Jb st) (BB st) .none kV doc pm an wg ct) ⟨us,[]⟩=pure (ps.zip us)
theorem bd1(z:∀u,bnd st [a] [u]):am st [a]:=λx q k d p n c t us hl=>by obtain⟨u,rfl⟩:=rW hl;exact z u x q k d p n c t
theorem bd2(z:∀u v,bnd st [a,b] [u,v]):am st [a,b]:=λx q k d p n c t us hl=>by obtain⟨u,v,rfl⟩:=vH hl;exact z u v x q k d p n c t
theorem bd3(z:∀u v w,bnd st [a,b,c] [u,v,w]):am st [a,b,c]:=λx q k d p n c t us hl=>by obtain⟨u,v,w,rfl⟩:=vG hl;exact z u v w x q k d p n c t
theorem bd4(z:∀u v w y,bnd st [a,b,c,d] [u,v,w,y]):am st [a,b,c,d]:=λx q k d p n c t us hl=>by obtain⟨u,v,w,y,rfl⟩:=vF hl;exact z u v w y x q k d p n c t
theorem bd5(z:∀u v w y l,bnd st [a,b,c,d,e] [u,v,w,y,l]):am st [a,b,c,d,e]:=λx q k d p n c t us hl=>by obtain⟨u,v,w,y,l,rfl⟩:=len5 hl;exact z u v w y l x q k d p n c t
end
open PySem PySem.Spec PyProof.Rows
abbrev Cx.q(X:Cx):Cx:={ X with xe:=λ_ _=>False }
def D9(n:Nat)(mb:MS)(ds:List D)(S:Sto):Res D:=(okR (mb (JE n ds) S)).bind λf S1=>match f with
 | .rt d=>.ok d S1
 | .nx _=>.ok .non S1
 | _=>.bad
section
variable{P:Bh}{w:CH}{K:AG}{mg:Str->Option AI}{base:C9}
theorem nK{x qual}{st}{f}{fd}{N ps}{k n}(F:Fun K x qual st f fd)(Sc:BZ N ps (BB st))(hn:ps.length=n){mb}
  (xx:∀(wg:AI) (A:CM) (outer:List Env) (s:AR) (H:Hp) (E:XK),IE k (A.deeper (Os qual (BB st) s.heap.objs.size f wg))->GSs (aT (CXG P w) P w K mg base N qual (BB st) f wg A outer s H E).q noE (Jb st) mb) :
  Cq P w K mg base (CXG P w) (k+1) f fd ps (spM K n (D9 N.length mb)):=by
 obtain⟨oc,od,kV,doc,pm,an,wg,ct,yc,rfl,lk,xT⟩:=F.ex
 refine vV lk xT Sc (λvs H Q E h=>by rw[hn];exact h.len) λA outer s H vs Q E hr h=>?_
 obtain⟨ρ,ds,S,h1,h2,h3,h4⟩:=h;have hb:=xx wg A outer s H E hr;refine⟨gS K noE mb,λζ s' σ H' D I q=>Em (hb ζ s' σ H' D (I.with _) q) (λfl s1 z=>?_) λe s1 z=>z.elim,ρ,_,S,Zo h2,h3,?_⟩
 ·cases fl with
  | next=>obtain⟨σ',H2,J,z⟩:=z;exact⟨σ',H2,J.without,z⟩
  | brk=>obtain⟨σ',H2,J,z⟩:=z;exact⟨σ',H2,J.without,z⟩
  | cont=>obtain⟨σ',H2,J,z⟩:=z;exact⟨σ',H2,J.without,z⟩
  | ret u=>obtain⟨v,σ',H2,J,r,z⟩:=z;exact⟨v,σ',H2,J.without,r,z⟩
 ·unfold D9 at h4
  cases hr:mb (JE N.length ds) S with
  | bad=>rw[hr]at h4;exact h4.elim
  | err c S'=>rw[hr]at h4;exact h4.elim
  | ok fl S'=>
   rw[hr]at h4
   cases fl with
   | nx e'=>exact λρ' H' σ' l s' r=>h4 ρ' H' .non l s' .non
   | rt d=>exact h4
   | bk e'=>exact h4.elim
   | ct e'=>exact h4.elim
   | ex c e'=>exact h4.elim
end
def rIsQ(K:AG)(c:V)(cv:AI):List V->Hp->VK->Prop:=λxs H Q=>∃x t b,xs=[x,c]/\QP K H x t/\Fs K t cv=some b/\Q (.bl b) H
section
variable{E:EW}{e ce:Expr}{c:V}
theorem jW(hv:∀u,RelV c u->u=cv):KI X (.builtin "isinstance") (rIsQ X.K c cv):=by
 intro ζ s σ H xs us Q I r h;obtain⟨x,t,b,rfl,ty,e,q⟩:=h;obtain⟨v,w,rfl,r1,r2⟩:=vals2 r;rw[hv w r2]
 exact df I r1 ty e λtk=>⟨.bl b,H,I.tok tk,rfl,q⟩
def me(tab:String->Option Bool)(m:ME):ME:=λe S=>(m e S).bind λd S1=>match tyD d S1 with
  | some T=>match tab T with
   | some b=>.ok (.bl b) S1
   | none=>.bad
  | none=>.bad
theorem i4(hv:∀u,RelV c u->u=cv)(ht:∀T b,tab T=some b->Fs X.K (.type T) cv=some b)
  (hg:Gl X "isinstance") (hm:X.mg "isinstance" = none) (h:GE X E e m) (hce:PE X ce (tC c))
  (he:AY [e,ce] X.env=(false,Cc e X.env) :: AY [ce] X.env:=by rfl) (yO:AY [ce] X.env=(false,Cc ce X.env) :: AY [] X.env:=by rfl) (wI:(D6 pos (AY [ce] X.env)).any (·.1)=false:=by rfl) :
  GE X E (.Call (.Name "isinstance" p) [e,ce] [] pos) (me tab m):=
 (NZ (jW hv) hg hm wB (Gb h (Gb hce JG yO) he) (by decide) (by decide) he wI).imp λσ H Q ⟨ρ,l,S,hl,hs,hm⟩=>by
 refine⟨ρ,l,S,hl,hs,hm.seq λd S1 hm ρ1 H1 x l1 s1 r1=>?_⟩
 cases hq:tyD d S1 with
 | none=>rw[hq]at hm;exact hm.elim
 | some T=>
  rw[hq]at hm;dsimp only at hm
  cases hb:tab T with
  | none=>rw[hb]at hm;exact hm.elim
  | some b=>
   rw[hb]at hm;exact⟨x,_,b,rfl,pw s1 r1 hq,ht T b hb,hm ρ1 H1 _ l1 s1 (.bl _)⟩
end
end L2
namespace M
open PySem L2
abbrev oN(e:L2.Lo)(S:L2.Sto):L2.Res L2.Fl:=.ok (.nx e) S
abbrev sR(n:Nat):Option L2.D:=some (.ref n)
abbrev sI(i:Int):Option L2.D:=some (.int i)
abbrev sF(l:List Int):Option L2.D:=some (.fro (l.map L2.D.int))
theorem NW(h:mb (JE n ds) S=.ok (.rt d) S1):D9 n mb ds S=.ok d S1:=by unfold D9;rw[h];rfl
theorem Zx(h:mb (JE n ds) S=.ok (.nx e) S1):D9 n mb ds S=.ok .non S1:=by unfold D9;rw[h];rfl
abbrev mIs(tab:String->Option Bool)(_:AW->Option Bool)(m:ME):ME:=me tab m
theorem og(h:m e S=.ok d S1)(ht:tyD d S1=some T)(hb:tab T=some b):mIs tab tabC m e S=.ok (.bl b) S1:=by
 show me tab m e S=_;unfold me;rw[h];dsimp only[Res.bind];rw[ht];dsimp only;rw[hb]
end M
namespace L4
open PySem L2
inductive Cel where
 | no | fz (o:Ob) | ow (i:Nat)
abbrev Fz:=Nat->Cel
inductive Sl where
 | u | v (d:D) | z (o:Ob) | y (o:Ob) | w (i:Nat) (o:Ob) | q (P:(Nat->Option Ob)->D->Prop)
def Sl.ok(S0:Sto)(F:Fz)(S:Sto):Sl->Option D->Prop
 | .u,_=>True
 | .v d,x=>x=some d
 | .z o,x=>∃n,x=some (.ref n)/\F n=.fz o
 | .y o,x=>∃n,x=some (.ref n)/\F n=.fz o/\S0.length<=n
 | .w i o,x=>∃n,x=some (.ref n)/\F n=.ow i/\S[n]?=some o
 | .q P,x=>∃d,x=some d/\∀L:Nat->Option Ob,(∀n o,F n=.fz o->L n=some o)->P L d
structure Vs(S0:Sto)(A:List Sl)(e:Lo)(F:Fz)(S:Sto):Prop where
 kp:Keeps S0 S
 fz:∀n o,F n=.fz o->S[n]?=some o
 ow:∀n i,F n=.ow i->S0.length<=n/\n < S.length
 hi:∀n,S.length<=n->F n=.no
 sl:∀(i:Nat) (a:Sl),A[i]?=some a->∃x,e[i]?=some x/\a.ok S0 F S x
def Fle(F F':Fz):Prop:=∀n o,F n=.fz o->F' n=.fz o
theorem Fle.refl(F:Fz):Fle F F:=λ_ _ h=>h
theorem Fle.trans(a:Fle F G)(b:Fle G H):Fle F H:=λn o h=>b n o (a n o h)
def Q6(F:Fz)(S S':Sto):Fz:=λn=>if n < S.length then F n else match S'[n]? with
 | some o=>.fz o
 | none=>.no
section
variable{S0 S S':Sto}{A B:List Sl}{e:Lo}{F:Fz}{α β γ ρ σ τ:Type}
theorem GN(h:n < S.length):Q6 F S S' n=F n:=qX h
theorem Ny(h:S.length<=n)(ho:S'[n]?=some o):Q6 F S S' n=.fz o:=by
 unfold Q6;rw[qY (Kr.mpr h),ho]
theorem BW(h:S[n]?=some o):n < S.length:=(AC.mp h).1
theorem Sl.mono{S0:Sto}{F F':Fz}{S S':Sto}{a:Sl}{x:Option D}(h:a.ok S0 F S x)(h1:∀n o,F n=.fz o->F' n=.fz o)(h2:∀n i o,F n=.ow i->S[n]?=some o->F' n=.ow i/\S'[n]?=some o):a.ok S0 F' S' x:=by
 cases a with
 | u=>trivial
 | v d=>exact h
 | z o=>obtain⟨n,h3,h4⟩:=h;exact⟨n,h3,h1 _ _ h4⟩
 | y o=>obtain⟨n,h3,h4,h5⟩:=h;exact⟨n,h3,h1 _ _ h4,h5⟩
 | w i o=>obtain⟨n,h3,h4,h5⟩:=h;exact⟨n,h3,h2 _ _ _ h4 h5⟩
 | q P=>obtain⟨d,h3,h4⟩:=h;exact⟨d,h3,λL hL=>h4 L λn o q=>hL n o (h1 n o q)⟩
theorem Vs.fle(h:Vs S0 A e F S)(S':Sto):Fle F (Q6 F S S'):=λn o q=>by rw[GN (BW (h.fz n o q))];exact q
theorem Vs.grow(h:Vs S0 A e F S)(k:Keeps S S'):Vs S0 A e (Q6 F S S') S':=by
 refine⟨h.kp.trans k,λn o q=>?_,λn i q=>?_,λn hn=>?_,λi a ha=>?_⟩
 ·unfold Q6 at q
  split at q
  ·rename_i hn
   rw[k.2 n hn];exact h.fz n o q
  ·cases hs:S'[n]? with
   | none=>rw[hs]at q;cases q
   | some o'=>rw[hs]at q;cases q;rfl
 ·unfold Q6 at q
  split at q
  ·exact⟨(h.ow n i q).1,AV (h.ow n i q).2 k.1⟩
  ·cases hs:S'[n]? with
   | none=>rw[hs]at q;cases q
   | some o'=>rw[hs]at q;cases q
 ·unfold Q6
  rw[qY (Kr.mpr (Am k.1 hn)),CC hn]
 ·obtain⟨x,h1,h2⟩:=h.sl i a ha
  exact⟨x,h1,Sl.mono h2 (h.fle S') λn i o q1 q2=>⟨by rw[GN (BW q2)];exact q1,by rw[k.2 n (BW q2)];exact q2⟩⟩
theorem Vs.cons(h:Vs S0 A e F S)(hx:a.ok S0 F S x):Vs S0 (a :: A) (x :: e) F S:=
 ⟨h.kp,h.fz,h.ow,h.hi,λi b hb=>by
  cases i with
  | zero=>cases hb;exact⟨x,rfl,hx⟩
  | succ i=>exact h.sl i b hb⟩
theorem Vs.set(h:Vs S0 A e F S)(i:Nat)(hx:a.ok S0 F S x):Vs S0 (A.set i a) (e.set i x) F S:=
 ⟨h.kp,h.fz,h.ow,h.hi,λj b hb=>by
  by_cases c:i=j
  ·subst c
   rw[D1]at hb;rw[qX rfl]at hb;split at hb
   ·rename_i hl
    cases hb;obtain⟨y,hy,_⟩:=h.sl i (A[i]) (Aa hl);exact⟨x,by rw[D1];rw[qX rfl,qX (AC.mp hy).1],hx⟩
   ·cases hb
  ·rw[Ac c]at hb ⊢
   exact h.sl j b hb⟩
inductive Wk:List Sl->List Sl->Prop where
 | nil:Wk [] []
 | same {a:Sl} {A B:List Sl}:Wk A B->Wk (a :: A) (a :: B)
 | drop {a:Sl} {A B:List Sl}:Wk A B->Wk (a :: A) (.u :: B)
 | less {o:Ob} {A B:List Sl}:Wk A B->Wk (.y o :: A) (.z o :: B)
theorem Wk.at:∀{A B:List Sl},Wk A B->∀(i:Nat) (b:Sl),B[i]?=some b->∃a,A[i]?=some a/\(b=.u∨b=a∨∃o,a=.y o/\b=.z o)
 | _,_,.nil,i,b,h=>by simp at h
 | _,_,.same w,0,b,h=>by cases h;exact⟨_,rfl,.inr (.inl rfl)⟩
 | _,_,.less w,0,b,h=>by cases h;exact⟨_,rfl,.inr (.inr ⟨_,rfl,rfl⟩)⟩
 | _,_,.less w,i+1,b,h=>Wk.at w i b h
 | _,_,.drop w,0,b,h=>by cases h;exact⟨_,rfl,.inl rfl⟩
 | _,_,.same w,i+1,b,h=>Wk.at w i b h
 | _,_,.drop w,i+1,b,h=>Wk.at w i b h
theorem Wk.refl:∀A:List Sl,Wk A A
 | []=>.nil
 | _ :: A=>.same (Wk.refl A)
theorem Vs.weak(h:Vs S0 A e F S)(w:Wk A B):Vs S0 B e F S:=⟨h.kp,h.fz,h.ow,h.hi,λi b hb=>by
 obtain⟨a,h1,h2⟩:=w.at i b hb;obtain⟨x,h3,h4⟩:=h.sl i a h1
 rcases h2 with rfl | rfl | ⟨o,rfl,rfl⟩
 ·exact⟨x,h3,trivial⟩
 ·exact⟨x,h3,h4⟩
 ·obtain⟨n,h5,h6,_⟩:=h4
  exact⟨x,h3,n,h5,h6⟩⟩
def Sl.oth(i:Nat):Sl->Bool
 | .w k _=>!(Nat.beq k i)
 | _=>true
theorem g9(h:((A.set i .u).all (Sl.oth i))=true)(hj:j≠i)(ha:A[j]?=some (.w k o)):k≠i:=by
 have h1:(A.set i .u)[j]?=some (.w k o):=by rw[Ac (Bs hj)];exact ha
 have:=SC.mp h _ (Aq h1);intro e;subst e;have h2:(!(Nat.beq k k))=true:=this;rw[Nat.beq_refl]at h2;cases h2
theorem Vs.put(h:Vs S0 A e F S)(ht:((A.set i .u).all (Sl.oth i))=true)(ha:A[i]?=some (.w i o))(hx:e[i]?=some (some (.ref n)))(hn:F n=.ow i):Vs S0 (A.set i (.w i o')) e F (S.set n o'):=by
 have hl:=h.ow n i hn;refine⟨h.kp.set hl.1 o',λk q hq=>?_,λk j q=>by rw[D5];exact h.ow k j q,λk hk=>h.hi k (by rw[D5]at hk;exact hk),λj b hb=>?_⟩
 ·have:n≠k:=λc=>by subst c;rw[hn]at hq;cases hq
  rw[Ac this];exact h.fz k q hq
 ·by_cases c:i=j
  ·subst c
   rw[D1]at hb;rw[qX rfl]at hb;split at hb
   ·cases hb
    exact⟨_,hx,n,rfl,hn,by rw[D1];rw[qX rfl,qX hl.2]⟩
   ·cases hb
  ·rw[Ac c]at hb
   obtain⟨x,h1,h2⟩:=h.sl j b hb;refine⟨x,h1,?_⟩
   cases b with
   | u=>trivial
   | v d=>exact h2
   | z q=>exact h2
   | y q=>exact h2
   | q P=>exact h2
   | w k q=>
    obtain⟨m,h3,h4,h5⟩:=h2;refine⟨m,h3,h4,?_⟩
    have:n≠m:=λz=>by
     subst z;rw[hn]at h4;cases h4;exact g9 ht (λz=>c z.symm) hb rfl
    rw[Ac this];exact h5
theorem Vs.freeze(h:Vs S0 A e F S)(ht:((A.set i .u).all (Sl.oth i))=true)(ha:A[i]?=some (.w i o)):∃F',Vs S0 (A.set i (.y o)) e F' S/\Fle F F':=by
 obtain⟨x,hx,n,rfl,hn,ho⟩:=h.sl i _ ha
 have g:∀k,k≠n->(if k=n then Cel.fz o else F k)=F k:=λk hk=>qY hk
 have fl:Fle F (λk=>if k=n then Cel.fz o else F k):=λk q hq=>by
  have:k≠n:=λc=>by subst c;rw[hn]at hq;cases hq
  show(if k=n then Cel.fz o else F k)=_;rw[qY this];exact hq
 refine⟨λk=>if k=n then .fz o else F k,⟨h.kp,λk q hq=>?_,λk j q=>?_,λk hk=>?_,λj b hb=>?_⟩,fl⟩
 ·split at hq
  ·rename_i c;cases hq;subst c;exact ho
  ·exact h.fz k q hq
 ·split at q
  ·cases q
  ·exact h.ow k j q
 ·have:k≠n:=λc=>by subst c;exact zX (BW ho) (Kr.mpr hk)
  show(if k=n then Cel.fz o else F k)=_;rw[qY this];exact h.hi k hk
 ·by_cases c:i=j
  ·subst c
   rw[D1]at hb;rw[qX rfl]at hb;split at hb
   ·cases hb
    exact⟨_,hx,n,rfl,qX rfl,(h.ow n i hn).1⟩
   ·cases hb
  ·rw[Ac c]at hb
   obtain⟨x,h1,h2⟩:=h.sl j b hb;refine⟨x,h1,?_⟩
   cases b with
   | u=>trivial
   | v d=>exact h2
   | z q=>obtain⟨m,h3,h4⟩:=h2;exact⟨m,h3,fl _ _ h4⟩
   | y q=>obtain⟨m,h3,h4,h5⟩:=h2;exact⟨m,h3,fl _ _ h4,h5⟩
   | q P=>obtain⟨d,h3,h4⟩:=h2;exact⟨d,h3,λL hL=>h4 L λn o q=>hL n o (fl n o q)⟩
   | w k q=>
    obtain⟨m,h3,h4,h5⟩:=h2;refine⟨m,h3,?_,h5⟩
    have:m≠n:=λz=>by
     subst z;rw[hn]at h4;cases h4;exact g9 ht (λz=>c z.symm) hb rfl
    show(if m=n then Cel.fz o else F m)=_;rw[qY this];exact h4
theorem Vs.own(h:Vs S0 A e F S)(k:Keeps S S'){i n:Nat}{o:Ob}(hn:S.length<=n)(ho:S'[n]?=some o):∃F',Vs S0 (A.set i (.w i o)) (e.set i (some (.ref n))) F' S'/\Fle F F':=by
 have g:=h.grow k;have hnl:=BW ho
 have fl:Fle F (λj=>if j=n then Cel.ow i else Q6 F S S' j):=λj q hq=>by
  have:j≠n:=λc=>by subst c;exact zX (BW (h.fz _ _ hq)) (Kr.mpr hn)
  show(if j=n then Cel.ow i else _)=_;rw[qY this];exact h.fle S' _ _ hq
 refine⟨λj=>if j=n then .ow i else Q6 F S S' j,(Vs.set (a:=.w i o) (x:=some (.ref n)) ⟨g.kp,λj q hq=>?_,λj q hq=>?_,λj hj=>?_,λj b hb=>?_⟩ i ⟨n,rfl,qX rfl,ho⟩),fl⟩
 ·split at hq
  ·cases hq
  ·exact g.fz j q hq
 ·split at hq
  ·rename_i c;subst c;exact⟨Am h.kp.1 hn,hnl⟩
  ·exact g.ow j q hq
 ·have:j≠n:=λc=>by subst c;exact zX hnl (Kr.mpr hj)
  show(if j=n then Cel.ow i else _)=_;rw[qY this];exact g.hi j hj
 ·obtain⟨x,h1,h2⟩:=h.sl j b hb
  refine⟨x,h1,Sl.mono h2 fl λm j q q1 q2=>?_⟩;have hm:=BW q2
  have:m≠n:=λc=>by subst c;exact zX hm (Kr.mpr hn)
  refine⟨?_,by rw[k.2 m hm];exact q2⟩;show(if m=n then Cel.ow i else _)=_;rw[qY this,GN hm];exact q1
abbrev Rk(α:Type):=α->Sto->D->Sto->Prop
def rV(enc:α->D):Rk α:=λv _ d _=>d=enc v
def rO(ob:α->Ob):Rk α:=λv _ d S=>∃n,d=.ref n/\S[n]?=some (ob v)
def rN(ob:α->Ob):Rk α:=λv S0 d S=>∃n,d=.ref n/\S0.length<=n/\S[n]?=some (ob v)
def VE(A:List Sl)(m:ME)(R:Rk α)(p:Option α):Prop:=∀v,p=some v->∀S0 e F S,Vs S0 A e F S->∃d S',m e S=.ok d S'/\Keeps S S'/\R v S d S'
def VB(A:List Sl)(t:MT)(p:Option Bool):Prop:=∀v,p=some v->∀S0 e F S,Vs S0 A e F S->∃S',t e S=.ok v S'/\Keeps S S'
def VL(A:List Sl)(ml:ML)(enc:α->D)(p:Option (List α)):Prop:=∀v,p=some v->∀S0 e F S,Vs S0 A e F S->∃S',ml e S=.ok (v.map enc) S'/\Keeps S S'
def VK(A:List Sl)(mi:MI)(enc:α->D)(p:Option (List α)):Prop:=∀v,p=some v->∀S0 e F S,Vs S0 A e F S->∃w S',mi e S=.ok w S'/\Keeps S S'/\∀xM,Keeps S' xM->w xM=some (v.map enc)
def VI(A:List Sl)(mi:MI)(enc:α->D)(p:Option (List α)):Prop:=∀v,p=some v->∀S0 e F S,Vs S0 A e F S->∃w S',mi e S=.ok w S'/\Keeps S S'/\∀ψ xM,Fle (Q6 F S S') ψ->(∀n o,ψ n=.fz o->xM[n]?=some o)->w xM=some (v.map enc)
theorem VI.k(h:VI A mi enc p):VK A mi enc p:=λv hv S0 e F S hs=>by
 obtain⟨w,S',h1,h2,h3⟩:=h v hv S0 e F S hs;have g:=hs.grow h2;exact⟨w,S',h1,h2,λxM k=>h3 _ xM (g.fle xM) (g.grow k).fz⟩
def eT(enc:α->D)(l:List α):D:=.tup (l.map enc)
def eP(a:α->D)(b:β->D)(x:α×β):D:=.tup [a x.1,b x.2]
def eO(a:α->D):Option α->D
 | none=>.non
 | some x=>a x
def eU(_:Unit):D:=.non
def eF(l:List Int):D:=.fro (l.map D.int)
def oL(enc:α->D)(l:List α):Ob:=.lst (l.map enc)
theorem pd(h:VE A m R p)(i:∀v S d S',R v S d S'->R' v S d S'):VE A m R' p:=λv hv S0 e F S hs=>by
 obtain⟨d,S',h1,h2,h3⟩:=h v hv S0 e F S hs;exact⟨d,S',h1,h2,i _ _ _ _ h3⟩
theorem JN(h:VE A m (rN ob) p):VE A m (rO ob) p:=pd h λv S d S' ⟨n,h1,_,h2⟩=>⟨n,h1,h2⟩
theorem AH(h:A[i]?=some (.v (enc v))):VE A (AE i) (rV enc) (some v):=λ_ hv S0 e F S hs=>by
 cases hv;obtain⟨x,h1,h2⟩:=hs.sl i _ h;cases h2;exact⟨_,S,by unfold AE;rw[h1],Keeps.refl S,rfl⟩
theorem DF(h:A[i]?=some (.z (ob v))):VE A (AE i) (rO ob) (some v):=λ_ hv S0 e F S hs=>by
 cases hv;obtain⟨x,h1,n,rfl,h2⟩:=hs.sl i _ h;exact⟨_,S,by unfold AE;rw[h1],Keeps.refl S,n,rfl,hs.fz _ _ h2⟩
theorem Di(h:A[i]?=some (.y (ob v))):VE A (AE i) (rO ob) (some v):=λ_ hv S0 e F S hs=>by
 cases hv;obtain⟨x,h1,n,rfl,h2,_⟩:=hs.sl i _ h;exact⟨_,S,by unfold AE;rw[h1],Keeps.refl S,n,rfl,hs.fz _ _ h2⟩
theorem HR(h:A[i]?=some (.w k (ob v))):VE A (AE i) (rO ob) (some v):=λ_ hv S0 e F S hs=>by
 cases hv;obtain⟨x,h1,n,rfl,h2,h3⟩:=hs.sl i _ h;exact⟨_,S,by unfold AE;rw[h1],Keeps.refl S,n,rfl,h3⟩
theorem CO(h:d=enc v):VE A (mC d) (rV enc) (some v):=λ_ hv S0 e F S hs=>by
 cases hv;exact⟨d,S,rfl,Keeps.refl S,h⟩
theorem Aw(h:p.bind q=some v):∃x,p=some x/\q x=some v:=Option.bind_eq_some_iff.mp h
theorem HS{f:D->D->Sto->Res D}{a b:ME}{ea:α->D}{eb:β->D}{ec:γ->D}{pa:Option α}{pb:Option β}{g:α->β->Option γ}(ha:VE A a (rV ea) pa)(hb:VE A b (rV eb) pb)
  (hf:∀x y z S,g x y=some z->f (ea x) (eb y) S=.ok (ec z) S):VE A (m2 f a b) (rV ec) (pa.bind λx=>pb.bind λy=>g x y):=λv hv S0 e F S hs=>by
 obtain⟨x,h1,hv⟩:=Aw hv;obtain⟨y,h2,h3⟩:=Aw hv;obtain⟨d1,S1,q1,k1,rfl⟩:=ha x h1 S0 e F S hs;obtain⟨d2,S2,q2,k2,rfl⟩:=hb y h2 S0 e _ S1 (hs.grow k1);exact⟨_,S2,Dr q1 q2 (hf x y v S2 h3),k1.trans k2,rfl⟩
theorem Sy{f:D->D->Sto->Res D}{a b:ME}{ea:α->D}{ob:β->Ob}{ec:γ->D}{pa:Option α}{pb:Option β}{g:α->β->Option γ}(ha:VE A a (rV ea) pa)(hb:VE A b (rO ob) pb)
  (hf:∀x y z S (n:Nat),S[n]?=some (ob y)->g x y=some z->f (ea x) (.ref n) S=.ok (ec z) S):VE A (m2 f a b) (rV ec) (pa.bind λx=>pb.bind λy=>g x y):=λv hv S0 e F S hs=>by
 obtain⟨x,h1,hv⟩:=Aw hv;obtain⟨y,h2,h3⟩:=Aw hv;obtain⟨d1,S1,q1,k1,rfl⟩:=ha x h1 S0 e F S hs;obtain⟨d2,S2,q2,k2,n,rfl,hn⟩:=hb y h2 S0 e _ S1 (hs.grow k1);exact⟨_,S2,Dr q1 q2 (hf x y v S2 n hn h3),k1.trans k2,rfl⟩
theorem WU{f:D->D->Sto->Res D}{a b:ME}{ob:α->Ob}{eb:β->D}{ec:γ->D}{pa:Option α}{pb:Option β}{g:α->β->Option γ}(ha:VE A a (rO ob) pa)(hb:VE A b (rV eb) pb)
  (hf:∀x y z S (n:Nat),S[n]?=some (ob x)->g x y=some z->f (.ref n) (eb y) S=.ok (ec z) S):VE A (m2 f a b) (rV ec) (pa.bind λx=>pb.bind λy=>g x y):=λv hv S0 e F S hs=>by
 obtain⟨x,h1,hv⟩:=Aw hv;obtain⟨y,h2,h3⟩:=Aw hv;obtain⟨d1,S1,q1,k1,n,rfl,hn⟩:=ha x h1 S0 e F S hs;obtain⟨d2,S2,q2,k2,rfl⟩:=hb y h2 S0 e _ S1 (hs.grow k1);exact⟨_,S2,Dr q1 q2 (hf x y v S2 n (k2.at hn) h3),k1.trans k2,rfl⟩
theorem FC(h:VE A m (rV D.bl) p):VB A (mB m) p:=λv hv S0 e F S hs=>by
 obtain⟨d,S',h1,h2,rfl⟩:=h v hv S0 e F S hs;exact⟨S',Uf h1,h2⟩
theorem Sz(h:VE A m (rV D.bl) p):VB A (FX m) p:=λv hv S0 e F S hs=>by
 obtain⟨d,S',h1,h2,rfl⟩:=h v hv S0 e F S hs;refine⟨S',?_,h2⟩;unfold FX;rw[h1];rfl
theorem Ga:VB A G4 (some true):=λv hv S0 e F S hs=>by cases hv;exact⟨S,rfl,Keeps.refl S⟩
theorem Ox(h:VB A t p):VB A (OX t) (p.bind λb=>some (!b)):=λv hv S0 e F S hs=>by
 obtain⟨x,h1,h2⟩:=Aw hv;cases h2;obtain⟨S',h3,h4⟩:=h x h1 S0 e F S hs;exact⟨S',PB h3,h4⟩
theorem WW(h:VB A t p)(hu:VB A u q):VB A (P3 t u) (p.bind λb=>if b=true then q else some false):=λv hv S0 e F S hs=>by
 obtain⟨x,h1,h2⟩:=Aw hv;obtain⟨S1,h3,h4⟩:=h x h1 S0 e F S hs
 cases x with
 | true=>
  obtain⟨S2,h5,h6⟩:=hu v h2 S0 e _ S1 (hs.grow h4);exact⟨S2,(XT h3).trans h5,h4.trans h6⟩
 | false=>cases h2;exact⟨S1,cK h3,h4⟩
theorem bL(h:VB A t p)(hu:VB A u q):VB A (mOr t u) (p.bind λb=>if b=true then some true else q):=λv hv S0 e F S hs=>by
 obtain⟨x,h1,h2⟩:=Aw hv;obtain⟨S1,h3,h4⟩:=h x h1 S0 e F S hs
 cases x with
 | false=>
  obtain⟨S2,h5,h6⟩:=hu v h2 S0 e _ S1 (hs.grow h4);exact⟨S2,(hZ h3).trans h5,h4.trans h6⟩
 | true=>cases h2;exact⟨S1,iA h3,h4⟩
theorem WS(ht:VB A t pt)(ha:VE A a R pa)(hb:VE A b R pb)(hR:∀v S S1 d S',S.length<=S1.length->R v S1 d S'->R v S d S'):VE A (W3 t a b) R (pt.bind λc=>if c=true then pa else pb):=λv hv S0 e F S hs=>by
 obtain⟨x,h1,h2⟩:=Aw hv;obtain⟨S1,h3,h4⟩:=ht x h1 S0 e F S hs
 cases x with
 | true=>
  obtain⟨d,S2,h5,h6,h7⟩:=ha v h2 S0 e _ S1 (hs.grow h4);exact⟨d,S2,(ia h3).trans h5,h4.trans h6,hR _ _ _ _ _ h4.1 h7⟩
 | false=>
  obtain⟨d,S2,h5,h6,h7⟩:=hb v h2 S0 e _ S1 (hs.grow h4);exact⟨d,S2,(ia h3).trans h5,h4.trans h6,hR _ _ _ _ _ h4.1 h7⟩
theorem EZ:∀(v:α) (S S1:Sto) (d:D) (S':Sto),S.length<=S1.length->rV enc v S1 d S'->rV enc v S d S':=λ_ _ _ _ _ _ h=>h
theorem JO:∀(v:α) (S S1:Sto) (d:D) (S':Sto),S.length<=S1.length->rN ob v S1 d S'->rN ob v S d S':=λ_ _ _ _ _ l ⟨n,h1,h2,h3⟩=>⟨n,h1,Am l h2,h3⟩
inductive Fw(ρ σ:Type) where
 | rt (r:ρ) | nx (s:σ) | bk (s:σ) | ct (s:σ)
def VG(S0:Sto)(F:Fz)(S':Sto)(R:Rk ρ)(B:σ->List Sl)(g:Fl):Fw ρ σ->Prop
 | .nx s=>∃e' F',g=.nx e'/\Vs S0 (B s) e' F' S'/\Fle F F'
 | .ct s=>∃e' F',g=.ct e'/\Vs S0 (B s) e' F' S'/\Fle F F'
 | .bk s=>∃e' F',g=.bk e'/\Vs S0 (B s) e' F' S'/\Fle F F'
 | .rt r=>∃d,g=.rt d/\R r S0 d S'/\Keeps S0 S'
def VS(A:List Sl)(b:MS)(R:Rk ρ)(p:Option (Fw ρ σ))(B:σ->List Sl):Prop:=∀f,p=some f->∀S0 e F S,Vs S0 A e F S->∃g S',b e S=.ok g S'/\VG S0 F S' R B g f
def BD(p:Option (Fw ρ σ))(q:σ->Option (Fw ρ τ)):Option (Fw ρ τ):=match p with
 | some (.nx s)=>q s
 | some (.rt r)=>some (.rt r)
 | _=>none
theorem VG.up{S0:Sto}{F F1:Fz}{S':Sto}{R:Rk ρ}{B:σ->List Sl}{g:Fl}{f:Fw ρ σ}(l:Fle F F1)(h:VG S0 F1 S' R B g f):VG S0 F S' R B g f:=by
 cases f with
 | rt r=>exact h
 | nx s=>obtain⟨e',F',h1,h2,h3⟩:=h;exact⟨e',F',h1,h2,l.trans h3⟩
 | bk s=>obtain⟨e',F',h1,h2,h3⟩:=h;exact⟨e',F',h1,h2,l.trans h3⟩
 | ct s=>obtain⟨e',F',h1,h2,h3⟩:=h;exact⟨e',F',h1,h2,l.trans h3⟩
theorem Az{a b:MS}{R:Rk ρ}{p:Option (Fw ρ σ)}{q:σ->Option (Fw ρ τ)}{B:σ->List Sl}{C:τ->List Sl}(ha:VS A a R p B)(hb:∀s,VS (B s) b R (q s) C):VS A (BE a b) R (BD p q) C:=λf hf S0 e F S hs=>by
 cases p with
 | none=>cases hf
 | some w=>
  obtain⟨g,S1,h1,h2⟩:=ha _ rfl S0 e F S hs
  cases w with
  | nx s=>
   obtain⟨e1,F1,rfl,h2,h3⟩:=h2;obtain⟨g2,S2,h4,h5⟩:=hb s f hf S0 e1 F1 S1 h2;exact⟨g2,S2,(Bv h1).trans h4,h5.up h3⟩
  | rt r=>
   cases hf;obtain⟨d,rfl,h2,h3⟩:=h2;exact⟨_,S1,Qn h1,d,rfl,h2,h3⟩
  | bk s=>cases hf
  | ct s=>cases hf
theorem Ex{R:Rk ρ}{B:σ->List Sl}{s:σ}(w:Wk A (B s)):VS A sNx R (some (.nx s)) B:=λf hf S0 e F S hs=>by
 cases hf;exact⟨_,S,rfl,e,F,rfl,hs.weak w,Fle.refl F⟩
def EA(g:σ->τ)(p:Option (Fw ρ σ)):Option (Fw ρ τ):=match p with
 | some (.nx s)=>some (.nx (g s))
 | some (.rt r)=>some (.rt r)
 | some (.bk s)=>some (.bk (g s))
 | some (.ct s)=>some (.ct (g s))
 | none=>none
theorem Cr{b:MS}{R:Rk ρ}{p:Option (Fw ρ σ)}{g:σ->τ}{B:σ->List Sl}{C:τ->List Sl}(h:VS A b R p B)(w:∀s,Wk (B s) (C (g s))):VS A b R (EA g p) C:=λf hf S0 e F S hs=>by
 cases p with
 | none=>cases hf
 | some x=>
  obtain⟨g,S1,h1,h2⟩:=h _ rfl S0 e F S hs
  cases x with
  | nx s=>cases hf;obtain⟨e1,F1,rfl,h2,h3⟩:=h2;exact⟨_,S1,h1,e1,F1,rfl,h2.weak (w s),h3⟩
  | rt r=>cases hf;exact⟨_,S1,h1,h2⟩
  | bk s=>cases hf;obtain⟨e1,F1,rfl,h2,h3⟩:=h2;exact⟨_,S1,h1,e1,F1,rfl,h2.weak (w s),h3⟩
  | ct s=>cases hf;obtain⟨e1,F1,rfl,h2,h3⟩:=h2;exact⟨_,S1,h1,e1,F1,rfl,h2.weak (w s),h3⟩
theorem Dd(h:VE A m (rV enc) p):VS A (CN i m) R (p.bind λv=>some (.nx v)) (λv=>A.set i (.v (enc v))):=λf hf S0 e F S hs=>by
 obtain⟨v,h1,h2⟩:=Aw hf;cases h2;obtain⟨d,S',h3,h4,rfl⟩:=h v h1 S0 e F S hs;exact⟨_,S',JF h3,_,_,rfl,(hs.grow h4).set i rfl,hs.fle S'⟩
theorem KS(h:VE A m (rN ob) p):VS A (CN i m) R (p.bind λv=>some (.nx v)) (λv=>A.set i (.y (ob v))):=λf hf S0 e F S hs=>by
 obtain⟨v,h1,h2⟩:=Aw hf;cases h2;obtain⟨d,S',h3,h4,n,rfl,h5,h6⟩:=h v h1 S0 e F S hs;exact⟨_,S',JF h3,_,_,rfl,(hs.grow h4).set (a:=.y (ob v)) i ⟨n,rfl,Ny h5 h6,Am hs.kp.1 h5⟩,hs.fle S'⟩
theorem G7(h:VE A m (rN ob) p):VS A (CN i m) R (p.bind λv=>some (.nx v)) (λv=>A.set i (.w i (ob v))):=λf hf S0 e F S hs=>by
 obtain⟨v,h1,h2⟩:=Aw hf;cases h2;obtain⟨d,S',h3,h4,n,rfl,h5,h6⟩:=h v h1 S0 e F S hs;obtain⟨F',h7,h8⟩:=hs.own h4 (i:=i) h5 h6;exact⟨_,S',JF h3,_,F',rfl,h7,h8⟩
theorem fS(h:A[j]?=some (.z o)):VS A (CN i (AE j)) R (some (.nx ())) (λ_:Unit=>A.set i (.z o)):=λf hf S0 e F S hs=>by
 cases hf;obtain⟨x,h1,n,rfl,h2⟩:=hs.sl j _ h;exact⟨_,S,JF (d:=.ref n) (by unfold AE;rw[h1]),_,F,rfl,hs.set (a:=.z o) i ⟨n,rfl,h2⟩,Fle.refl F⟩
theorem cc(h:A[j]?=some (.y o)):VS A (CN i (AE j)) R (some (.nx ())) (λ_:Unit=>A.set i (.y o)):=λf hf S0 e F S hs=>by
 cases hf;obtain⟨x,h1,n,rfl,h2,h3⟩:=hs.sl j _ h;exact⟨_,S,JF (d:=.ref n) (by unfold AE;rw[h1]),_,F,rfl,hs.set (a:=.y o) i ⟨n,rfl,h2,h3⟩,Fle.refl F⟩
theorem pO{b:MS}{R:Rk ρ}{p:Option (Fw ρ σ)}{B:σ->List Sl}{o:Ob}(i:Nat)(ha:A[i]?=some (.w i o))(ht:((A.set i .u).all (Sl.oth i))=true)(h:VS (A.set i (.y o)) b R p B):VS A b R p B:=λf hf S0 e F S hs=>by
 obtain⟨F',h1,h2⟩:=hs.freeze ht ha;obtain⟨g,S',h3,h4⟩:=h f hf S0 e F' S h1;exact⟨g,S',h3,h4.up h2⟩
theorem DO{m:ME}{enc:ρ->D}{p:Option ρ}{B:σ->List Sl}(h:VE A m (rV enc) p):VS A (CS m) (rV enc) (p.bind λv=>some (.rt v)) B:=λf hf S0 e F S hs=>by
 obtain⟨v,h1,h2⟩:=Aw hf;cases h2;obtain⟨d,S',h3,h4,rfl⟩:=h v h1 S0 e F S hs;exact⟨_,S',K6 h3,_,rfl,rfl,hs.kp.trans h4⟩
theorem G8{m:ME}{ob:ρ->Ob}{p:Option ρ}{B:σ->List Sl}(h:VE A m (rN ob) p):VS A (CS m) (rN ob) (p.bind λv=>some (.rt v)) B:=λf hf S0 e F S hs=>by
 obtain⟨v,h1,h2⟩:=Aw hf;cases h2;obtain⟨d,S',h3,h4,n,rfl,h5,h6⟩:=h v h1 S0 e F S hs;exact⟨_,S',K6 h3,_,rfl,⟨n,rfl,Am hs.kp.1 h5,h6⟩,hs.kp.trans h4⟩
theorem SE{i:Nat}{ob:ρ->Ob}{v:ρ}{B:σ->List Sl}{k:Nat}(h:A[i]?=some (.w k (ob v))):VS A (CS (AE i)) (rN ob) (some (.rt v)) B:=λf hf S0 e F S hs=>by
 cases hf;obtain⟨x,h1,n,rfl,h2,h3⟩:=hs.sl i _ h;exact⟨_,S,K6 (d:=.ref n) (by unfold AE;rw[h1]),_,rfl,⟨n,rfl,(hs.ow _ _ h2).1,h3⟩,hs.kp⟩
theorem kJ{i:Nat}{ob:ρ->Ob}{v:ρ}{B:σ->List Sl}(h:A[i]?=some (.y (ob v))):VS A (CS (AE i)) (rN ob) (some (.rt v)) B:=λf hf S0 e F S hs=>by
 cases hf;obtain⟨x,h1,n,rfl,h2,h3⟩:=hs.sl i _ h;exact⟨_,S,K6 (d:=.ref n) (by unfold AE;rw[h1]),_,rfl,⟨n,rfl,h3,hs.fz _ _ h2⟩,hs.kp⟩
theorem Ey{t:MT}{a b:MS}{R:Rk ρ}{pt:Option Bool}{p q:Option (Fw ρ σ)}{B:σ->List Sl}(ht:VB A t pt)(ha:VS A a R p B)(hb:VS A b R q B):VS A (sIf t a b) R (pt.bind λc=>if c=true then p else q) B:=λf hf S0 e F S hs=>by
 obtain⟨c,h1,h2⟩:=Aw hf;obtain⟨S1,h3,h4⟩:=ht c h1 S0 e F S hs
 cases c with
 | true=>
  obtain⟨g,S2,h5,h6⟩:=ha f h2 S0 e _ S1 (hs.grow h4);exact⟨g,S2,(G0 h3).trans h5,h6.up (hs.fle S1)⟩
 | false=>
  obtain⟨g,S2,h5,h6⟩:=hb f h2 S0 e _ S1 (hs.grow h4);exact⟨g,S2,(G0 h3).trans h5,h6.up (hs.fle S1)⟩
def RG(l:List α)(x:α):Option (List α):=if l.length < 1000000 then some (l++[x])else none
def Yv(l k:List α):Option (List α):=if l.length+k.length<=1000000 then some (l++k)else none
theorem Yj(h:n < 1000000):n < sizeLine:=AV h (by decide)
theorem mr(h:n<=1000000):n<=sizeLine:=Am h (by decide)
theorem Sr(hi:A[i]?=some (.w i (oL enc l)))(h:VE A m (rV enc) p)(ht:((A.set i .u).all (Sl.oth i))=true) :
  VS A (Ir (PF (AE i) m)) R (p.bind λv=>(RG l v).bind λl'=>some (.nx l')) (λl'=>A.set i (.w i (oL enc l'))):=λf hf S0 e F S hs=>by
 obtain⟨v,h1,h2⟩:=Aw hf;obtain⟨l',h2,h0⟩:=Aw h2;cases h0;unfold RG at h2;split at h2
 ·rename_i hl
  cases h2;obtain⟨x,g1,n,rfl,g2,g3⟩:=hs.sl i _ hi;obtain⟨d,S',h3,h4,rfl⟩:=h v h1 S0 e F S hs;have hg:=hs.grow h4;have hx:=XS (mo:=AE i) (e:=e) (S:=S) (S1:=S) (n:=n) (by unfold AE;rw[g1]) g3 h3 (h4.at g3) (by rw[AF];exact Yj hl);rw[show l.map enc++[enc v]=(l++[v]).map enc by simp]at hx;exact⟨_,_,QJ hx,e,_,rfl,hg.put ht hi g1 (by rw[GN (BW g3)];exact g2),hs.fle S'⟩
 ·cases h2
theorem kU(h:VE A m Rm p):VS A (Ir m) R (p.bind λ_=>some (.nx ())) (λ_:Unit=>A):=λf hf S0 e F S hs=>by
 obtain⟨v,h1,h2⟩:=Aw hf;cases h2;obtain⟨d,S',h3,h4,_⟩:=h v h1 S0 e F S hs;exact⟨_,S',QJ h3,e,_,rfl,hs.grow h4,hs.fle S'⟩
theorem Qe(hi:A[i]?=some (.v (D.int x)))(h:VE A m (rV D.int) p):VS A (Te i g m) R (p.bind λy=>some (.nx (g x y))) (λz=>A.set i (.v (D.int z))):=λf hf S0 e F S hs=>by
 obtain⟨v,h1,h2⟩:=Aw hf;cases h2;obtain⟨d,S',h3,h4,rfl⟩:=h v h1 S0 e F S hs;obtain⟨y,g1,g2⟩:=hs.sl i _ hi;cases g2;refine⟨_,S',?_,_,_,rfl,(hs.grow h4).set (a:=.v (D.int (g x v))) i rfl,hs.fle S'⟩;unfold Te;rw[g1];dsimp only;rw[h3];rfl
def VT(g:MG)(enc:α->D)(t:α->List Sl->List Sl):Prop:=∀x S0 A e F S,Vs S0 A e F S->∃e',g (enc x) e S=.ok e' S/\Vs S0 (t x A) e' F S
theorem D8:VT (tgN i) enc (λx A=>A.set i (.v (enc x))):=λx S0 A e F S hs=>⟨_,rfl,hs.set (a:=.v (enc x)) i rfl⟩
theorem SD:VT (Jk 2 (Df (tgN i) (Df (tgN j) KY))) (eP a b) (λx A=>(A.set i (.v (a x.1))).set j (.v (b x.2))):=λx S0 A e F S hs=>⟨_,rfl,(hs.set (a:=.v (a x.1)) i rfl).set (a:=.v (b x.2)) j rfl⟩
def EV:List α->σ->(σ->α->Option (Fw ρ σ))->Option (Fw ρ σ)
 | [],s,_=>some (.nx s)
 | x :: l,s,q=>match q s x with
  | some (.nx s')=>EV l s' q
  | some (.ct s')=>EV l s' q
  | some (.bk s')=>some (.nx s')
  | some (.rt r)=>some (.rt r)
  | none=>none
theorem kQ{enc:α->D}{g:MG}{t:α->List Sl->List Sl}{b:MS}{R:Rk ρ}{q:σ->α->Option (Fw ρ σ)}{B:σ->List Sl}(hg:VT g enc t)(hb:∀s x,VS (t x (B s)) b R (q s x) B){w:RI}{S0:Sto}{F1:Fz}{full:List α}
  (hw:∀ψ xM,Fle F1 ψ->(∀n o,ψ n=.fz o->xM[n]?=some o)->w xM=some (full.map enc)):∀(l:List α) (k:Nat),full.drop k=l->∀(s:σ) (f:Fw ρ σ),EV l s q=some f->∀e F S,Vs S0 (B s) e F S->Fle F1 F->∃h S',M9 w g b (l.length) k e S=.ok h S'/\VG S0 F1 S' R B h f:=by
 intro l
 induction l with
 | nil=>
  intro k hk s f hf e F S hs hF;cases hf
  have:full.length<=k:=by
   have:=congrArg Oe hk;rw[E6,Fd]at this
   lia
  refine⟨_,S,?_,e,F,rfl,hs,hF⟩;unfold M9;rw[hw F S hF hs.fz];dsimp only;rw[CC (by rw[AF];exact this)]
 | cons x l ih=>
  intro k hk s f hf e F S hs hF
  have hx:full[k]?=some x:=by
   have:=congrArg (λz=>z[0]?) hk;rw[QS]at this;simpa using this
  have xn:full.drop (k+1)=l:=by
   have e1:full.drop (k+1)=(full.drop k).drop 1:=by rw[oK]
   exact e1.trans (congrArg (List.drop 1) hk)
  obtain⟨e1,g1,g2⟩:=hg x S0 _ e F S hs
  have run:∀h S',b e1 S=.ok h S'->M9 w g b ((x :: l).length) k e S=(match h with
    | .nx e2=>M9 w g b l.length (k+1) e2 S'
    | .ct e2=>M9 w g b l.length (k+1) e2 S'
    | .bk e2=>.ok (.nx e2) S'
    | .rt d=>.ok (.rt d) S'
    | .ex c e2=>.ok (.ex c e2) S'):=λh S' wc=>by
   show M9 w g b (l.length+1) k e S=_
   conv=>lhs;unfold M9
   rw[hw F S hF hs.fz];dsimp only;rw[Ab,hx];dsimp only[tL];rw[g1];dsimp only[Res.bind];rw[wc]
   all_goals (cases h <;> rfl)
  unfold EV at hf;split at hf
  ·rename_i s' hq
   obtain⟨h,S1,h1,e2,F2,rfl,h2,h3⟩:=hb s x _ hq S0 e1 F S g2;rw[run _ _ h1];exact ih (k+1) xn s' f hf e2 F2 S1 h2 (hF.trans h3)
  ·rename_i s' hq
   obtain⟨h,S1,h1,e2,F2,rfl,h2,h3⟩:=hb s x _ hq S0 e1 F S g2;rw[run _ _ h1];exact ih (k+1) xn s' f hf e2 F2 S1 h2 (hF.trans h3)
  ·rename_i s' hq
   cases hf;obtain⟨h,S1,h1,e2,F2,rfl,h2,h3⟩:=hb s x _ hq S0 e1 F S g2;rw[run _ _ h1];exact⟨_,S1,rfl,e2,F2,rfl,h2,hF.trans h3⟩
  ·rename_i r hq
   cases hf;obtain⟨h,S1,h1,d,rfl,h2,h3⟩:=hb s x _ hq S0 e1 F S g2;rw[run _ _ h1];exact⟨_,S1,rfl,d,rfl,h2,h3⟩
  ·cases hf
theorem EJ{enc:α->D}{mi:MI}{g:MG}{t:α->List Sl->List Sl}{b:MS}{R:Rk ρ}{p:Option (List α)}{q:σ->α->Option (Fw ρ σ)}{B:σ->List Sl}{s0:σ}(hi:VI A mi enc p)(hg:VT g enc t)(w0:Wk A (B s0))(hb:∀s x,VS (t x (B s)) b R (q s x) B) :
  VS A (FJ mi g b) R (p.bind λl=>EV l s0 q) B:=λf hf S0 e F S hs=>by
 obtain⟨l,h1,h2⟩:=Aw hf;obtain⟨w,S1,h3,h4,h5⟩:=hi l h1 S0 e F S hs;have hg1:=hs.grow h4
 have hl:EQ w S1=l.length:=by unfold EQ;rw[h5 _ S1 (Fle.refl _) hg1.fz];exact AF _
 obtain⟨h,S2,h6,h7⟩:=kQ hg hb h5 l 0 rfl s0 f h2 e _ S1 (hg1.weak w0) (Fle.refl _);refine⟨h,S2,?_,h7.up (hs.fle S1)⟩;rw[LB h3,hl];exact h6
def UZ(c:α->Option Bool)(m:α->Option β):List α->Option (List β)
 | []=>some []
 | x :: l=>(c x).bind λb=>if b=true then(m x).bind λy=>(UZ c m l).bind λys=>some (y :: ys)else UZ c m l
def EO(l:List α)(c:α->Option Bool)(m:α->Option β):Option (List β):=if l.length<=1000000 then UZ c m l else none
theorem fU{enc:α->D}{eb:β->D}{g:MG}{P:List (Option D)->Prop}{T:α->List Sl}{c:MT}{m:ME}{pc:α->Option Bool}{pm:α->Option β}
  (hg:∀x S0 e F S pre,P pre->Vs S0 A e F S->∃xf,g (enc x) (pre++e) S=.ok (xf++e) S/\P xf/\Vs S0 (T x) (xf++e) F S)
  (hc:∀x,VB (T x) c (pc x)) (hm:∀x,VE (T x) m (rV eb) (pm x)) {w:RI} {S0:Sto} {e:Lo} {full:List α} {S1:Sto} (hf:full.length<=1000000) (hw:∀xM,Keeps S1 xM->w xM=some (full.map enc)) :
  ∀(l:List α) (k:Nat),full.drop k=l->∀(r:List β),UZ pc pm l=some r->∀pre F S acc,P pre->Vs S0 A e F S->Keeps S1 S->acc.length<=k->∃S',HI w g c m l.length k (pre++e) S acc=.ok (acc++r.map eb) S'/\Keeps S S':=by
 intro l
 induction l with
 | nil=>
  intro k hk r hr pre F S acc hp hs ω ha;cases hr
  have:full.length<=k:=by
   have:=congrArg Oe hk;rw[E6,Fd]at this
   lia
  refine⟨S,?_,Keeps.refl S⟩;unfold HI;rw[hw S ω];dsimp only;rw[CC (by rw[AF];exact this),RK,CG]
 | cons x l ih=>
  intro k hk r hr pre F S acc hp hs ω ha
  have hx:full[k]?=some x:=by
   have:=congrArg (λz=>z[0]?) hk;rw[QS]at this;simpa using this
  have xn:full.drop (k+1)=l:=by
   have e1:full.drop (k+1)=(full.drop k).drop 1:=by rw[oK]
   exact e1.trans (congrArg (List.drop 1) hk)
  have ϐ:k < full.length:=(AC.mp hx).1;obtain⟨xf,g1,g2,g3⟩:=hg x S0 e F S pre hp hs;unfold UZ at hr;obtain⟨b,h1,h2⟩:=Aw hr;obtain⟨S2,h3,h4⟩:=hc x b h1 S0 _ F S g3;have wQ:=hs.grow h4
  show ∃S',HI w g c m (l.length+1) k (pre++e) S acc=_/\_
  conv=>arg 1;ext S';arg 1;lhs;unfold HI
  rw[hw S ω];dsimp only;rw[Ab,hx];dsimp only[tL];rw[qX (As ha (Yj (AV ϐ hf))),g1];dsimp only[okR,Res.bind];rw[h3];dsimp only[okR,Res.bind]
  cases b with
  | true=>
   rw[qX rfl]at h2 ⊢;obtain⟨y,h5,h6⟩:=Aw h2;obtain⟨ys,h6',h7⟩:=Aw h6;cases h7;obtain⟨d,S3,h8,h9,rfl⟩:=hm x y h5 S0 _ _ S2 (g3.grow h4);rw[h8];obtain⟨S4,q1,q2⟩:=ih (k+1) xn ys h6' xf _ S3 (acc++[eb y]) g2 (wQ.grow h9) (ω.trans (h4.trans h9)) (by rw[Ag,Ay];lia);refine⟨S4,?_,(h4.trans h9).trans q2⟩;show HI w g c m l.length (k+1) (xf++e) S3 (acc++[eb y])=_;rw[q1,Fv];rfl
  | false=>
   rw[qY AK]at h2 ⊢;obtain⟨S4,q1,q2⟩:=ih (k+1) xn r h2 xf _ S2 acc g2 wQ (ω.trans h4) (by lia);exact⟨S4,q1,h4.trans q2⟩
theorem kY{enc:α->D}{eb:β->D}{n:Nat}{mi:MI}{g:MG}{P:List (Option D)->Prop}{T:α->List Sl}{c:MT}{m:ME}{p:Option (List α)}{pc:α->Option Bool}{pm:α->Option β}(hi:VK A mi enc p)(h0:P (Bt n none))
  (hg:∀x S0 e F S pre,P pre->Vs S0 A e F S->∃xf,g (enc x) (pre++e) S=.ok (xf++e) S/\P xf/\Vs S0 (T x) (xf++e) F S)
  (hc:∀x,VB (T x) c (pc x)) (hm:∀x,VE (T x) m (rV eb) (pm x)):VL A (EL n mi g c m) eb (p.bind λl=>EO l pc pm):=λr hr S0 e F S hs=>by
 obtain⟨l,h1,h2⟩:=Aw hr;obtain⟨w,S1,h3,h4,h5⟩:=hi l h1 S0 e F S hs;unfold EO at h2;split at h2
 ·rename_i hl
  have yD:=hs.grow h4;obtain⟨S2,h6,h7⟩:=fU hg hc hm hl h5 l 0 rfl r h2 _ _ S1 [] h0 yD (Keeps.refl _) (AL _);refine⟨S2,?_,h4.trans h7⟩;rw[XG h3,show EQ w S1=l.length by unfold EQ;rw[h5 S1 (Keeps.refl _)];exact AF _];exact h6
 ·cases h2
theorem DD{enc:α->D}{eb:β->D}{mi:MI}{c:MT}{m:ME}{p:Option (List α)}{pc:α->Option Bool}{pm:α->Option β}(hi:VK A mi enc p)(hc:∀x,VB (.v (enc x) :: A) c (pc x))(hm:∀x,VE (.v (enc x) :: A) m (rV eb) (pm x)) :
  VL A (EL 1 mi (tgN 0) c m) eb (p.bind λl=>EO l pc pm):=
 kY (P:=λpre=>∃z,pre=[z]) hi ⟨none,rfl⟩ (λx S0 e F S pre hp hs=>by
  obtain⟨z,rfl⟩:=hp
  exact⟨[some (enc x)],rfl,⟨_,rfl⟩,hs.cons (a:=.v (enc x)) rfl⟩) hc hm
theorem Ct(h:VL A ml enc p):VE A (Eh ml) (rN (oL enc)) p:=λv hv S0 e F S hs=>by
 obtain⟨S',h1,h2⟩:=h v hv S0 e F S hs;exact⟨_,_,Z7 h1,h2.trans (Keeps.app _ _),_,rfl,h2.1,Ep _ _⟩
inductive Ar where
 | v (d:D) | z (o:Ob) | q (P:(Nat->Option Ob)->D->Prop)
def Ar.ok(S:Sto):Ar->D->Prop
 | .v d,x=>x=d
 | .z o,x=>∃n,x=.ref n/\S[n]?=some o
 | .q P,x=>∀L:Nat->Option Ob,(∀n o,S[n]?=some o->L n=some o)->P L x
def Ar.sl:Ar->Sl
 | .v d=>.v d
 | .z o=>.z o
 | .q P=>.q P
def M2(S:Sto):List Ar->List D->Prop
 | [],[]=>True
 | a :: as,d :: ds=>a.ok S d/\M2 S as ds
 | _,_=>False
theorem M2.len:∀{as:List Ar} {ds:List D},M2 S as ds->ds.length=as.length
 | [],[],_=>rfl
 | _ :: as,_ :: ds,h=>by rw[At,At,M2.len h.2]
 | [],_ :: _,h=>h.elim
 | _ :: _,[],h=>h.elim
theorem M2.at:∀{as:List Ar} {ds:List D},M2 S as ds->∀(i:Nat) (a:Ar),as[i]?=some a->∃d,ds[i]?=some d/\a.ok S d
 | [],[],_,i,a,h=>by simp at h
 | b :: as,d :: ds,h,0,a,q=>by cases q;exact⟨d,rfl,h.1⟩
 | b :: as,d :: ds,h,i+1,a,q=>M2.at h.2 i a q
 | [],_ :: _,h,_,_,_=>h.elim
 | _ :: _,[],h,_,_,_=>h.elim
def VF(f:List D->Sto->Res D)(as:List Ar)(R:Rk α)(p:Option α):Prop:=∀v,p=some v->∀S ds,M2 S as ds->∃d S',f ds S=.ok d S'/\Keeps S S'/\R v S d S'
def VA(A:List Sl)(ml:ML)(p:Option γ)(ar:γ->List Ar):Prop:=∀v,p=some v->∀S0 e F S,Vs S0 A e F S->∃ds S',ml e S=.ok ds S'/\Keeps S S'/\M2 S' (ar v) ds
theorem Bq:VA A BO (some ()) (λ_=>[]):=λv hv S0 e F S hs=>⟨[],S,rfl,Keeps.refl S,trivial⟩
theorem CQ(h:VE A m (rV enc) p)(hl:VA A ml q ar):VA A (AO m ml) (p.bind λx=>q.bind λy=>some (x,y)) (λz=>.v (enc z.1) :: ar z.2):=λv hv S0 e F S hs=>by
 obtain⟨x,h1,h2⟩:=Aw hv;obtain⟨y,zK,h3⟩:=Aw h2;cases h3;obtain⟨d,S1,h4,h5,rfl⟩:=h x h1 S0 e F S hs;obtain⟨ds,S2,h6,h7,h8⟩:=hl y zK S0 e _ S1 (hs.grow h5);exact⟨_,S2,Cz h4 h6,h5.trans h7,rfl,h8⟩
theorem Jj(h:VE A m (rO ob) p)(hl:VA A ml q ar):VA A (AO m ml) (p.bind λx=>q.bind λy=>some (x,y)) (λz=>.z (ob z.1) :: ar z.2):=λv hv S0 e F S hs=>by
 obtain⟨x,h1,h2⟩:=Aw hv;obtain⟨y,zK,h3⟩:=Aw h2;cases h3;obtain⟨d,S1,h4,h5,n,rfl,h0⟩:=h x h1 S0 e F S hs;obtain⟨ds,S2,h6,h7,h8⟩:=hl y zK S0 e _ S1 (hs.grow h5);exact⟨_,S2,Cz h4 h6,h5.trans h7,⟨n,rfl,h7.at h0⟩,h8⟩
theorem Bo(ha:VA A ml p ar)(hf:∀z,VF f (ar z) R (q z))(hn:∀z,(ar z).length=n)(hR:∀v S S1 d S',S.length<=S1.length->R v S1 d S'->R v S d S'):VE A (CB n f ml) R (p.bind q):=λv hv S0 e F S hs=>by
 obtain⟨z,h1,h2⟩:=Aw hv;obtain⟨ds,S1,h3,h4,h5⟩:=ha z h1 S0 e F S hs;obtain⟨d,S2,h6,h7,h8⟩:=hf z v h2 S1 ds h5;exact⟨d,S2,(Mn h3 (h5.len.trans (hn z))).trans h6,h4.trans h7,hR _ _ _ _ _ h4.1 h8⟩
def Lm(S:Sto):Fz:=λn=>match S[n]? with
 | some o=>.fz o
 | none=>.no
theorem Vs.start(h:M2 S as ds):Vs S (as.map Ar.sl++Bt (n - as.length) .u) (JE n ds) (Lm S) S:=by
 refine⟨Keeps.refl S,λn o q=>?_,λn i q=>?_,λn hn=>by unfold Lm;rw[CC hn],λi a ha=>?_⟩
 ·unfold Lm at q
  split at q
  ·rename_i o' ho;cases q;exact ho
  ·cases q
 ·unfold Lm at q
  split at q <;> cases q
 ·unfold JE
  by_cases c:i < as.length
  ·rw[BA (by rw[AF];exact c),Ab]at ha
   rw[BA (by rw[AF,h.len];exact c),Ab]
   cases hq:as[i]? with
   | none=>rw[hq]at ha;cases ha
   | some b=>
    rw[hq]at ha;cases ha;obtain⟨d,h1,h2⟩:=h.at i b hq;refine⟨some d,by rw[h1];rfl,?_⟩
    cases b with
    | v x=>exact congrArg some h2
    | z o=>obtain⟨m,h3,h4⟩:=h2;exact⟨m,congrArg some h3,by unfold Lm;rw[h4]⟩
    | q P=>exact⟨d,rfl,λL hL=>h2 L λn o q=>hL n o (by unfold Lm;rw[q])⟩
  ·rw[Bf (by rw[AF];lia)]at ha
   rw[AF,D2]at ha;split at ha
   ·rename_i wk
    cases ha;refine⟨none,?_,trivial⟩;rw[Bf (by rw[AF,h.len];lia),AF,h.len,D2,qX wk]
   ·cases ha
def FW(p:Option (Fw ρ σ)):Option ρ:=match p with
 | some (.rt r)=>some r
 | _=>none
def mM(p:Option (Fw Unit σ)):Option Unit:=match p with
 | some (.rt r)=>some ()
 | some (.nx _)=>some ()
 | _=>none
end
section
variable{S0 S S':Sto}{A:List Sl}{α β γ δ:Type}
section
variable{a b c:ME}{pa pb pc:Option Int}
theorem HU(ha:VE A a (rV D.int) pa)(hb:VE A b (rV D.int) pb):VE A (m2 Iw a b) (rV D.int) (pa.bind λx=>pb.bind λy=>some (x+y)):=HS ha hb λx y z S h=>by cases h;rfl
theorem L6(ha:VE A a (rV D.int) pa)(hb:VE A b (rV D.int) pb):VE A (m2 TH a b) (rV D.int) (pa.bind λx=>pb.bind λy=>some (x - y)):=HS ha hb λx y z S h=>by cases h;rfl
def rL(x y:Int):Option Int:=if eV x y then some (x * y)else none
def jC(x y:Int):Option Int:=if jm x y then some (x / y)else none
def Z8(x y:Int):Option Int:=if 0 < y then some (x % y)else none
theorem pV(ha:VE A a (rV D.int) pa)(hb:VE A b (rV D.int) pb):VE A (m2 rM a b) (rV D.int) (pa.bind λx=>pb.bind λy=>rL x y):=HS ha hb λx y z S h=>by
 unfold rL at h;split at h
 ·rename_i hc;cases h;exact qX hc
 ·cases h
theorem kj(ha:VE A a (rV D.int) pa)(hb:VE A b (rV D.int) pb):VE A (m2 QI a b) (rV D.int) (pa.bind λx=>pb.bind λy=>jC x y):=HS ha hb λx y z S h=>by
 unfold jC at h;split at h
 ·rename_i hc;cases h;exact qX hc
 ·cases h
theorem Zb(ha:VE A a (rV D.int) pa)(hb:VE A b (rV D.int) pb):VE A (m2 Ry a b) (rV D.int) (pa.bind λx=>pb.bind λy=>Z8 x y):=HS ha hb λx y z S h=>by
 unfold Z8 at h;split at h
 ·rename_i hc;cases h;exact bZ hc
 ·cases h
theorem Pl(hk:(decide (0 < k)&&decide (k<=1000000))=true)(ha:VE A a (rV D.int) pa):VE A (m2 QI a (mC (.int k))) (rV D.int) (pa.bind λx=>some (x / k)):=λv hv S0 e F S hs=>by
 obtain⟨x,h1,h2⟩:=Aw hv;cases h2;obtain⟨d,S',h3,h4,rfl⟩:=ha x h1 S0 e F S hs;have xn:=Ck _ _▸hk;exact⟨_,S',Dr h3 rfl (jD (of_decide_eq_true xn.1) (of_decide_eq_true xn.2)),h4,rfl⟩
theorem Pk(hk:decide (0 < k)=true)(ha:VE A a (rV D.int) pa):VE A (m2 Ry a (mC (.int k))) (rV D.int) (pa.bind λx=>some (x % k)):=λv hv S0 e F S hs=>by
 obtain⟨x,h1,h2⟩:=Aw hv;cases h2;obtain⟨d,S',h3,h4,rfl⟩:=ha x h1 S0 e F S hs;exact⟨_,S',Dr h3 rfl (bZ (of_decide_eq_true hk)),h4,rfl⟩
theorem fb(ha:VE A a (rV D.int) pa):VE A (iN a) (rV D.int) (pa.bind λx=>some (-x)):=λv hv S0 e F S hs=>by
 obtain⟨x,h1,h2⟩:=Aw hv;cases h2;obtain⟨d,S',h3,h4,rfl⟩:=ha x h1 S0 e F S hs;exact⟨_,S',by unfold iN;rw[h3];rfl,h4,rfl⟩
theorem ff(ha:VE A a (rV D.int) pa)(hb:VE A b (rV D.int) pb):VE A (m2 ltD a b) (rV D.bl) (pa.bind λx=>pb.bind λy=>some (decide (x < y))):=HS ha hb λx y z S h=>by cases h;rfl
theorem uB(ha:VE A a (rV D.int) pa)(hb:VE A b (rV D.int) pb):VE A (m2 gtD a b) (rV D.bl) (pa.bind λx=>pb.bind λy=>some (decide (y < x))):=HS ha hb λx y z S h=>by cases h;rfl
theorem X1{f g:D->D->Sto->Res D}{P Q:Int->Int->Bool}(hf:∀x y S,f (.int x) (.int y) S=.ok (.bl (P x y)) S)(hg:∀x y S,g (.int x) (.int y) S=.ok (.bl (Q x y)) S)(ha:VE A a (rV D.int) pa)(hb:VE A b (rV D.int) pb)(hc:VE A c (rV D.int) pc) :
  VE A (m3 f g a b c) (rV D.bl) (pa.bind λx=>pb.bind λy=>if P x y=true then pc.bind λz=>some (Q y z)else some false):=λv hv S0 e F S hs=>by
 obtain⟨x,h1,hv⟩:=Aw hv;obtain⟨y,h2,h3⟩:=Aw hv;obtain⟨d1,S1,q1,k1,rfl⟩:=ha x h1 S0 e F S hs;obtain⟨d2,S2,q2,k2,rfl⟩:=hb y h2 S0 e _ S1 (hs.grow k1);have e1:=hf x y S2
 cases hp:P x y with
 | false=>
  rw[hp]at h3 e1;cases h3;exact⟨_,S2,vB q1 q2 e1,k1.trans k2,rfl⟩
 | true=>
  rw[hp]at h3 e1;rw[qX rfl]at h3;obtain⟨w,h4,h5⟩:=Aw h3;cases h5;obtain⟨d3,S3,q3,k3,rfl⟩:=hc w h4 S0 e _ S2 ((hs.grow k1).grow k2);exact⟨_,S3,oY q1 q2 e1 q3 (hg y w S3),(k1.trans k2).trans k3,rfl⟩
theorem vb(x y:Int)(S:Sto):ltD (.int x) (.int y) S=.ok (.bl (decide (x < y))) S:=rfl
theorem jV(x y:Int)(S:Sto):leD (.int x) (.int y) S=.ok (.bl (decide (x<=y))) S:=rfl
theorem kh(ha:VE A a (rV D.int) pa)(hb:VE A b (rV D.int) pb):VE A (mQ RQ (AO a (AO b BO))) (rV D.int) (pa.bind λx=>pb.bind λy=>some (if y < x then y else x)):=λv hv S0 e F S hs=>by
 obtain⟨x,h1,hv⟩:=Aw hv;obtain⟨y,h2,h3⟩:=Aw hv;cases h3;obtain⟨d1,S1,q1,k1,rfl⟩:=ha x h1 S0 e F S hs;obtain⟨d2,S2,q2,k2,rfl⟩:=hb y h2 S0 e _ S1 (hs.grow k1);exact⟨_,S2,lW (Cz q1 (Cz q2 rfl)) rfl,k1.trans k2,rfl⟩
theorem pY{pb}(hb:VE A b (rV D.bl) pb):VE A (mf b) (rV D.int) (pb.bind λx=>some (if x=true then 1 else 0)):=λv hv S0 e F S hs=>by
 obtain⟨x,h1,h2⟩:=Aw hv;cases h2;obtain⟨d,S',h3,h4,rfl⟩:=hb x h1 S0 e F S hs;refine⟨_,S',?_,h4,rfl⟩;unfold mf;rw[h3];rfl
theorem fZ{pa pb}(ha:VE A a (rV D.bl) pa)(hb:VE A b (rV D.bl) pb):VE A (dY a b) (rV D.bl) (pa.bind λx=>if x=true then some true else pb):=λv hv S0 e F S hs=>by
 obtain⟨x,h1,h2⟩:=Aw hv;obtain⟨d,S',h3,h4,rfl⟩:=ha x h1 S0 e F S hs
 cases x with
 | false=>
  obtain⟨d,S2,h5,h6,rfl⟩:=hb v h2 S0 e _ S' (hs.grow h4);exact⟨_,S2,by unfold dY;rw[h3];exact h5,h4.trans h6,rfl⟩
 | true=>cases h2;exact⟨_,S',by unfold dY;rw[h3];rfl,h4,rfl⟩
theorem kc{pa}(ha:VE A a (rV D.bl) pa):VE A (bd a) (rV D.bl) (pa.bind λx=>some (!x)):=λv hv S0 e F S hs=>by
 obtain⟨x,h1,h2⟩:=Aw hv;cases h2;obtain⟨d,S',h3,h4,rfl⟩:=ha x h1 S0 e F S hs;exact⟨_,S',by unfold bd;rw[h3];rfl,h4,rfl⟩
end
def EqN(n:Nat)(enc:α->D)[DecidableEq α]:Prop:=∀x y,eqP n (enc x) (enc y)=some (decide (x=y))
def NL(enc:α->D):Prop:=∀x S,P4 (enc x) S=none
theorem DS:EqN n D.int:=λx y=>by
 have:N0 (.int x) (.int y)=some (decide (x=y)):=rfl
 cases n <;> exact this
theorem XE:EqN n D.str:=λx y=>by
 have:N0 (.str x) (.str y)=some (decide (x=y)):=rfl
 cases n <;> exact this
theorem Hm:NL D.int:=λ_ _=>rfl
theorem Z6:NL D.str:=λ_ _=>rfl
section
variable{a b:ME}{enc:α->D}[DecidableEq α]
theorem jG(h:EqN 8 enc)(n:NL enc)(neg:Bool)(x y:α)(S:Sto):eqD neg (enc x) (enc y) S=.ok (.bl (if neg then !decide (x=y)else decide (x=y))) S:=by
 unfold eqD eqB;rw[n x S,n y S];dsimp only;rw[h x y]
theorem Ji(h:EqN 8 enc)(n:NL enc)(ha:VE A a (rV enc) pa)(hb:VE A b (rV enc) pb):VE A (m2 (eqD false) a b) (rV D.bl) (pa.bind λx=>pb.bind λy=>some (decide (x=y))):=HS ha hb λx y z S q=>by cases q;exact jG h n false x y S
theorem oM(h:EqN 8 enc)(n:NL enc)(ha:VE A a (rV enc) pa)(hb:VE A b (rV enc) pb):VE A (m2 (eqD true) a b) (rV D.bl) (pa.bind λx=>pb.bind λy=>some (!decide (x=y))):=HS ha hb λx y z S q=>by cases q;exact jG h n true x y S
theorem Y6(h:EqN 8 enc)(x:α):∀l:List α,Op (enc x) (l.map enc)=some (decide (x∈l))
 | []=>by simp[Op]
 | y :: l=>by
  rw[BC];unfold Op;rw[h y x,Y6 h x l]
  by_cases c:y=x
  ·subst c;simp
  ·have:¬x=y:=λz=>c z.symm
   simp[c,this]
theorem W6(h:EqN 8 enc)(neg:Bool)(x:α){l:List α}{d:D}{S:Sto}(hs:Gj d S=some (l.map enc)):inA neg (enc x) d S=.ok (.bl (if neg then !decide (x∈l)else decide (x∈l))) S:=by
 show Jw (inD neg (enc x) d S) _=_
 have e:inD neg (enc x) d S=.ok (.bl (if neg then !decide (x∈l)else decide (x∈l))) S:=by
  unfold inD;rw[hs];dsimp only;rw[Y6 h]
 rw[e];rfl
theorem fm{pl:Option (List α)}(h:EqN 8 enc)(ha:VE A a (rV enc) pa)(hb:VE A b (rV (eT enc)) pl):VE A (m2 (inA false) a b) (rV D.bl) (pa.bind λx=>pl.bind λl=>some (decide (x∈l))):=HS ha hb λx l z S q=>by cases q;exact W6 h false x rfl
theorem SH{pl:Option (List α)}(h:EqN 8 enc)(ha:VE A a (rV enc) pa)(hb:VE A b (rV (eT enc)) pl):VE A (m2 (inA true) a b) (rV D.bl) (pa.bind λx=>pl.bind λl=>some (!decide (x∈l))):=HS ha hb λx l z S q=>by cases q;exact W6 h true x rfl
theorem kf{pl:Option (List α)}(h:EqN 8 enc)(ha:VE A a (rV enc) pa)(hb:VE A b (rO (oL enc)) pl):VE A (m2 (inA true) a b) (rV D.bl) (pa.bind λx=>pl.bind λl=>some (!decide (x∈l))):=Sy ha hb λx l z S n hn q=>by cases q;exact W6 h true x (Gy hn)
theorem pZ(h:EqN 8 enc){pl:Option (α×α)}(ha:VE A a (rV enc) pa)(hb:VE A b (rV (eP enc enc)) pl):VE A (m2 (inA false) a b) (rV D.bl) (pa.bind λx=>pl.bind λl=>some (decide (x∈[l.1,l.2]))):=HS ha hb λx l z S q=>by cases q;exact W6 h false x (l:=[l.1,l.2]) rfl
theorem sT(h:EqN n enc):∀l k:List α,eqL (eqP n) (l.map enc) (k.map enc)=some (decide (l=k)):=by
 intro l
 induction l with
 | nil=>intro k;cases k <;> rfl
 | cons x l ih=>
  intro k
  cases k with
  | nil=>rfl
  | cons y k=>
   rw[BC,BC];unfold eqL;rw[h x y,ih k]
   by_cases c:x=y <;> by_cases d:l=k <;> simp[c,d]
theorem dz(h:EqN 8 enc)(neg:Bool)(hn:S[n]?=some (oL enc l))(hm:S[m]?=some (oL enc k)):eqD neg (.ref n) (.ref m) S=.ok (.bl (if neg then !decide (l=k)else decide (l=k))) S:=by
 unfold eqD eqB;rw[Lh hn,Lh hm];dsimp only;rw[AF,AF]
 by_cases c:l.length=k.length
 ·rw[qX c,sT h]
 ·rw[qY c,wY λz=>c (by rw[z])]
theorem uC{f:D->D->Sto->Res D}{oa:β->Ob}{ob:γ->Ob}{ec:δ->D}{pa:Option β}{pb:Option γ}{g:β->γ->Option δ}(ha:VE A a (rO oa) pa)(hb:VE A b (rO ob) pb)
  (hf:∀x y z S (n m:Nat),S[n]?=some (oa x)->S[m]?=some (ob y)->g x y=some z->f (.ref n) (.ref m) S=.ok (ec z) S):VE A (m2 f a b) (rV ec) (pa.bind λx=>pb.bind λy=>g x y):=λv hv S0 e F S hs=>by
 obtain⟨x,h1,hv⟩:=Aw hv;obtain⟨y,h2,h3⟩:=Aw hv;obtain⟨d1,S1,q1,k1,n,rfl,hn⟩:=ha x h1 S0 e F S hs;obtain⟨d2,S2,q2,k2,m,rfl,hm⟩:=hb y h2 S0 e _ S1 (hs.grow k1);exact⟨_,S2,Dr q1 q2 (hf x y v S2 n m (k2.at hn) hm h3),k1.trans k2,rfl⟩
theorem pU{pa pb:Option (List α)}(h:EqN 8 enc)(ha:VE A a (rO (oL enc)) pa)(hb:VE A b (rO (oL enc)) pb):VE A (m2 (eqD true) a b) (rV D.bl) (pa.bind λx=>pb.bind λy=>some (!decide (x=y))):=uC ha hb λx y z S n m hn hm q=>by cases q;exact dz h true hn hm
end
section
variable{a b m mo:ME}
theorem nq(l:List α)(i:Int)(f:α->β):atI (l.map f) i=(atI l i).map f:=by
 unfold atI;rw[AF]
 cases ixN l.length i with
 | none=>rfl
 | some j=>show(l.map f)[j]?=(l[j]?).map f;rw[Ab]
theorem aK(hs:Gj d S=some (l.map enc))(h:atI l i=some x):ixA d (.int i) S=.ok (enc x) S:=by
 show Jw (ixD d (.int i) S) _=_
 have:ixD d (.int i) S=.ok (enc x) S:=by
  unfold ixD;rw[hs];dsimp only;rw[nq,h];rfl
 rw[this];rfl
theorem Ow(ha:VE A a (rV (eT enc)) pl)(hb:VE A b (rV D.int) pi):VE A (m2 ixA a b) (rV enc) (pl.bind λl=>pi.bind λi=>atI l i):=HS ha hb λl i z S q=>aK rfl q
theorem fj{pl}(ha:VE A a (rV eF) pl)(hb:VE A b (rV D.int) pi):VE A (m2 ixA a b) (rV D.int) (pl.bind λl=>pi.bind λi=>atI l i):=HS ha hb λl i z S q=>aK rfl q
theorem Gi(ha:VE A a (rO (oL enc)) pl)(hb:VE A b (rV D.int) pi):VE A (m2 ixA a b) (rV enc) (pl.bind λl=>pi.bind λi=>atI l i):=WU ha hb λl i z S n hn q=>aK (Gy hn) q
theorem WT(ha:VE A a (rV (eP a' b')) p):VE A (m2 ixA a (mC (.int 0))) (rV a') (p.bind λx=>some x.1):=λv hv S0 e F S hs=>by
 obtain⟨x,h1,h2⟩:=Aw hv;cases h2;obtain⟨d,S',h3,h4,rfl⟩:=ha x h1 S0 e F S hs;exact⟨_,S',Dr h3 rfl (bq (ds:=[a' x.1,b' x.2]) rfl (by decide) rfl),h4,rfl⟩
theorem Za(ha:VE A a (rV (eP a' b')) p):VE A (m2 ixA a (mC (.int 1))) (rV b') (p.bind λx=>some x.2):=λv hv S0 e F S hs=>by
 obtain⟨x,h1,h2⟩:=Aw hv;cases h2;obtain⟨d,S',h3,h4,rfl⟩:=ha x h1 S0 e F S hs;exact⟨_,S',Dr h3 rfl (bq (ds:=[a' x.1,b' x.2]) rfl (by decide) rfl),h4,rfl⟩
theorem WR(ha:VE A a (rV (eT enc)) pl):VE A (Lg a) (rV D.int) (pl.bind λl=>some (l.length:Int)):=λv hv S0 e F S hs=>by
 obtain⟨l,h1,h2⟩:=Aw hv;cases h2;obtain⟨d,S',h3,h4,rfl⟩:=ha l h1 S0 e F S hs;exact⟨_,S',(aI (ds:=l.map enc) h3 rfl).trans (by rw[AF]),h4,rfl⟩
theorem bG{pl}(ha:VE A a (rV eF) pl):VE A (Lg a) (rV D.int) (pl.bind λl=>some (l.length:Int)):=λv hv S0 e F S hs=>by
 obtain⟨l,h1,h2⟩:=Aw hv;cases h2;obtain⟨d,S',h3,h4,rfl⟩:=ha l h1 S0 e F S hs;exact⟨_,S',(aI (ds:=l.map D.int) h3 rfl).trans (by rw[AF]),h4,rfl⟩
theorem L7(ha:VE A a (rO (oL enc)) pl):VE A (Lg a) (rV D.int) (pl.bind λl=>some (l.length:Int)):=λv hv S0 e F S hs=>by
 obtain⟨l,h1,h2⟩:=Aw hv;cases h2;obtain⟨d,S',h3,h4,n,rfl,hn⟩:=ha l h1 S0 e F S hs;exact⟨_,S',(aI (ds:=l.map enc) h3 (Gy hn)).trans (by rw[AF]),h4,rfl⟩
theorem Nm:∀ns:List Int,JQ (ns.map D.int)=some ns
 | []=>rfl
 | x :: ns=>by rw[BC];unfold JQ;rw[Nm ns];rfl
theorem IM(ha:VE A a (rO (oL enc)) pl):VE A (Gk a) (rV (eT enc)) pl:=λl hv S0 e F S hs=>by
 obtain⟨d,S',h3,h4,n,rfl,hn⟩:=ha l hv S0 e F S hs;exact⟨_,S',Pr h3 (Gy hn),h4,rfl⟩
theorem kW(ha:VE A a (rO (oL enc)) pl):VL A (Tz a) enc pl:=λl hv S0 e F S hs=>by
 obtain⟨d,S',h3,h4,n,rfl,hn⟩:=ha l hv S0 e F S hs;exact⟨S',oS h3 (Gy hn),h4⟩
theorem kX(h:VL A ml enc pl):VL A (mN bm ml) enc pl:=λl hv S0 e F S hs=>by
 obtain⟨S',h3,h4⟩:=h l hv S0 e F S hs;exact⟨S',by unfold mN;rw[h3];rfl,h4⟩
theorem HQ:VL A BO enc (some []):=λv hv S0 e F S hs=>by cases hv;exact⟨S,rfl,Keeps.refl S⟩
theorem OG(h:VE A m (rV enc) p)(hl:VL A ml enc pl):VL A (AO m ml) enc (p.bind λx=>pl.bind λl=>some (x :: l)):=λv hv S0 e F S hs=>by
 obtain⟨x,h1,h2⟩:=Aw hv;obtain⟨l,zK,h3⟩:=Aw h2;cases h3;obtain⟨d,S1,h4,h5,rfl⟩:=h x h1 S0 e F S hs;obtain⟨S2,h6,h7⟩:=hl l zK S0 e _ S1 (hs.grow h5);exact⟨S2,Cz h4 h6,h5.trans h7⟩
def KP(l:List α):Option (List α):=if l.length<=1000000 then some l else none
theorem F9(h:VL A ml enc pl):VL A (GJ ml) enc (pl.bind KP):=λv hv S0 e F S hs=>by
 obtain⟨l,h1,h2⟩:=Aw hv;unfold KP at h2;split at h2
 ·rename_i hl
  cases h2;obtain⟨S',h3,h4⟩:=h _ h1 S0 e F S hs;refine⟨S',?_,h4⟩;unfold GJ;rw[h3];dsimp only[Res.bind];rw[qX (by rw[AF];exact mr hl)]
 ·cases h2
theorem ZZ(h:VL A ml enc pl):VE A (Jy ml) (rV (eT enc)) (pl.bind KP):=λv hv S0 e F S hs=>by
 obtain⟨l,h1,h2⟩:=Aw hv;unfold KP at h2;split at h2
 ·rename_i hl
  cases h2;obtain⟨S',h3,h4⟩:=h _ h1 S0 e F S hs;refine⟨_,S',?_,h4,rfl⟩;unfold Jy;rw[h3];dsimp only[Res.bind];rw[qX (by rw[AF];exact mr hl)];rfl
 ·cases h2
theorem JT(ha:VE A a (rV a') pa)(hb:VE A b (rV b') pb):VE A (Jy (AO a (AO b BO))) (rV (eP a' b')) (pa.bind λx=>pb.bind λy=>some (x,y)):=λv hv S0 e F S hs=>by
 obtain⟨x,h1,hv⟩:=Aw hv;obtain⟨y,h2,h3⟩:=Aw hv;cases h3;obtain⟨d1,S1,q1,k1,rfl⟩:=ha x h1 S0 e F S hs;obtain⟨d2,S2,q2,k2,rfl⟩:=hb y h2 S0 e _ S1 (hs.grow k1);exact⟨_,S2,Zk (ds:=[a' x,b' y]) (Cz q1 (Cz q2 rfl)) (by simp),k1.trans k2,rfl⟩
theorem bK(ha:VE A a (rV (eT enc)) pl)(hb:VE A b (rV (eT enc)) pk):VE A (m2 Iw a b) (rV (eT enc)) (pl.bind λl=>pk.bind λk=>Yv l k):=HS ha hb λl k z S q=>by
 unfold Yv at q;split at q
 ·rename_i hl
  cases q;unfold eT;rw[CU];exact lA (by rw[AF,AF];exact mr hl)
 ·cases q
theorem kt(ha:VE A a (rO (oL enc)) pl)(hb:VE A b (rO (oL enc)) pk):VE A (m2 Iw a b) (rN (oL enc)) (pl.bind λl=>pk.bind λk=>Yv l k):=λv hv S0 e F S hs=>by
 obtain⟨x,h1,hv⟩:=Aw hv;obtain⟨y,h2,h3⟩:=Aw hv;obtain⟨d1,S1,q1,k1,n,rfl,hn⟩:=ha x h1 S0 e F S hs;obtain⟨d2,S2,q2,k2,m,rfl,hm⟩:=hb y h2 S0 e _ S1 (hs.grow k1);unfold Yv at h3;split at h3
 ·rename_i hl
  cases h3;refine⟨_,_,Dr q1 q2 (d:=.ref S2.length) (S3:=S2++[oL enc (x++y)]) ?_,(k1.trans k2).trans (Keeps.app _ _),_,rfl,(k1.trans k2).1,Ep _ _⟩;unfold Iw;dsimp only;rw[k2.at hn,hm];unfold oL;dsimp only;rw[qX (by rw[AF,AF];exact mr hl),CU]
 ·cases h3
def VO(A:List Sl)(mo:MO)(p:Option (Option Int)):Prop:=∀v,p=some v->∀S0 e F S,Vs S0 A e F S->∃S',mo e S=.ok v S'/\Keeps S S'
theorem SG:VO A Vk (some none):=λv hv S0 e F S hs=>by cases hv;exact⟨S,rfl,Keeps.refl S⟩
theorem SF(h:VE A m (rV D.int) pi):VO A (Ts m) (pi.bind λi=>some (some i)):=λv hv S0 e F S hs=>by
 obtain⟨x,h1,h2⟩:=Aw hv;cases h2;obtain⟨d,S',h3,h4,rfl⟩:=h x h1 S0 e F S hs;exact⟨S',by unfold Ts;rw[h3];rfl,h4⟩
theorem UW(l:List α)(f:α->β)(lo hi:Option Int):HE (l.map f) lo hi=(HE l lo hi).map f:=by
 unfold HE;rw[AF,<-pI,<-pH]
theorem bJ(ha:VE A a (rV (eT enc)) pl)(hl:VO A mlo po)(hh:VO A mhi ph):VE A (P2 a mlo mhi) (rV (eT enc)) (pl.bind λl=>po.bind λx=>ph.bind λy=>some (HE l x y)):=λv hv S0 e F S hs=>by
 obtain⟨l,h1,hv⟩:=Aw hv;obtain⟨x,h2,hv⟩:=Aw hv;obtain⟨y,h3,h4⟩:=Aw hv;cases h4;obtain⟨d1,S1,q1,k1,rfl⟩:=ha l h1 S0 e F S hs;obtain⟨S2,q2,k2⟩:=hl x h2 S0 e _ S1 (hs.grow k1);obtain⟨S3,q3,k3⟩:=hh y h3 S0 e _ S2 ((hs.grow k1).grow k2);refine⟨_,S3,?_,(k1.trans k2).trans k3,rfl⟩;unfold P2;rw[q1];dsimp only[Res.bind];rw[q2];dsimp only;rw[q3];show Res.ok (D.tup (HE (l.map enc) x y)) S3=_;rw[UW];rfl
theorem ko(ha:VE A a (rO (oL enc)) pl)(hl:VO A mlo po)(hh:VO A mhi ph):VE A (PD a mlo mhi) (rN (oL enc)) (pl.bind λl=>po.bind λx=>ph.bind λy=>some (HE l x y)):=λv hv S0 e F S hs=>by
 obtain⟨l,h1,hv⟩:=Aw hv;obtain⟨x,h2,hv⟩:=Aw hv;obtain⟨y,h3,h4⟩:=Aw hv;cases h4;obtain⟨d1,S1,q1,k1,n,rfl,hn⟩:=ha l h1 S0 e F S hs;obtain⟨S2,q2,k2⟩:=hl x h2 S0 e _ S1 (hs.grow k1);obtain⟨S3,q3,k3⟩:=hh y h3 S0 e _ S2 ((hs.grow k1).grow k2);refine⟨.ref S3.length,S3++[oL enc (HE l x y)],?_,((k1.trans k2).trans k3).trans (Keeps.app _ _),_,rfl,((k1.trans k2).trans k3).1,Ep _ _⟩;unfold PD;rw[q1];dsimp only[Res.bind];rw[q2];dsimp only;rw[q3];dsimp only;unfold We;dsimp only;rw[Lh ((k2.trans k3).at hn)];show Res.ok _ (S3++[Ob.lst (HE (l.map enc) x y)])=_;rw[UW];rfl
def QH{α β:Type}(l:List α)(v:β):Option β:=if l.length < 64 then some v else none
theorem QG{α β:Type}{l:List α}{v:β}(h:l.length < 64):QH l v=some v:=qX h
theorem UP{α β:Type}{l:List α}{v u:β}(h:QH l v=some u):l.length < 64/\v=u:=by
 unfold QH at h;split at h
 ·cases h
  exact⟨by assumption,rfl⟩
 ·cases h
theorem fY{pl}(ha:VE A a (rO (oL D.int)) pl):VE A (Ge a) (rN (oL D.int)) (pl.bind λl=>QH l (CI l)):=λv hv S0 e F S hs=>by
 obtain⟨l,h1,h2⟩:=Aw hv;obtain⟨Ω,rfl⟩:=UP h2;obtain⟨d,S',h3,h4,n,rfl,hn⟩:=ha l h1 S0 e F S hs;refine⟨_,_,OK h3 (UG hn) (es:=(CI l).map D.int) ?_,h4.trans (Keeps.app _ _),_,rfl,h4.1,Ep _ _⟩;unfold LZ;rw[qX (by rw[AF];exact Ω)];rw[Nm]
theorem NM(ha:VE A a (rV (eT enc)) pl):VI A (EE a) enc pl:=λl hv S0 e F S hs=>by
 obtain⟨d,S',h3,h4,rfl⟩:=ha l hv S0 e F S hs;exact⟨_,S',UJ (xs:=l.map enc) h3,h4,λ_ _ _ _=>rfl⟩
theorem Ou(ha:VE A a (rN (oL enc)) pl):VI A (EE a) enc pl:=λl hv S0 e F S hs=>by
 obtain⟨d,S',h3,h4,n,rfl,h5,h6⟩:=ha l hv S0 e F S hs;exact⟨_,S',Lj h3 h6,h4,λF2 S2 hF h=>De (h n _ (hF _ _ (Ny h5 h6)))⟩
theorem WP(h:A[i]?=some (.z (oL enc l))):VI A (EE (AE i)) enc (some l):=λ_ hv S0 e F S hs=>by
 cases hv;obtain⟨x,h1,n,rfl,h2⟩:=hs.sl i _ h;have hn:=hs.fz _ _ h2;exact⟨_,S,Lj (n:=n) (by unfold AE;rw[h1]) hn,Keeps.refl S,λF2 S2 hF h=>De (h n _ (hF _ _ (by rw[GN (BW hn)];exact h2)))⟩
theorem bE(h:A[i]?=some (.y (oL enc l))):VI A (EE (AE i)) enc (some l):=λ_ hv S0 e F S hs=>by
 cases hv;obtain⟨x,h1,n,rfl,h2,_⟩:=hs.sl i _ h;have hn:=hs.fz _ _ h2;exact⟨_,S,Lj (n:=n) (by unfold AE;rw[h1]) hn,Keeps.refl S,λF2 S2 hF h=>De (h n _ (hF _ _ (by rw[GN (BW hn)];exact h2)))⟩
def DW(lo:Int)(n:Nat):List Int:=(D4 n).map λi:Nat=>lo+i
def O5(j:Int):Option (List Int):=if -1000000<=j/\j<=1000000 then some (DW 0 j.toNat)else none
def Zy(i j:Int):Option (List Int):=if -1000000<=i/\i<=1000000/\-1000000<=j/\j<=1000000 then some (DW i (j - i).toNat)else none
theorem gh(lo:Int)(n:Nat):Jv lo n=(DW lo n).map D.int:=by
 unfold Jv DW;rw[BL];rfl
theorem Ez(ha:VE A a (rV D.int) pi):VI A (iR1 (AO a BO)) D.int (pi.bind O5):=λl hv S0 e F S hs=>by
 obtain⟨j,h1,h2⟩:=Aw hv;obtain⟨d,S',h3,h4,rfl⟩:=ha j h1 S0 e F S hs;unfold O5 at h2;split at h2
 ·rename_i hj
  cases h2;exact⟨_,S',ig (j:=j) (Cz h3 rfl) hj.1 hj.2,h4,λ_ _ _ _=>congrArg some (gh _ _)⟩
 ·cases h2
theorem OH(ha:VE A a (rV D.int) pi)(hb:VE A b (rV D.int) pj):VI A (iR2 (AO a (AO b BO))) D.int (pi.bind λi=>pj.bind λj=>Zy i j):=λl hv S0 e F S hs=>by
 obtain⟨i,h1,hv⟩:=Aw hv;obtain⟨j,h0,h2⟩:=Aw hv;obtain⟨d,S1,h3,h4,rfl⟩:=ha i h1 S0 e F S hs;obtain⟨d,S2,h5,h6,rfl⟩:=hb j h0 S0 e _ S1 (hs.grow h4);unfold Zy at h2;split at h2
 ·rename_i hj
  cases h2;exact⟨_,S2,rm (i:=i) (j:=j) (Cz h3 (Cz h5 rfl)) hj.1 hj.2.1 hj.2.2.1 hj.2.2.2,h4.trans h6,λ_ _ _ _=>congrArg some (gh _ _)⟩
 ·cases h2
def DJ(l:List α):List (Int×α):=l.zipIdx.map λx=>((x.2:Int),x.1)
theorem Q9(l:List α):UU (l.map enc)=(DJ l).map (eP D.int enc):=by
 unfold UU DJ;rw[j9,BL,BL];rfl
theorem fV(ha:VE A a (rO (oL enc)) pl):VK A (Yp a) enc (pl.bind λl=>some l.reverse):=λv hv S0 e F S hs=>by
 obtain⟨l,h1,h2⟩:=Aw hv;cases h2;obtain⟨d,S',h3,h4,n,rfl,hn⟩:=ha l h1 S0 e F S hs;refine⟨Xw (.ref n) (l.map enc).length,S',?_,h4,λS2 k=>?_⟩
 ·unfold Yp
  rw[h3];dsimp only[Res.bind];rw[Lh hn]
 ·unfold Xw
  rw[Lh (k.at hn)];dsimp only;rw[qX rfl,jp]
def NN(enc:α->D):Prop:=∀x S neg,UH neg (enc x) .non S=.ok (.bl neg) S
theorem rJ:NN (eT enc):=λ_ _ _=>rfl
theorem pW(hn:NN enc)(ha:VE A a (rV (eO enc)) p):VE A (m2 (UH false) a (mC .non)) (rV D.bl) (p.bind λo=>some o.isNone):=λv hv S0 e F S hs=>by
 obtain⟨x,h1,h2⟩:=Aw hv;cases h2;obtain⟨d,S',h3,h4,rfl⟩:=ha x h1 S0 e F S hs;refine⟨_,S',Dr h3 rfl ?_,h4,rfl⟩
 cases x with
 | none=>rfl
 | some y=>exact hn y S' false
theorem fo(ha:VE A a (rV (eO enc)) p):VE A a (rV enc) (p.bind λo=>o):=λv hv S0 e F S hs=>by
 obtain⟨x,h1,h2⟩:=Aw hv;cases h2;exact ha _ h1 S0 e F S hs
theorem bF(ha:VE A a (rV enc) p):VE A a (rV (eO enc)) (p.bind λo=>some (some o)):=λv hv S0 e F S hs=>by
 obtain⟨x,h1,h2⟩:=Aw hv;cases h2;exact ha _ h1 S0 e F S hs
theorem ke:VE A (mC .non) (rV (eO enc)) (some none):=CO rfl
end
end
section
variable{α β ρ σ κ κ':Type}
def oDK(enc:α->D)(l:List (Int×α)):Ob:=.dK (l.map λx=>(Dg x.1,enc x.2))
def kP(x:Int×Int):List Key:=[Dg x.1,Dg x.2]
def oDP(enc:α->D)(l:List ((Int×Int)×α)):Ob:=.dT (l.map λx=>(kP x.1,enc x.2))
theorem Pm[DecidableEq κ][DecidableEq κ']{kk:κ->κ'}(hk:∀x y,kk x=kk y->x=y)(f:α->β)(l:List (κ×α))(k:κ):Aj (l.map λx=>(kk x.1,f x.2)) (kk k)=(Aj l k).map f:=by
 unfold Aj
 induction l with
 | nil=>rfl
 | cons x l ih=>
  rw[BC,CV,CV]
  by_cases c:x.1=k
  ·rw[wX c,wX (show kk x.1=kk k by rw[c])]
   rfl
  ·rw[wY c,wY λz=>c (hk _ _ z)]
   exact ih
theorem Px[DecidableEq κ][DecidableEq κ']{kk:κ->κ'}(hk:∀x y,kk x=kk y->x=y)(f:α->β)(l:List (κ×α))(k:κ)(v:α):B9 (l.map λx=>(kk x.1,f x.2)) (kk k) (f v)=(B9 l k v).map λx=>(kk x.1,f x.2):=by
 have any:((l.map λx=>(kk x.1,f x.2)).any λkv=>decide (kv.1=kk k))=l.any λkv=>decide (kv.1=k):=by
  rw[List.any_map]
  congr 1
  funext x
  exact decide_eq_decide.mpr ⟨hk _ _,λz=>congrArg kk z⟩
 unfold B9;rw[any];split
 ·rw[BL,BL]
  refine DV λx _=>?_
  show(if kk x.1=kk k then(kk x.1,f v)else(kk x.1,f x.2))=_
  by_cases c:x.1=k
  ·show _=(λx:κ×α=>(kk x.1,f x.2)) (if x.1=k then(x.1,v)else x)
   rw[qX c,qX (show kk x.1=kk k by rw[c])]
  ·show _=(λx:κ×α=>(kk x.1,f x.2)) (if x.1=k then(x.1,v)else x)
   rw[qY c,qY λz=>c (hk _ _ z)]
 ·rw[CU]
  rfl
theorem SO(x y:Int)(h:(Dg x:Key)=Dg y):x=y:=by cases h;rfl
theorem iZ(x y:Int×Int)(h:kP x=kP y):x=y:=by
 obtain⟨a,b⟩:=x;obtain⟨c,d⟩:=y;unfold kP at h;cases h;rfl
theorem jP{enc:α->D}{l:List (Int×α)}{n:Nat}{S:Sto}(h:S[n]?=some (oDK enc l))(k:Int):NA (.ref n) (.int k) S=some ((Aj l k).map enc):=by
 unfold NA;dsimp only;rw[h];show some (Aj _ (Dg k))=_;rw[Pm SO]
theorem jO{enc:α->D}{l:List ((Int×Int)×α)}{n:Nat}{S:Sto}(h:S[n]?=some (oDP enc l))(k:Int×Int):NA (.ref n) (eP D.int D.int k) S=some ((Aj l k).map enc):=by
 unfold NA;dsimp only;rw[h];show some (Aj _ (kP k))=_;rw[Pm iZ]
theorem RB(hq:Gj (.ref n) S=none)(h:NA (.ref n) y S=some o)(neg:Bool):inA neg y (.ref n) S=.ok (.bl (if neg then !o.isSome else o.isSome)) S:=by
 show Jw (inD neg y (.ref n) S) (OZ neg y (.ref n) S)=_;rw[show inD neg y (.ref n) S=.bad by unfold inD;rw[hq]];show OZ neg y (.ref n) S=_;unfold OZ;rw[h]
theorem RA(hq:Gj (.ref n) S=none)(h:NA (.ref n) y S=some (some d)):ixA (.ref n) y S=.ok d S:=by
 show Jw (ixD (.ref n) y S) (UV (.ref n) y S)=_;rw[show ixD (.ref n) y S=.bad by unfold ixD;rw[hq]];show UV (.ref n) y S=_;unfold UV;rw[h]
theorem qK(h:S[n]?=some (oDK enc l)):Gj (.ref n) S=none:=by unfold Gj;dsimp only;rw[h];rfl
theorem qJ(h:S[n]?=some (oDP enc l)):Gj (.ref n) S=none:=by unfold Gj;dsimp only;rw[h];rfl
section
theorem Xy:VE A Jz (rN (oDK enc)) (some []):=λv hv S0 e F S hs=>by cases hv;exact⟨_,_,rfl,Keeps.app _ _,_,rfl,AL _,Ep _ _⟩
theorem fy:VE A Nj (rN (oDP enc)) (some []):=λv hv S0 e F S hs=>by cases hv;exact⟨_,_,rfl,Keeps.app _ _,_,rfl,AL _,Ep _ _⟩
theorem Xx{pk}{pl}(ha:VE A a (rV D.int) pk)(hb:VE A b (rO (oDK enc)) pl):VE A (m2 (inA true) a b) (rV D.bl) (pk.bind λx=>pl.bind λl=>some (!(Aj l x).isSome)):=Sy ha hb λx l z S n hn q=>by cases q;rw[RB (qK hn) (jP hn x)];simp
theorem kn{pk}{pl}(ha:VE A a (rV (eP D.int D.int)) pk)(hb:VE A b (rO (oDP enc)) pl):VE A (m2 (inA false) a b) (rV D.bl) (pk.bind λx=>pl.bind λl=>some (Aj l x).isSome):=Sy ha hb λx l z S n hn q=>by cases q;rw[RB (qJ hn) (jO hn x)];simp
theorem fv{pk}{pl}(ha:VE A a (rV (eP D.int D.int)) pk)(hb:VE A b (rO (oDP enc)) pl):VE A (m2 (inA true) a b) (rV D.bl) (pk.bind λx=>pl.bind λl=>some (!(Aj l x).isSome)):=Sy ha hb λx l z S n hn q=>by cases q;rw[RB (qJ hn) (jO hn x)];simp
theorem X0(ha:VE A a (rO (oDP enc)) pl)(hb:VE A b (rV (eP D.int D.int)) pk):VE A (m2 ixA a b) (rV enc) (pl.bind λl=>pk.bind λx=>Aj l x):=WU ha hb λl x z S n hn q=>RA (qJ hn) (by rw[jO hn x,q];rfl)
def HD[DecidableEq κ](l:List (κ×α))(k:κ)(v:α):Option (List (κ×α)):=if l.length < 1000000 then some (B9 l k v)else none
theorem WN{ek:κ->D}[DecidableEq κ]{ob:List (κ×α)->Ob}{R:Rk ρ}{p:Option α}{pk:Option κ}{i:Nat}{l:List (κ×α)}
  (xX:∀(l:List (κ×α)) (k:κ) (v:α) (S:Sto) (n:Nat),S[n]?=some (ob l)->l.length < 1000000->RC (.ref n) (ek k) (enc v) S=some (S.set n (ob (B9 l k v))))
  (hi:A[i]?=some (.w i (ob l))) (hk:VE A b (rV ek) pk) (h:VE A m (rV enc) p) (ht:((A.set i .u).all (Sl.oth i))=true) :
  VS A (Cm (AE i) b m) R (p.bind λv=>pk.bind λk=>(HD l k v).bind λl'=>some (.nx l')) (λl'=>A.set i (.w i (ob l'))):=λf hf S0 e F S hs=>by
 obtain⟨v,h1,h2⟩:=Aw hf;obtain⟨k,zK,h3⟩:=Aw h2;obtain⟨l',h4,h0⟩:=Aw h3;cases h0;unfold HD at h4;split at h4
 ·rename_i hl
  cases h4;obtain⟨x,g1,n,rfl,g2,g3⟩:=hs.sl i _ hi;obtain⟨d,S1,h5,h6,rfl⟩:=h v h1 S0 e F S hs;obtain⟨d,S2,h7,h8,rfl⟩:=hk k zK S0 e _ S1 (hs.grow h6);have hg:=(hs.grow h6).grow h8;have hn:=(h6.trans h8).at g3
  have hx:Cm (AE i) b m e S=.ok (.nx e) (S2.set n (ob (B9 l k v))):=by
   unfold Cm;rw[h5];dsimp only[Res.lift];rw[show AE i e S1=.ok (.ref n) S1 by unfold AE;rw[g1]];dsimp only;rw[h7];dsimp only;rw[xX l k v S2 n hn hl]
  have hF:Q6 (Q6 F S S1) S1 S2 n=.ow i:=by rw[GN (BW (h6.at g3)),GN (BW g3)];exact g2
  exact⟨_,_,hx,e,_,rfl,hg.put ht hi g1 hF,(hs.fle S1).trans ((hs.grow h6).fle S2)⟩
 ·cases h4
theorem Xu{R:Rk ρ}{p:Option α}{pk:Option Int}{i:Nat}{l:List (Int×α)}(hi:A[i]?=some (.w i (oDK enc l)))(hk:VE A b (rV D.int) pk)(h:VE A m (rV enc) p)(ht:((A.set i .u).all (Sl.oth i))=true) :
  VS A (Cm (AE i) b m) R (p.bind λv=>pk.bind λk=>(HD l k v).bind λl'=>some (.nx l')) (λl'=>A.set i (.w i (oDK enc l'))):=
 WN (λl k v S n hn hl=>by
  unfold RC;dsimp only;rw[hn];show(if (l.map _).length < sizeLine then some (S.set n (.dK (B9 (l.map λx=>(Dg x.1,enc x.2)) (Dg k) (enc v))))else none)=_;rw[qX (by rw[AF];exact Yj hl),Px SO]
  rfl) hi hk h ht
theorem Xt{R:Rk ρ}{p:Option α}{pk:Option (Int×Int)}{i:Nat}{l:List ((Int×Int)×α)}(hi:A[i]?=some (.w i (oDP enc l)))(hk:VE A b (rV (eP D.int D.int)) pk)(h:VE A m (rV enc) p)(ht:((A.set i .u).all (Sl.oth i))=true) :
  VS A (Cm (AE i) b m) R (p.bind λv=>pk.bind λk=>(HD l k v).bind λl'=>some (.nx l')) (λl'=>A.set i (.w i (oDP enc l'))):=
 WN (λl k v S n hn hl=>by
  unfold RC;dsimp only;rw[hn];show(if (l.map _).length < sizeLine then some (S.set n (.dT (B9 (l.map λx=>(kP x.1,enc x.2)) (kP k) (enc v))))else none)=_;rw[qX (by rw[AF];exact Yj hl),Px iZ]
  rfl) hi hk h ht
theorem kz(h:VE A m (rV (eT enc)) pl):VB A (FX m) (pl.bind λl=>some (!l.isEmpty)):=λv hv S0 e F S hs=>by
 obtain⟨l,h1,h2⟩:=Aw hv;cases h2;obtain⟨d,S',h3,h4,rfl⟩:=h l h1 S0 e F S hs;refine⟨S',?_,h4⟩;unfold FX;rw[h3]
 cases l <;> rfl
theorem k6(h:VE A m (rO (oL enc)) pl):VB A (FX m) (pl.bind λl=>some (!l.isEmpty)):=λv hv S0 e F S hs=>by
 obtain⟨l,h1,h2⟩:=Aw hv;cases h2;obtain⟨d,S',h3,h4,n,rfl,hn⟩:=h l h1 S0 e F S hs;refine⟨S',?_,h4⟩;unfold FX;rw[h3];dsimp only[Res.bind]
 have:RS (.ref n) S'=some (!l.isEmpty):=by
  unfold RS;dsimp only;rw[hn]
  cases l <;> rfl
 rw[this]
theorem ZX{b:MS}{R:Rk ρ}{B:σ->List Sl}:VS A b R none B:=λf hf=>by cases hf
theorem WQ(h:A[i]?=some (.y (oL enc l))):VI A (J1 (AE i)) (eP D.int enc) (some (DJ l)):=λ_ hv S0 e F S hs=>by
 cases hv;obtain⟨x,h1,n,rfl,h2,_⟩:=hs.sl i _ h;have hn:=hs.fz _ _ h2;refine⟨Of (Ff (.ref n)),S,?_,Keeps.refl S,λF2 S2 hF h=>?_⟩
 ·unfold J1
  rw[show AE i e S=.ok (.ref n) S by unfold AE;rw[h1]];dsimp only[Res.bind];rw[De hn]
 ·unfold Of
  rw[De (h n _ (hF _ _ (by rw[GN (BW hn)];exact h2)))];exact congrArg some (Q9 l)
theorem fX(ha:VE A a (rO (oL D.int)) pl):VE A (iM a) (rV D.int) (pl.bind λl=>some (TF l)):=λv hv S0 e F S hs=>by
 obtain⟨l,h1,h2⟩:=Aw hv;cases h2;obtain⟨d,S',h3,h4,n,rfl,hn⟩:=ha l h1 S0 e F S hs;refine⟨_,S',?_,h4,rfl⟩;unfold iM;rw[h3];dsimp only[Res.bind];rw[Lh hn];dsimp only;rw[Nm]
end
end
section
variable{α ρ σ:Type}
theorem BI:BD (some (.nx s)) q=q s:=rfl
theorem jc:BD (some (.rt r)) q=some (.rt r):=rfl
theorem md:EA (ρ:=ρ) g (some (.nx s))=some (.nx (g s)):=rfl
theorem bW:FW (some (.rt r:Fw ρ σ))=some r:=rfl
theorem mL:mM (some (.nx s))=some ():=rfl
theorem SU{l:List α}{q:σ->α->Option (Fw ρ σ)}{s0:σ}(I:List α->σ->Prop)(h0:I [] s0)(h:∀pre x s,x∈l->pre++[x] <+: l->I pre s->∃s',q s x=some (.nx s')/\I (pre++[x]) s'):∃s,EV l s0 q=some (.nx s)/\I l s:=by
 have key:∀(r pre:List α) (s:σ),l=pre++r->I pre s->∃s',EV r s q=some (.nx s')/\I l s':=by
  intro r
  induction r with
  | nil=>intro pre s e hI;rw[CG]at e;subst e;exact⟨s,rfl,hI⟩
  | cons x r ih=>
   intro pre s e hI;obtain⟨s',h1,h2⟩:=h pre x s (by rw[e];simp) ⟨r,by rw[e];simp⟩ hI;obtain⟨s2,h3,h4⟩:=ih (pre++[x]) s' (by rw[e];simp) h2;refine⟨s2,?_,h4⟩;unfold EV;rw[h1];exact h3
 exact key l [] s0 rfl h0
theorem i9(I:List α->σ->Prop)(R:ρ->Prop)(h0:I [] s0)(h:∀pre x s,x∈l->pre++[x] <+: l->I pre s->(∃s',q s x=some (.nx s')/\I (pre++[x]) s')∨∃r,q s x=some (.rt r)/\R r):(∃s,EV l s0 q=some (.nx s)/\I l s)∨∃r,EV l s0 q=some (.rt r)/\R r:=by
 have key:∀(r pre:List α) (s:σ),l=pre++r->I pre s->(∃s',EV r s q=some (.nx s')/\I l s')∨∃y,EV r s q=some (.rt y)/\R y:=by
  intro r
  induction r with
  | nil=>intro pre s e hI;rw[CG]at e;subst e;exact .inl ⟨s,rfl,hI⟩
  | cons x r ih=>
   intro pre s e hI
   rcases h pre x s (by rw[e];simp) ⟨r,by rw[e];simp⟩ hI with⟨s',h1,h2⟩ | ⟨y,h1,h2⟩
   ·have e':EV (x :: r) s q=EV r s' q:=by
     conv=>lhs;unfold EV
     rw[h1]
    rw[e'];exact ih (pre++[x]) s' (by rw[e];simp) h2
   ·refine .inr ⟨y,?_,h2⟩
    unfold EV;rw[h1]
 exact key l [] s0 rfl h0
theorem jT(hc:∀x∈l,c x=some (P x))(hm:∀x∈l,P x=true->m x=some (f x)):UZ c m l=some ((l.filter P).map f):=by
 induction l with
 | nil=>rfl
 | cons x l ih=>
  have ih:=ih (λy hy=>hc y (AS _ hy)) λy hy=>hm y (AS _ hy)
  unfold UZ;rw[hc x AT];show(if P x=true then _ else _)=_
  cases hp:P x with
  | true=>
   rw[qX rfl,hm x AT hp,ih,Xn hp];rfl
  | false=>
   rw[qY AK,ih,Xo (by rw[hp];exact AK)]
theorem QK(hl:l.length<=1000000)(hc:∀x∈l,c x=some (P x))(hm:∀x∈l,P x=true->m x=some (f x)):EO l c m=some ((l.filter P).map f):=by
 unfold EO;rw[qX hl,jT hc hm]
theorem FR(hl:l.length<=1000000)(hm:∀x∈l,m x=some (f x)):EO l (λ_=>some true) m=some (l.map f):=by
 rw[QK (P:=λ_=>true) hl (λ_ _=>rfl) λx hx _=>hm x hx,List.filter_eq_self.mpr λ_ _=>rfl]
theorem J8(hl:l.length<=1000000)(hc:∀x∈l,c x=some (P x)):EO l c (λx=>some x)=some (l.filter P):=by
 rw[QK (f:=λx=>x) hl hc λx hx _=>rfl,tP]
theorem SX(h:l.length < 1000000):RG l x=some (l++[x]):=qX h
theorem nT(h:l.length+k.length<=1000000):Yv l k=some (l++k):=qX h
theorem nQ(h:l.length<=1000000):KP l=some l:=qX h
theorem nR:KP ([]:List α)=some []:=rfl
theorem few1(a:α):KP [a]=some [a]:=qX (by simp)
theorem few2(a b:α):KP [a,b]=some [a,b]:=qX (by simp)
theorem OM(h0:-1000000<=j)(h1:j<=1000000):O5 j=some (DW 0 j.toNat):=qX ⟨h0,h1⟩
theorem lU(h0:-1000000<=i)(h1:i<=1000000)(h2:-1000000<=j)(h3:j<=1000000):Zy i j=some (DW i (j - i).toNat):=qX ⟨h0,h1,h2,h3⟩
theorem Ce{lo:Int}{n:Nat}{x:Int}:x∈DW lo n↔lo<=x/\x < lo+n:=by
 unfold DW;rw[Av]
 constructor
 ·rintro⟨k,hk,rfl⟩
  have:=Od.mp hk
  lia
 ·rintro⟨h1,h2⟩
  exact⟨(x - lo).toNat,Od.mpr (by lia),by lia⟩
theorem CJ(lo:Int)(n:Nat):(DW lo n).length=n:=by unfold DW;rw[AF,fF]
theorem Pu(lo:Int)(n:Nat):(DW lo n).Pairwise (· < ·):=by
 unfold DW;rw[Ca]
 exact List.pairwise_lt_range.imp λh=>by lia
theorem aY(h0:0<=i)(h1:i < l.length):∃x,atI l i=some x/\l[i.toNat]?=some x:=by
 have wk:i.toNat < l.length:=by lia
 exact⟨l[i.toNat],KF h0 (Aa wk),Aa wk⟩
theorem cI(h:atI l i=some x):x∈l:=by
 unfold atI at h;obtain⟨j,_,h2⟩:=Aw h;exact Aq h2
theorem SW(k:Int)(h:l≠[]):∃x,atI l (k % (l.length:Int))=some x/\x∈l:=by
 have hl:0 < (l.length:Int):=by have:=G6.mpr h;lia
 obtain⟨x,h1,_⟩:=aY (l:=l) (i:=k % (l.length:Int)) (Int.emod_nonneg _ (by lia)) (Int.emod_lt_of_pos _ hl);exact⟨x,h1,cI h1⟩
theorem W1(h:0 < y):Z8 x y=some (x % y):=qX h
theorem jQ(l:List α)(lo hi:Option Int):(HE l lo hi).length<=l.length:=by
 unfold HE;rw[DI,E6]
 lia
theorem RX(P:α->Bool)(l:List α)(x:α):(l++[x]).filter P=if P x=true then l.filter P++[x]else l.filter P:=by
 rw[List.filter_append]
 cases c:P x with
 | true=>rw[qX rfl,Xn c];rfl
 | false=>rw[qY AK,Xo (by rw[c];exact AK)];simp
theorem gg{lo:Int}{n:Nat}{pre:List Int}{x:Int}(h:pre++[x] <+: DW lo n):x=lo+pre.length/\pre.length < n:=by
 have hl:=h.length_le;rw[Ag,Ay,CJ]at hl;obtain⟨r,hr⟩:=h;have:=congrArg (λz=>z[pre.length]?) hr;simp only[Fv,Bf (AL _),tq]at this;rw[show([x]++r)[0]?=some x from rfl]at this;unfold DW at this;rw[Ab,EB (by lia)]at this;simp only[Option.map_some,Option.some.injEq]at this;exact⟨this,by lia⟩
theorem IU[DecidableEq α]:∀{l k:List α},l.Nodup->(∀x∈l,x∈k)->l.length<=k.length
 | [],_,_,_=>Dz _
 | x :: l,k,nd,h=>by
  have hx:=h x AT;obtain⟨n1,n2⟩:=Bd.mp nd
  have:=IU (l:=l) (k:=k.erase x) n2 λy hy=>(List.mem_erase_of_ne (λz:y=x=>n1 (by rw[<-z];exact hy))).mpr (h y (AS _ hy))
  rw[Ln hx]at this;have:=List.length_pos_of_mem hx;rw[At]
  lia
def Ok(p:Option α)(P:α->Prop):Prop:=∃v,p=some v/\P v
theorem Ok.pure(h:P v):Ok (some v) P:=⟨v,rfl,h⟩
theorem Ok.is(h:Ok p λr=>r=v):p=some v:=by
 obtain⟨_,h1,rfl⟩:=h;exact h1
theorem Ok.bind(h:Ok p P)(hq:∀v,P v->Ok (q v) Q):Ok (p.bind q) Q:=by
 obtain⟨v,rfl,h⟩:=h;exact hq v h
theorem Ok.imp(h:Ok p P)(i:∀v,P v->Q v):Ok p Q:=by
 obtain⟨v,rfl,h⟩:=h;exact⟨v,rfl,i v h⟩
def OkF(p:Option (Fw ρ σ))(N:σ->Prop)(R:ρ->Prop):Prop:=(∃s,p=some (.nx s)/\N s)∨∃r,p=some (.rt r)/\R r
theorem OkF.nx(h:N s):OkF (some (.nx s)) N R:=.inl ⟨s,rfl,h⟩
theorem OkF.rt(h:R r):OkF (some (.rt r)) N R:=.inr ⟨r,rfl,h⟩
theorem OkF.seq(h:OkF p N R)(hq:∀s,N s->OkF (q s) N' R):OkF (BD p q) N' R:=by
 rcases h with⟨s,rfl,h⟩ | ⟨r,rfl,h⟩
 ·exact hq s h
 ·exact .inr ⟨r,rfl,h⟩
theorem OkF.map(h:OkF p N R)(hg:∀s,N s->N' (g s)):OkF (EA g p) N' R:=by
 rcases h with⟨s,rfl,h⟩ | ⟨r,rfl,h⟩
 ·exact .inl ⟨_,rfl,hg s h⟩
 ·exact .inr ⟨r,rfl,h⟩
theorem OkF.for(I:List α->σ->Prop)(h0:I [] s0)(h:∀pre x s,x∈l->pre++[x] <+: l->I pre s->OkF (q s x) (I (pre++[x])) R):OkF (EV l s0 q) (I l) R:=i9 I R h0 h
theorem OkF.out(h:OkF p (λ_=>False) R):Ok (FW p) R:=by
 rcases h with⟨s,rfl,h⟩ | ⟨r,rfl,h⟩
 ·exact h.elim
 ·exact⟨r,rfl,h⟩
theorem OkF.imp(h:OkF p N R)(hn:∀s,N s->N' s)(hr:∀r,R r->R' r):OkF p N' R':=by
 rcases h with⟨s,rfl,h⟩ | ⟨r,rfl,h⟩
 ·exact .inl ⟨s,rfl,hn s h⟩
 ·exact .inr ⟨r,rfl,hr r h⟩
theorem VF.law(h:VF f [.v (eF ns)] (rV D.bl) (some true)):∃S',f [.fro (ns.map D.int)] []=.ok (.bl true) S':=by
 obtain⟨d,S',h1,_,rfl⟩:=h true rfl [] [.fro (ns.map D.int)] ⟨rfl,trivial⟩;exact⟨S',h1⟩
end
section
def Oz(x y:Int):Option Int:=if jl x y then some (x * 2 ^ y.toNat)else none
def lO(x y:Int):Option Int:=if 0<=y then some (x / 2 ^ y.toNat)else none
theorem Ov(ha:VE A a (rV D.int) pa)(hb:VE A b (rV D.int) pb):VE A (m2 Ql a b) (rV D.int) (pa.bind λx=>pb.bind λy=>Oz x y):=HS ha hb λx y z S h=>by
 unfold Oz at h;split at h
 ·rename_i hc;cases h;exact qX hc
 ·cases h
theorem pT(ha:VE A a (rV D.int) pa)(hb:VE A b (rV D.int) pb):VE A (m2 YC a b) (rV D.int) (pa.bind λx=>pb.bind λy=>lO x y):=HS ha hb λx y z S h=>by
 unfold lO at h;split at h
 ·rename_i hc;cases h;exact qX hc
 ·cases h
theorem OI(ha:VE A a (rV D.int) pa)(hb:VE A b (rV D.int) pb):VE A (m2 RH a b) (rV D.int) (pa.bind λx=>pb.bind λy=>some (BH x y)):=HS ha hb λx y z S h=>by cases h;rfl
theorem ku(ha:VE A a (rV D.int) pa)(hb:VE A b (rV D.int) pb):VE A (m2 pL a b) (rV D.int) (pa.bind λx=>pb.bind λy=>some (CD x y)):=HS ha hb λx y z S h=>by cases h;rfl
theorem WV(h:VE A m (rV D.int) pa):VB A (FX m) (pa.bind λx=>some (x != 0)):=λv hv S0 e F S hs=>by
 obtain⟨l,h1,h2⟩:=Aw hv;cases h2;obtain⟨d,S',h3,h4,rfl⟩:=h l h1 S0 e F S hs;refine⟨S',?_,h4⟩;unfold FX;rw[h3];rfl
end
section
variable{α:Type}
def N1(l:List α):List (Int×α):=l.zipIdx.map λx=>(((x.2+1:Nat):Int),x.1)
theorem aS(l:List α):Kn (l.map enc)=(N1 l).map (eP D.int enc):=by
 unfold Kn N1;rw[j9,BL,BL];rfl
theorem fW(ha:VE A a (rV (eT enc)) pl):VI A (SQ a) (eP D.int enc) (pl.bind λl=>some (N1 l)):=λv hv S0 e F S hs=>by
 obtain⟨l,h1,h2⟩:=Aw hv;cases h2;obtain⟨d,S',h3,h4,rfl⟩:=ha l h1 S0 e F S hs;refine⟨Gx (Kn (l.map enc)),S',?_,h4,λF2 S2 hF h=>?_⟩
 ·unfold SQ
  rw[h3];rfl
 ·show some (Kn (l.map enc))=_
  rw[aS]
theorem Qg(ha:VE A a (rV (eT D.int)) pl):VE A (Ge a) (rN (oL D.int)) (pl.bind λl=>QH l (CI l)):=λv hv S0 e F S hs=>by
 obtain⟨l,h1,h2⟩:=Aw hv;obtain⟨Ω,rfl⟩:=UP h2;obtain⟨d,S',h3,h4,rfl⟩:=ha l h1 S0 e F S hs;refine⟨_,_,OK h3 (ds:=l.map D.int) rfl (es:=(CI l).map D.int) ?_,h4.trans (Keeps.app _ _),_,rfl,h4.1,Ep _ _⟩;unfold LZ;rw[qX (by rw[AF];exact Ω)];rw[Nm]
end
section
variable{ρ σ:Type}
theorem EC{n:Nat}{b:MS}{as:List Ar}{R:Rk ρ}{p:Option (Fw ρ σ)}{B:σ->List Sl}(h:VS (as.map Ar.sl++Bt (n - as.length) .u) b R p B):VF (D9 n b) as R (FW p):=λv hv S ds ha=>by
 cases p with
 | none=>cases hv
 | some x=>
  obtain⟨g,S',h1,h2⟩:=h _ rfl S _ _ S (Vs.start ha)
  cases x with
  | rt r=>cases hv;obtain⟨d,rfl,h2,h3⟩:=h2;exact⟨d,S',_root_.M.NW h1,h3,h2⟩
  | nx s=>cases hv
  | bk s=>cases hv
  | ct s=>cases hv
theorem pR{n:Nat}{b:MS}{as:List Ar}{p:Option (Fw Unit σ)}{B:σ->List Sl}(h:VS (as.map Ar.sl++Bt (n - as.length) .u) b (rV eU) p B):VF (D9 n b) as (rV eU) (mM p):=λv hv S ds ha=>by
 cases p with
 | none=>cases hv
 | some x=>
  obtain⟨g,S',h1,h2⟩:=h _ rfl S _ _ S (Vs.start ha)
  cases x with
  | rt r=>obtain⟨d,rfl,h2,h3⟩:=h2;exact⟨d,S',_root_.M.NW h1,h3,h2⟩
  | nx s=>obtain⟨e',F',rfl,h2,h3⟩:=h2;exact⟨.non,S',_root_.M.Zx h1,h2.kp,rfl⟩
  | bk s=>cases hv
  | ct s=>cases hv
theorem oO(ha:VE A a (rV enc) p)(ht:∀x S,tyD (enc x) S=some T)(hb:isB t T=some r):VE A (_root_.M.mIs (isB t) (λ_=>none) a) (rV D.bl) (p.bind λ_=>some r):=λv hv S0 e F S hs=>by
 obtain⟨x,h1,h2⟩:=Aw hv;cases h2;obtain⟨d,S',h3,h4,rfl⟩:=ha x h1 S0 e F S hs;exact⟨_,S',_root_.M.og h3 (ht x S') hb,h4,rfl⟩
theorem pX(ha:VE A a (rO (oL enc)) p)(hb:isB t "list" = some r):VE A (_root_.M.mIs (isB t) (λ_=>none) a) (rV D.bl) (p.bind λ_=>some r):=λv hv S0 e F S hs=>by
 obtain⟨x,h1,h2⟩:=Aw hv;cases h2;obtain⟨d,S',h3,h4,n,rfl,hn⟩:=ha x h1 S0 e F S hs;exact⟨_,S',_root_.M.og (T:="list") h3 (by unfold tyD;dsimp only;rw[hn];rfl) hb,h4,rfl⟩
end
section
variable{κ α:Type}[DecidableEq κ]
theorem Cu(l:List (κ×α))(k:κ)(v:α)(k':κ):Aj (B9 l k v) k'=if k'=k then some v else Aj l k':=by
 have key:∀l:List (κ×α),Aj (l.map λkv=>if kv.1=k then(kv.1,v)else kv) k'=if k'=k then(Aj l k').map (λ_=>v)else Aj l k':=by
  intro l
  induction l with
  | nil=>unfold Aj;simp
  | cons x l ih=>
   unfold Aj at ih ⊢;rw[BC,CV,CV]
   by_cases c:x.1=k
   ·rw[qX c]
    by_cases d:x.1=k'
    ·rw[wX d,qX (show k'=k from d▸c)]
     rfl
    ·rw[wY d]
     exact ih
   ·rw[qY c]
    by_cases d:x.1=k'
    ·rw[wX d,qY (λz:k'=k=>c (d.trans z))]
    ·rw[wY d]
     exact ih
 unfold B9;split
 ·rename_i h
  rw[key]
  by_cases c:k'=k
  ·rw[qX c,qX c]
   subst c
   have:(Aj l k').isSome=true:=by
    unfold Aj;rw[IB,fI];obtain⟨x,hx,hk⟩:=Gr.mp h;exact⟨x,hx,hk⟩
   obtain⟨b,hb⟩:=Dm.mp this;rw[hb];rfl
  ·rw[qY c,qY c]
 ·rename_i h
  unfold Aj;rw[List.find?_append]
  by_cases c:k'=k
  ·subst c
   rw[qX rfl]
   have:l.find? (λkv=>decide (kv.1=k'))=none:=by
    rw[KQ];intro x hx hk;exact h (Gr.mpr ⟨x,hx,hk⟩)
   rw[this];simp
  ·rw[qY c]
   have:[(k,v)].find? (λkv=>decide (kv.1=k'))=none:=by
    rw[KQ];intro x hx;rw[AU.mp hx];simp
    exact λz=>c z.symm
   rw[this];simp
theorem Hn(l:List (κ×α))(k:κ)(v:α):(B9 l k v).map (·.1)=if k∈l.map (·.1)then l.map (·.1)else l.map (·.1)++[k]:=by
 have h1:(l.any λkv=>decide (kv.1=k))=true↔k∈l.map (·.1):=by
  rw[Gr,Av];exact⟨λ⟨x,hx,e⟩=>⟨x,hx,of_decide_eq_true e⟩,λ⟨x,hx,e⟩=>⟨x,hx,wX e⟩⟩
 unfold B9
 by_cases c:k∈l.map (·.1)
 ·rw[qX c,qX (h1.mpr c),BL]
  refine DV λx _=>?_
  show(if x.1=k then(x.1,v)else x).1=x.1
  split <;> rfl
 ·rw[qY c,qY λz=>c (h1.mp z),CU]
  rfl
theorem DP(l:List (κ×α))(k:κ):(Aj l k).isSome=true↔k∈l.map (·.1):=by
 unfold Aj;rw[IB,fI,Av];exact⟨λ⟨x,hx,e⟩=>⟨x,hx,of_decide_eq_true e⟩,λ⟨x,hx,e⟩=>⟨x,hx,wX e⟩⟩
end
def hb(bits x:Int):Bool:=BH (bits / 2 ^ x.toNat) 1 != 0
abbrev HL:=List (Int×Int)
abbrev QL:=List (Int×Bool)
def Om(st:HL->Int->QL->Option (Bool×HL×QL))(g:Int):List Int->HL->QL->Option (Bool×HL×QL)
 | [],H,Q=>some (false,H,Q)
 | x :: r,H,Q=>if (Aj Q x).isSome=true then Om st g r H Q else(HD Q x true).bind λQ1=>(Aj H x).bind λg2=>(st H g2 Q1).bind λz=>if z.1=true then(HD z.2.1 x g).bind λH'=>some (true,H',z.2.2)else Om st g r z.2.1 z.2.2
def IZ(T:Int->List Int)(bits:Int):Nat->HL->Int->QL->Option (Bool×HL×QL)
 | 0,_,_,_=>none
 | n+1,H,g,Q=>match((T g).filter λx=>hb bits x&&!(Aj Q x).isSome).find? (λx=>!(Aj H x).isSome)with
  | some x=>(HD H x g).bind λH'=>some (true,H',Q)
  | none=>Om (IZ T bits n) g ((T g).filter λx=>hb bits x&&!(Aj Q x).isSome) H Q
section
abbrev w0(T:Int->List Int)(bits g:Int):List Int:=(T g).filter (hb bits)
structure KOk{α:Type}(U:List Int)(l:List (Int×α)):Prop where
 nd:(l.map (·.1)).Nodup
 sub:∀x∈l.map (·.1),x∈U
theorem KOk.len{α:Type}{l:List (Int×α)}(h:KOk U l):l.length<=U.length:=by
 have:=IU h.nd h.sub;rwa [AF]at this
theorem KOk.put{α:Type}{l:List (Int×α)}(h:KOk U l){x:Int}(hx:x∈U)(v:α):KOk U (B9 l x v):=by
 by_cases c:x∈l.map (·.1)
 ·exact⟨by rw[Hn,qX c];exact h.nd,by rw[Hn,qX c];exact h.sub⟩
 ·refine⟨?_,?_⟩
  ·rw[Hn,qY c]
   unfold JA;rw[Gg];exact⟨h.nd,by simp,λa ha b wc z=>c (by rw[AU.mp wc]at z;rw[<-z];exact ha)⟩
  ·rw[Hn,qY c]
   intro y hy
   rcases A0.mp hy with hy | hy
   ·exact h.sub y hy
   ·rw[AU.mp hy];exact hx
theorem KOk.more{α:Type}{l:List (Int×α)}{x:Int}(c:(Aj l x).isSome=false)(v:α):(B9 l x v).length=l.length+1:=by
 have h1:x∉l.map (·.1):=λz=>by rw[(DP l x).mpr z]at c;cases c
 have:=congrArg Oe (Hn l x v);rw[qY h1,AF,Ag,AF]at this;exact this
def MOn(T:Int->List Int)(bits:Int)(P:Int->Prop)(H:HL):Prop:=(∀x,P x->∀a,Aj H x=some a->x∈w0 T bits a)/\∀x y a,P x->P y->Aj H x=some a->Aj H y=some a->x=y
abbrev sn(Q:QL)(x:Int):Prop:=(Aj Q x).isSome=true
def Good(T:Int->List Int)(bits:Int)(H:HL)(g:Int)(Q:QL)(H':HL):Prop:=
 (∀x,sn Q x->Aj H' x=Aj H x)/\(MOn T bits (λx=>¬sn Q x) H->(∀x,¬sn Q x->Aj H x≠some g)->MOn T bits (λx=>¬sn Q x) H'/\∀a,(∃x,¬sn Q x/\Aj H' x=some a)↔a=g∨∃x,¬sn Q x/\Aj H x=some a)
def Clo(T:Int->List Int)(bits:Int)(H:HL)(Q Q':QL):Prop:=∀x,sn Q' x->sn Q x∨∃a,Aj H x=some a/\∀y∈w0 T bits a,sn Q' y
structure vh(T:Int->List Int)(bits:Int)(U:List Int)(Gd:Int->Prop)(H:HL)(g:Int)(Q:QL)(z:Bool×HL×QL):Prop where
 h1:KOk U z.2.1
 h2:KOk U z.2.2
 h3:∀x a,Aj z.2.1 x=some a->Gd a
 h4:∀x,sn Q x->sn z.2.2 x
 h5:z.1=false->z.2.1=H/\(∀x∈w0 T bits g,sn z.2.2 x)/\Clo T bits H Q z.2.2
 h6:z.1=true->Good T bits H g Q z.2.1
theorem Wo{α:Type}{l:List (Int×α)}(h:KOk U l)(hU:U.length < 1000000)(x:Int)(v:α):HD l x v=some (B9 l x v):=qX (As h.len hU)
theorem Kv:sn (B9 Q x true) y↔y=x∨sn Q y:=by
 unfold sn;rw[Cu]
 by_cases c:y=x
 ·rw[qX c];simp[c]
 ·rw[qY c];simp[c]
theorem YD(hT:∀g,Gd g->∀x∈T g,x∈U)(hU:U.length < 1000000):∀(n:Nat) (H:HL) (g:Int) (Q:QL),KOk U H->KOk U Q->(∀x a,Aj H x=some a->Gd a)->Gd g->U.length < n+Q.length->Ok (IZ T bits n H g Q) (vh T bits U Gd H g Q):=by
 intro n
 induction n with
 | zero=>intro H g Q hH hQ hG hg hn;exact zX hQ.len (by lia)
 | succ n ih=>
  intro H g Q hH hQ hG hg hn;unfold IZ
  have wm:∀x,x∈(T g).filter (λx=>hb bits x&&!(Aj Q x).isSome)↔x∈w0 T bits g/\¬sn Q x:=by
   intro x;unfold w0 sn;rw[BJ,BJ]
   cases Aj Q x <;> simp
  generalize (T g).filter (λx=>hb bits x&&!(Aj Q x).isSome)=w at wm
  have wU:∀x∈w,x∈U:=λx hx=>hT g hg x (BJ.mp ((wm x).mp hx).1).1
  cases hf:w.find? (λx=>!(Aj H x).isSome)with
  | some x=>
   have hx:=WG hf
   have xH:Aj H x=none:=by
    have:=kC hf
    cases q:Aj H x with
    | none=>rfl
    | some a=>rw[q]at this;cases this
   obtain⟨x1,x2⟩:=(wm x).mp hx;show Ok ((HD H x g).bind _) _;rw[Wo hH hU];refine .pure ⟨hH.put (wU x hx) g,hQ,λy a hy=>?_,λ_ h=>h,λz=>(by cases z),λ_=>⟨λy hy=>?_,λm ng=>⟨⟨λy hy a e=>?_,λy z a hy hz e1 e2=>?_⟩,λa=>⟨?_,?_⟩⟩⟩⟩
   ·rw[show Aj (true,B9 H x g,Q).2.1 y=if y=x then some g else Aj H y from Cu _ _ _ _]at hy
    split at hy
    ·cases hy;exact hg
    ·exact hG y a hy
   ·show Aj (B9 H x g) y=_
    rw[Cu,qY λc:y=x=>x2 (by rw[<-c];exact hy)]
   ·rw[show Aj (true,B9 H x g,Q).2.1 y=if y=x then some g else Aj H y from Cu _ _ _ _]at e
    split at e
    ·rename_i c;cases e;rw[c];exact x1
    ·exact m.1 y hy a e
   ·rw[show Aj (true,B9 H x g,Q).2.1 y=if y=x then some g else Aj H y from Cu _ _ _ _]at e1
    rw[show Aj (true,B9 H x g,Q).2.1 z=if z=x then some g else Aj H z from Cu _ _ _ _]at e2;split at e1
    ·rename_i c
     cases e1;split at e2
     ·rename_i d;rw[c,d]
     ·exact zX e2 (ng z hz)
    ·split at e2
     ·cases e2;exact zX e1 (ng y hy)
     ·exact m.2 y z a hy hz e1 e2
   ·rintro⟨y,hy,e⟩
    rw[show Aj (true,B9 H x g,Q).2.1 y=if y=x then some g else Aj H y from Cu _ _ _ _]at e;split at e
    ·cases e;exact .inl rfl
    ·exact .inr ⟨y,hy,e⟩
   ·rintro(rfl | ⟨y,hy,e⟩)
    ·exact⟨x,x2,by show Aj (B9 H x a) x=_;rw[Cu,qX rfl]⟩
    ·refine⟨y,hy,?_⟩
     show Aj (B9 H x g) y=_;rw[Cu,qY λc=>by rw[c,xH]at e;cases e];exact e
  | none=>
   have held:∀x∈w,∃a,Aj H x=some a:=by
    intro x hx;have:=KQ.mp hf x hx
    cases q:Aj H x with
    | none=>rw[q]at this;exact zX rfl this
    | some a=>exact⟨a,rfl⟩
   have key:∀(r:List Int) (Qc:QL),(∀x∈r,x∈w)->KOk U Qc->(∀x,sn Q x->sn Qc x)->Q.length<=Qc.length->Clo T bits H Q Qc->(∀x∈w,x∈r∨sn Qc x)->Ok (Om (IZ T bits n) g r H Qc) (vh T bits U Gd H g Q):=by
    intro r
    induction r with
    | nil=>
     intro Qc _ A' hs hl hc hw;refine .pure ⟨hH,A',hG,hs,λ_=>⟨rfl,λx hx=>?_,hc⟩,λz=>(by cases z)⟩
     by_cases c:sn Q x
     ·exact hs x c
     ·rcases hw x ((wm x).mpr ⟨hx,c⟩)with h | h
      ·cases h
      ·exact h
    | cons x r ih2=>
     intro Qc hr A' hs hl hc hw;unfold Om
     by_cases c:(Aj Qc x).isSome=true
     ·rw[qX c]
      refine ih2 Qc (λy hy=>hr y (AS _ hy)) A' hs hl hc λy hy=>?_
      rcases hw y hy with h | h
      ·rcases AZ.mp h with rfl | h
       ·exact .inr c
       ·exact .inl h
      ·exact .inr h
     ·rw[qY c,Wo A' hU]
      have hxw:=hr x AT;obtain⟨x1,x2⟩:=(wm x).mp hxw;obtain⟨a,ha⟩:=held x hxw;have hQ1:=A'.put (wU x hxw) true;have rW:=KOk.more (l:=Qc) (x:=x) (by cases q:(Aj Qc x).isSome;rfl;exact zX q c) true;obtain⟨z,ez,hz⟩:=ih H a (B9 Qc x true) hH hQ1 hG (hG x a ha) (by lia);show Ok ((Aj H x).bind _) _;rw[ha];show Ok ((IZ T bits n H a (B9 Qc x true)).bind _) _;rw[ez];show Ok (if z.1=true then _ else _) _
      cases wc:z.1 with
      | true=>
       rw[qX rfl,Wo hz.h1 hU];obtain⟨g1,g2⟩:=hz.h6 wc;refine .pure ⟨hz.h1.put (wU x hxw) g,hz.h2,λy b hy=>?_,λy hy=>hz.h4 y (Kv.mpr (.inr (hs y hy))),λq=>(by cases q),λ_=>⟨λy hy=>?_,λm ng=>?_⟩⟩
       ·rw[show Aj (true,B9 z.2.1 x g,z.2.2).2.1 y=if y=x then some g else Aj z.2.1 y from Cu _ _ _ _]at hy
        split at hy
        ·cases hy;exact hg
        ·exact hz.h3 y b hy
       ·show Aj (B9 z.2.1 x g) y=_
        rw[Cu,qY λq:y=x=>x2 (by rw[<-q];exact hy)];exact g1 y (Kv.mpr (.inr (hs y hy)))
       ·have R1:∀y,¬sn (B9 Qc x true) y->¬sn Q y/\y≠x/\¬sn Qc y:=λy hy=>⟨λq=>hy (Kv.mpr (.inr (hs y q))),λq=>hy (Kv.mpr (.inl q)),λq=>hy (Kv.mpr (.inr q))⟩
        obtain⟨m1,m2⟩:=g2 ⟨λy hy b e=>m.1 y (R1 y hy).1 b e,λy y' b hy yQ e e'=>m.2 y y' b (R1 y hy).1 (R1 y' yQ).1 e e'⟩ λy hy e=>(R1 y hy).2.1 (m.2 y x a (R1 y hy).1 x2 e ha)
        have three:∀y,y=x∨(y≠x/\Aj z.2.1 y=Aj H y/\sn Qc y)∨¬sn (B9 Qc x true) y:=λy=>by
         by_cases q:y=x
         ·exact .inl q
         ·by_cases q2:sn Qc y
          ·exact .inr (.inl ⟨q,g1 y (Kv.mpr (.inr q2)),q2⟩)
          ·exact .inr (.inr λq3=>(Kv.mp q3).elim q q2)
        have hv:∀y,y≠x->Aj (B9 z.2.1 x g) y=Aj z.2.1 y:=λy q=>by rw[Cu,qY q]
        have B':Aj (B9 z.2.1 x g) x=some g:=by rw[Cu,qX rfl]
        show MOn T bits _ (B9 z.2.1 x g)/\∀b,(∃y,_/\Aj (B9 z.2.1 x g) y=some b)↔_
        refine⟨⟨λy hy b e=>?_,λy y' b hy yQ e e'=>?_⟩,λb=>⟨?_,?_⟩⟩
        ·rcases three y with rfl | ⟨q,q1,q2⟩ | q
         ·rw[B']at e;cases e;exact x1
         ·rw[hv y q,q1]at e;exact m.1 y hy b e
         ·rw[hv y (R1 y q).2.1]at e;exact m1.1 y q b e
        ·rcases three y with rfl | ⟨q,q1,q2⟩ | q
         ·rw[B']at e
          cases e
          rcases three y' with rfl | ⟨p,p1,p2⟩ | p
          ·rfl
          ·rw[hv y' p,p1]at e';exact zX e' (ng y' yQ)
          ·rw[hv y' (R1 y' p).2.1]at e'
           rcases(m2 g).mp ⟨y',p,e'⟩with rfl | ⟨y2,p2,e2⟩
           ·exact zX ha (ng y hy)
           ·exact zX e2 (ng y2 (R1 y2 p2).1)
         ·rw[hv y q,q1]at e
          rcases three y' with rfl | ⟨p,p1,p2⟩ | p
          ·rw[B']at e';cases e';exact zX e (ng y hy)
          ·rw[hv y' p,p1]at e';exact m.2 y y' b hy yQ e e'
          ·rw[hv y' (R1 y' p).2.1]at e'
           rcases(m2 b).mp ⟨y',p,e'⟩with rfl | ⟨y2,p2,e2⟩
           ·exact zX (m.2 y x b hy x2 e ha) q
           ·have:=m.2 y y2 b hy (R1 y2 p2).1 e e2
            rw[<-this]at p2;exact zX q2 (R1 y p2).2.2
         ·rw[hv y (R1 y q).2.1]at e
          rcases three y' with rfl | ⟨p,p1,p2⟩ | p
          ·rw[B']at e'
           cases e'
           rcases(m2 g).mp ⟨y,q,e⟩with rfl | ⟨y2,p2,e2⟩
           ·exact zX ha (ng y' yQ)
           ·exact zX e2 (ng y2 (R1 y2 p2).1)
          ·rw[hv y' p,p1]at e'
           rcases(m2 b).mp ⟨y,q,e⟩with rfl | ⟨y2,p3,e2⟩
           ·exact zX (m.2 y' x b yQ x2 e' ha) p
           ·have:=m.2 y' y2 b yQ (R1 y2 p3).1 e' e2
            rw[<-this]at p3;exact zX p2 (R1 y' p3).2.2
          ·rw[hv y' (R1 y' p).2.1]at e'
           exact m1.2 y y' b q p e e'
        ·rintro⟨y,hy,e⟩
         rcases three y with rfl | ⟨q,q1,q2⟩ | q
         ·rw[B']at e;cases e;exact .inl rfl
         ·rw[hv y q,q1]at e;exact .inr ⟨y,hy,e⟩
         ·rw[hv y (R1 y q).2.1]at e
          rcases(m2 b).mp ⟨y,q,e⟩with rfl | ⟨y2,p2,e2⟩
          ·exact .inr ⟨x,x2,ha⟩
          ·exact .inr ⟨y2,(R1 y2 p2).1,e2⟩
        ·rintro(rfl | ⟨y,hy,e⟩)
         ·exact⟨x,x2,B'⟩
         ·rcases three y with rfl | ⟨q,q1,q2⟩ | q
          ·rw[ha]at e
           cases e;obtain⟨y',p,e'⟩:=(m2 a).mpr (.inl rfl);exact⟨y',(R1 y' p).1,by rw[hv y' (R1 y' p).2.1];exact e'⟩
          ·exact⟨y,hy,by rw[hv y q,q1];exact e⟩
          ·obtain⟨y',p,e'⟩:=(m2 b).mpr (.inr ⟨y,q,e⟩)
           exact⟨y',(R1 y' p).1,by rw[hv y' (R1 y' p).2.1];exact e'⟩
      | false=>
       rw[qY AK];obtain⟨f1,f2,f3⟩:=hz.h5 wc;rw[f1]
       have up:∀y,sn Qc y->sn z.2.2 y:=λy hy=>hz.h4 y (Kv.mpr (.inr hy))
       refine ih2 z.2.2 (λy hy=>hr y (AS _ hy)) hz.h2 (λy hy=>up y (hs y hy)) ?_ (λy hy=>?_) λy hy=>?_
       ·have h1:∀k∈Qc.map (·.1),k∈z.2.2.map (·.1):=λk hk=>(DP _ _).mp (up k ((DP _ _).mpr hk))
        have:=IU A'.nd h1;rw[AF,AF]at this
        lia
       ·rcases f3 y hy with h | h
        ·rcases Kv.mp h with rfl | h
         ·exact .inr ⟨a,ha,f2⟩
         ·rcases hc y h with h | ⟨b,e,k⟩
          ·exact .inl h
          ·exact .inr ⟨b,e,λy' yQ=>up y' (k y' yQ)⟩
        ·exact .inr h
       ·rcases hw y hy with h | h
        ·rcases AZ.mp h with rfl | h
         ·exact .inr (hz.h4 _ (Kv.mpr (.inl rfl)))
         ·exact .inl h
        ·exact .inr (up y h)
   exact key w Q (λ_ h=>h) hQ (λ_ h=>h) (AL _) (λx hx=>.inl hx) λx hx=>.inl hx
end
def TK(bits:Int):List Int->HL->Option HL
 | [],H=>some H
 | g :: r,H=>if hb bits g=true then(HD H g g).bind λH'=>TK bits r H' else TK bits r H
def Ti(T:Int->List Int)(bits:Int)(n:Nat):List Int->HL->Option Bool
 | [],_=>some true
 | g :: r,H=>if hb bits g=true then Ti T bits n r H else(IZ T bits n H g []).bind λz=>if z.1=true then Ti T bits n r z.2.1 else some false
def Vv(T:Int->List Int)(bits:Int)(n:Nat)(gs:List Int):Option Bool:=(TK bits gs []).bind λH=>Ti T bits n gs H
def Sdr(T:Int->List Int)(bits:Int)(gs:List Int):Prop:=∃f:Int->Int,(∀g∈gs,f g∈w0 T bits g)/\∀a∈gs,∀b∈gs,f a=f b->a=b
section
variable{T:Int->List Int}{bits:Int}{U:List Int}{Gd:Int->Prop}
theorem c7(hU:U.length < 1000000):∀(gs:List Int) (H:HL),(∀g∈gs,g∈U)->KOk U H->Ok (TK bits gs H) λH'=>KOk U H'/\∀x,Aj H' x=if x∈gs/\hb bits x=true then some x else Aj H x:=by
 intro gs
 induction gs with
 | nil=>intro H _ h;exact .pure ⟨h,λx=>by rw[qY (by simp)]⟩
 | cons g gs ih=>
  intro H hg h;unfold TK
  cases c:hb bits g with
  | true=>
   rw[qX rfl,Wo h hU]
   refine(ih (B9 H g g) (λy hy=>hg y (AS _ hy)) (h.put (hg g AT) g)).imp λH' ⟨h1,h2⟩=>⟨h1,λx=>?_⟩
   rw[h2 x,Cu]
   by_cases d:x=g
   ·subst d
    rw[qX rfl,qX (show x∈x :: gs/\hb bits x=true from⟨AT,c⟩)]
    split <;> rfl
   ·rw[qY d]
    have:(x∈g :: gs/\hb bits x=true)↔(x∈gs/\hb bits x=true):=by rw[AZ];simp[d]
    by_cases q:x∈gs/\hb bits x=true
    ·rw[qX q,qX (this.mpr q)]
    ·rw[qY q,qY λz=>q (this.mp z)]
  | false=>
   rw[qY AK]
   refine(ih H (λy hy=>hg y (AS _ hy)) h).imp λH' ⟨h1,h2⟩=>⟨h1,λx=>?_⟩
   rw[h2 x]
   have:(x∈g :: gs/\hb bits x=true)↔(x∈gs/\hb bits x=true):=by
    rw[AZ];refine⟨λ⟨z,y⟩=>⟨z.elim (λe=>?_) id,y⟩,λ⟨z,y⟩=>⟨.inr z,y⟩⟩;rw[e,c]at y;cases y
   by_cases q:x∈gs/\hb bits x=true
   ·rw[qX q,qX (this.mpr q)]
   ·rw[qY q,qY λz=>q (this.mp z)]
theorem iG{α:Type}:KOk U ([]:List (Int×α)):=⟨EX,λ_ h=>(nomatch h)⟩
theorem dJ(hT:∀g,Gd g->∀x∈T g,x∈U)(hU:U.length < 1000000)(hn:U.length < n)(hg:∀g∈gs,Gd g)(xE:gs.Nodup):∀(r pre:List Int) (H:HL),gs=pre++r->KOk U H->(∀x a,Aj H x=some a->Gd a)->MOn T bits (λ_=>True) H->(∀a,(∃x,Aj H x=some a)↔a∈gs/\(a∈pre∨hb bits a=true))->Ok (Ti T bits n r H) λb=>b=true↔Sdr T bits gs:=by
 intro r
 induction r with
 | nil=>
  intro pre H e hH hG hM hI;rw[CG]at e;subst e;refine .pure ⟨λ_=>?_,λ_=>rfl⟩
  have ex:∀a:Int,∃x:Int,a∈gs->Aj H x=some a:=λa=>by
   by_cases c:a∈gs
   ·obtain⟨x,hx⟩:=(hI a).mpr ⟨c,.inl c⟩
    exact⟨x,λ_=>hx⟩
   ·exact⟨0,λz=>zX z c⟩
  refine⟨λa=>DA (ex a),λa ha=>hM.1 _ trivial a (EG (ex a) ha),λa ha b wc e=>?_⟩;have h1:=EG (ex a) ha;have h2:=EG (ex b) wc;have e:DA (ex a)=DA (ex b):=e;rw[e,h2]at h1;cases h1;rfl
 | cons g r ih=>
  intro pre H e hH hG hM hI
  have yq:g∈gs:=by rw[e];simp
  have hgp:g∉pre:=λz=>by
   rw[e]at xE;exact(Er.mp xE).2.2 g z g AT rfl
  unfold Ti
  cases c:hb bits g with
  | true=>
   rw[qX rfl]
   refine ih (pre++[g]) H (by rw[e];simp) hH hG hM λa=>?_
   rw[hI a];refine⟨λ⟨z,y⟩=>⟨z,y.elim (λy=>.inl (BN _ y)) .inr⟩,λ⟨z,y⟩=>⟨z,y.elim (λy=>?_) .inr⟩⟩
   rcases A0.mp y with y | y
   ·exact .inl y
   ·rw[AU.mp y];exact .inr c
  | false=>
   rw[qY AK];obtain⟨z,ez,hz⟩:=YD (bits:=bits) hT hU n H g [] hH iG hG (hg g yq) (by simpa using hn);rw[ez];show Ok (if z.1=true then _ else _) _
   have no:∀x,¬sn ([]:QL) x:=λx h=>by unfold sn at h;cases h
   have ng:∀x,Aj H x≠some g:=λx q=>by
    have:=((hI g).mp ⟨x,q⟩).2
    rcases this with h | h
    ·exact hgp h
    ·rw[c]at h;cases h
   cases wc:z.1 with
   | true=>
    rw[qX rfl];obtain⟨-,g2⟩:=hz.h6 wc
    obtain⟨m1,m2⟩:=g2 ⟨λx _ a q=>hM.1 x trivial a q,λx y a _ _ q q'=>hM.2 x y a trivial trivial q q'⟩ λx _=>ng x
    refine ih (pre++[g]) z.2.1 (by rw[e];simp) hz.h1 hz.h3 ⟨λx _ a q=>m1.1 x (no x) a q,λx y a _ _ q q'=>m1.2 x y a (no x) (no y) q q'⟩ λa=>?_
    constructor
    ·rintro⟨x,hx⟩
     rcases(m2 a).mp ⟨x,no x,hx⟩with rfl | ⟨y,_,hy⟩
     ·exact⟨yq,.inl (by simp)⟩
     ·obtain⟨q1,q2⟩:=(hI a).mp ⟨y,hy⟩
      exact⟨q1,q2.elim (λq=>.inl (BN _ q)) .inr⟩
    ·rintro⟨q1,q2⟩
     have:a=g∨∃x,¬sn ([]:QL) x/\Aj H x=some a:=by
      rcases q2 with q2 | q2
      ·rcases A0.mp q2 with q2 | q2
       ·obtain⟨x,hx⟩:=(hI a).mpr ⟨q1,.inl q2⟩
        exact .inr ⟨x,no x,hx⟩
       ·exact .inl (AU.mp q2)
      ·obtain⟨x,hx⟩:=(hI a).mpr ⟨q1,.inr q2⟩
       exact .inr ⟨x,no x,hx⟩
     obtain⟨x,_,hx⟩:=(m2 a).mpr this;exact⟨x,hx⟩
   | false=>
    rw[qY AK];obtain⟨f1,f2,f3⟩:=hz.h5 wc;refine .pure ⟨λq=>(by cases q),?_⟩;rintro⟨f,fw,fi⟩
    exfalso
    have X:=z.2.2.map (·.1)
    have hold:∀x∈z.2.2.map (·.1),∃a,Aj H x=some a/\∀y∈w0 T bits a,sn z.2.2 y:=λx hx=>by
     rcases f3 x ((DP _ _).mpr hx)with h | h
     ·exact zX h (no x)
     ·exact h
    have ex:∀x:Int,∃a:Int,x∈z.2.2.map (·.1)->Aj H x=some a/\∀y∈w0 T bits a,sn z.2.2 y:=λx=>by
     by_cases q:x∈z.2.2.map (·.1)
     ·obtain⟨a,h⟩:=hold x q
      exact⟨a,λ_=>h⟩
     ·exact⟨0,λq'=>zX q' q⟩
    have hc:=λx=>EG (ex x)
    generalize hh:(λx=>DA (ex x))=h at hc
    have wV:∀x∈z.2.2.map (·.1),Aj H x=some (h x)/\∀y∈w0 T bits (h x),sn z.2.2 y:=λx hx=>by rw[<-hh];exact hc x hx
    have nd:(f g :: (z.2.2.map (·.1)).map λx=>f (h x)).Nodup:=by
     rw[Bd]
     have xW:∀x∈z.2.2.map (·.1),h x∈gs:=λx hx=>((hI (h x)).mp ⟨x,(wV x hx).1⟩).1
     refine⟨λq=>?_,?_⟩
     ·obtain⟨x,hx,e1⟩:=Av.mp q
      have:=fi (h x) (xW x hx) g yq e1;exact ng x (by rw[(wV x hx).1,this])
     ·unfold JA
      rw[Ca]
      refine hz.h2.nd.imp_of_mem λ{x y} hx hy ne e1=>ne ?_
      have:=fi (h x) (xW x hx) (h y) (xW y hy) e1;exact hM.2 x y (h x) trivial trivial (wV x hx).1 (by rw[this];exact(wV y hy).1)
    have sub:∀y∈(f g :: (z.2.2.map (·.1)).map λx=>f (h x)),y∈z.2.2.map (·.1):=by
     intro y hy
     rcases AZ.mp hy with rfl | hy
     ·exact(DP _ _).mp (f2 _ (fw g yq))
     ·obtain⟨x,hx,rfl⟩:=Av.mp hy
      exact(DP _ _).mp ((wV x hx).2 _ (fw _ ((hI (h x)).mp ⟨x,(wV x hx).1⟩).1))
    have:=IU nd sub;rw[At,AF]at this;omega
theorem dv(hT:∀g,Gd g->∀x∈T g,x∈U)(hU:U.length < 1000000)(hn:U.length < n)(hg:∀g∈gs,Gd g/\g∈T g)(xE:gs.Nodup):Ok (Vv T bits n gs) λb=>b=true↔Sdr T bits gs:=by
 unfold Vv
 refine(c7 hU gs [] (λg h=>hT g (hg g h).1 g (hg g h).2) iG).bind λH ⟨h1,h2⟩=>?_
 have hv:∀x a,Aj H x=some a->a=x/\x∈gs/\hb bits x=true:=λx a e=>by
  rw[h2 x]at e;split at e
  ·rename_i q;cases e;exact⟨rfl,q⟩
  ·cases e
 refine dJ hT hU hn (λg h=>(hg g h).1) xE gs [] H rfl h1 (λx a e=>?_) ⟨λx _ a e=>?_,λx y a _ _ e e'=>?_⟩ λa=>⟨?_,?_⟩
 ·obtain⟨rfl,q,_⟩:=hv x a e;exact(hg _ q).1
 ·obtain⟨rfl,q1,q2⟩:=hv x a e
  exact BJ.mpr ⟨(hg _ q1).2,q2⟩
 ·rw[<-(hv x a e).1,<-(hv y a e').1]
 ·rintro⟨x,e⟩
  obtain⟨rfl,q1,q2⟩:=hv x a e;exact⟨q1,.inr q2⟩
 ·rintro⟨q1,q2⟩
  refine⟨a,?_⟩;rw[h2 a,qX ⟨q1,q2.elim (λq=>(nomatch q)) id⟩]
end
def Y3(rs:List (List Int)):Option (List Int):=rs[Gp (λi j=>HT.lexLt (rs.getD i []) (rs.getD j [])) (rs.length - 1)]?
theorem Vd:∀rs:List (List Int),Ve (rs.map (eT D.int))=some rs
 | []=>rfl
 | r :: rs=>by
  rw[BC];show(match JQ (r.map D.int),Ve (rs.map (eT D.int))with | some r,some rs=>some (r :: rs) | _,_=>none)=_;rw[Nm,Vd rs]
theorem kg(ha:VE A a (rO (oL (eT D.int))) pl):VE A (mQ Z9 (Tz a)) (rV (eT D.int)) (pl.bind Y3):=λv hv S0 e F S hs=>by
 obtain⟨l,h1,h2⟩:=Aw hv;obtain⟨d,S',h3,h4,n,rfl,hn⟩:=ha l h1 S0 e F S hs;refine⟨_,S',lW (f:=Z9) (oS h3 (Gy hn)) ?_,h4,rfl⟩;unfold Z9;rw[Vd];dsimp only;unfold Y3 at h2;rw[Ab,h2];rfl
def rOP{α β:Type}(enc:α->D)(ob:β->Ob):Rk (Option (α×β)):=λv S0 d S=>match v with
 | none=>d=.non
 | some ab=>∃n,d=.tup [enc ab.1,.ref n]/\S0.length<=n/\S[n]?=some (ob ab.2)
section
variable{α β:Type}
theorem qP:∀(v:Option (α×β)) (S S1:Sto) (d:D) (S':Sto),S.length<=S1.length->rOP enc ob v S1 d S'->rOP enc ob v S d S':=λv _ _ _ _ l h=>by
 cases v with
 | none=>exact h
 | some ab=>obtain⟨n,h1,h2,h3⟩:=h;exact⟨n,h1,Am l h2,h3⟩
theorem kL:VS A (CS (mC .non)) (rOP enc ob) (some (.rt none)) B:=λf hf S0 e F S hs=>by
 cases hf;exact⟨.rt .non,S,rfl,_,rfl,rfl,hs.kp⟩
theorem kK(ha:VE A ma (rV enc) p)(hb:VE A mb (rN ob) q):VS A (CS (Jy (AO ma (AO mb BO)))) (rOP enc ob) (p.bind λx=>q.bind λy=>some (.rt (some (x,y)))) B:=λf hf S0 e F S hs=>by
 obtain⟨x,h1,h2⟩:=Aw hf;obtain⟨y,h3,h4⟩:=Aw h2;cases h4;obtain⟨d1,S1,c1,k1,rfl⟩:=ha x h1 S0 e F S hs;obtain⟨d2,S2,c2,k2,n,rfl,h5,h6⟩:=hb y h3 S0 e _ S1 (hs.grow k1);exact⟨_,S2,K6 (Zk (Cz c1 (Cz c2 rfl)) (by simp)),_,rfl,⟨n,rfl,Am (Am hs.kp.1 k1.1) h5,h6⟩,(hs.kp.trans k1).trans k2⟩
theorem IN(h:e[i]?=some (some d)):AE i e S=.ok d S:=by unfold AE;rw[h]
theorem kH(hi:A[i]?=some (.w i (oL D.int t)))(hk:A[k]?=some .u)(hij:i≠j)(hik:i≠k)(hjk:j≠k)(hm:VE A m (rOP D.int (oL D.int)) p)(ht:(((A.set k .u).set i .u).all (Sl.oth i))=true) :
  VS A (BE (CN k m) (BE (sIf (mB (m2 (UH false) (AE k) (mC .non))) (CS (mC .non)) sNx) (BE (Ir (PF (AE i) (m2 ixA (AE k) (mC (.int 0))))) (CN j (m2 ixA (AE k) (mC (.int 1))))))) (rV (eO (eT D.int)))
   (p.bind λo=>match o with | none=>some (.rt none) | some ab=>(RG t ab.1).bind λl=>some (.nx (l,ab.2))) (λz:List Int×List Int=>((A.set k .u).set i (.w i (oL D.int z.1))).set j (.z (oL D.int z.2))):=λf hf S0 e F S hs=>by
 obtain⟨o,h1,h2⟩:=Aw hf;obtain⟨d,S',c1,k1,r1⟩:=hm o h1 S0 e F S hs;have g:=hs.grow k1;have s1:CN k m e S=.ok (.nx (e.set k (some d))) S':=JF c1;obtain⟨xk,ek,_⟩:=hs.sl k _ hk;have ϐ:=(AC.mp ek).1
 have vk:(e.set k (some d))[k]?=some (some d):=by rw[Ap ϐ]
 cases o with
 | none=>
  cases r1;cases h2;have t1:mB (m2 (UH false) (AE k) (mC .non)) (e.set k (some .non)) S'=.ok true S':=Uf (Dr (IN vk) rfl rfl);exact⟨.rt .non,S',(Bv s1).trans (Qn ((G0 t1).trans ((qX rfl).trans rfl))),_,rfl,rfl,hs.kp.trans k1⟩
 | some ab=>
  obtain⟨n,rfl,hn,hb⟩:=r1;obtain⟨l,h3,h4⟩:=Aw h2;cases h4;unfold RG at h3;split at h3
  ·rename_i hl
   cases h3;obtain⟨x,g1,n3,rfl,g2,g3⟩:=g.sl i _ hi;have t1:mB (m2 (UH false) (AE k) (mC .non)) (e.set k (some (.tup [.int ab.1,.ref n]))) S'=.ok false S':=Uf (Dr (IN vk) rfl rfl)
   have vi:(e.set k (some (.tup [D.int ab.1,.ref n])))[i]?=some (some (.ref n3)):=by rw[Ac (Bs hik)];exact g1
   have hx:=XS (mo:=AE i) (ma:=m2 ixA (AE k) (mC (.int 0))) (e:=e.set k (some (.tup [.int ab.1,.ref n]))) (S:=S') (S1:=S') (S2:=S') (y:=.int ab.1) (n:=n3) (IN vi) g3 (Dr (IN vk) rfl rfl) g3 (by rw[AF];exact Yj hl);rw[show t.map D.int++[D.int ab.1]=(t++[ab.1]).map D.int by simp]at hx;have v1:=(g.set (a:=.u) (x:=some (.tup [.int ab.1,.ref n])) k trivial).put (i:=i) (n:=n3) (o:=oL D.int t) (o':=oL D.int (t++[ab.1])) ht (by rw[Ac (Bs hik)];exact hi) vi g2;have v2:=v1.set (a:=.z (oL D.int ab.2)) (x:=some (.ref n)) j ⟨n,rfl,Ny hn hb⟩;have s4:CN j (m2 ixA (AE k) (mC (.int 1))) (e.set k (some (.tup [.int ab.1,.ref n]))) (S'.set n3 (oL D.int (t++[ab.1])))=.ok (.nx ((e.set k (some (.tup [.int ab.1,.ref n]))).set j (some (.ref n)))) (S'.set n3 (oL D.int (t++[ab.1]))):=JF (Dr (IN vk) rfl rfl);refine⟨_,_,(Bv s1).trans ((Bv ((G0 t1).trans ((qY AK).trans rfl))).trans ((Bv (QJ hx)).trans s4)),_,_,rfl,v2,hs.fle S'⟩
  ·cases h3
end
section
theorem kr(ha:VE A a (rV eF) pl)(hl:VO A mlo po)(hh:VO A mhi ph):VE A (PD a mlo mhi) (rN (oL D.int)) (pl.bind λl=>po.bind λx=>ph.bind λy=>some (HE l x y)):=λv hv S0 e F S hs=>by
 obtain⟨l,h1,hv⟩:=Aw hv;obtain⟨x,h2,hv⟩:=Aw hv;obtain⟨y,h3,h4⟩:=Aw hv;cases h4;obtain⟨d1,S1,q1,k1,rfl⟩:=ha l h1 S0 e F S hs;obtain⟨S2,q2,k2⟩:=hl x h2 S0 e _ S1 (hs.grow k1);obtain⟨S3,q3,k3⟩:=hh y h3 S0 e _ S2 ((hs.grow k1).grow k2);refine⟨.ref S3.length,S3++[oL D.int (HE l x y)],?_,((k1.trans k2).trans k3).trans (Keeps.app _ _),_,rfl,((k1.trans k2).trans k3).1,Ep _ _⟩;unfold PD;rw[q1];dsimp only[Res.bind];rw[q2];dsimp only;rw[q3];show Res.ok _ (S3++[Ob.lst (HE (l.map D.int) x y)])=_;rw[UW];rfl
end
section
variable{F:Fz}
def loF(F:Fz):Nat->Option Ob:=λn=>match F n with
 | .fz o=>some o
 | _=>none
theorem iQ(h:F n=.fz o):loF F n=some o:=by unfold loF;rw[h]
theorem Nk(h:loF F n=some o):F n=.fz o:=by
 unfold loF at h;split at h
 ·rename_i o' ho;cases h;exact ho
 ·cases h
end
section
variable{S0 S:Sto}{A:List Sl}{ρ σ:Type}
def whF(c:σ->Option Bool)(q:σ->Option (Fw ρ σ)):Nat->σ->Option (Fw ρ σ)
 | 0,_=>none
 | n+1,s=>(c s).bind λt=>if t=true then match q s with
   | some (.nx s')=>whF c q n s'
   | some (.ct s')=>whF c q n s'
   | some (.bk s')=>some (.nx s')
   | some (.rt r)=>some (.rt r)
   | none=>none
  else some (.nx s)
theorem ca(hc:∀s,VB (B s) t (c s))(hb:∀s,VS (B s) b R (q s) B):∀(n:Nat) (s:σ),VS (B s) (IQ t b n) R (whF c q n s) B:=by
 intro n
 induction n with
 | zero=>intro s f hf;cases hf
 | succ n ih=>
  intro s f hf S0 e F S hs;unfold whF at hf;obtain⟨v,h1,h2⟩:=Aw hf;obtain⟨S1,h3,h4⟩:=hc s v h1 S0 e F S hs;have yD:=hs.grow h4
  have run:IQ t b (n+1) e S=if v=true then(b e S1).bind λf S2=>match f with
   | .nx e2=>IQ t b n e2 S2
   | .ct e2=>IQ t b n e2 S2
   | .bk e2=>.ok (.nx e2) S2
   | .rt d=>.ok (.rt d) S2
   | .ex c e2=>.ok (.ex c e2) S2
  else .ok (.nx e) S1:=by
   show(t e S).lift e _=_;rw[h3];rfl
  cases v with
  | false=>
   rw[qY AK]at h2;cases h2;exact⟨_,S1,run.trans (qY AK),e,_,rfl,yD,hs.fle S1⟩
  | true=>
   rw[qX rfl]at h2;rw[run,qX rfl];split at h2
   ·rename_i s' hq
    obtain⟨h,S2,g1,e2,F2,rfl,g2,g3⟩:=hb s _ hq S0 e _ S1 yD;rw[g1];obtain⟨h',S3,g4,g5⟩:=ih s' f h2 S0 e2 F2 S2 g2;exact⟨h',S3,g4,g5.up ((hs.fle S1).trans g3)⟩
   ·rename_i s' hq
    obtain⟨h,S2,g1,e2,F2,rfl,g2,g3⟩:=hb s _ hq S0 e _ S1 yD;rw[g1];obtain⟨h',S3,g4,g5⟩:=ih s' f h2 S0 e2 F2 S2 g2;exact⟨h',S3,g4,g5.up ((hs.fle S1).trans g3)⟩
   ·rename_i s' hq
    cases h2;obtain⟨h,S2,g1,e2,F2,rfl,g2,g3⟩:=hb s _ hq S0 e _ S1 yD;rw[g1];exact⟨_,S2,rfl,e2,F2,rfl,g2,(hs.fle S1).trans g3⟩
   ·rename_i r hq
    cases h2;obtain⟨h,S2,g1,d,rfl,g2,g3⟩:=hb s _ hq S0 e _ S1 yD;rw[g1];exact⟨_,S2,rfl,d,rfl,g2,g3⟩
   ·cases h2
theorem Sq(w0:Wk A (B s0))(hc:∀s,VB (B s) t (c s))(hb:∀s,VS (B s) b R (q s) B):VS A (IQ t b n) R (whF c q n s0) B:=λf hf S0 e F S hs=>
 ca hc hb n s0 f hf S0 e F S (hs.weak w0)
end
section
variable{β:Type}
def rOL(ob:β->Ob):Rk (Option β):=λv S0 d S=>match v with
 | none=>d=.non
 | some b=>∃n,d=.ref n/\S0.length<=n/\S[n]?=some (ob b)
theorem Zz:∀(v:Option β) (S S1:Sto) (d:D) (S':Sto),S.length<=S1.length->rOL ob v S1 d S'->rOL ob v S d S':=λv S S1 d S' l h=>by
 cases v with
 | none=>exact h
 | some b=>obtain⟨n,h1,h2,h3⟩:=h;exact⟨n,h1,Am l h2,h3⟩
theorem fQ:VS A (CS (mC .non)) (rOL ob) (some (.rt none)) B:=λf hf S0 e F S hs=>by
 cases hf;exact⟨.rt .non,S,rfl,_,rfl,rfl,hs.kp⟩
theorem kM(h:VE A m (rN ob) p):VS A (CS m) (rOL ob) (p.bind λv=>some (.rt (some v))) B:=λf hf S0 e F S hs=>by
 obtain⟨v,h1,h2⟩:=Aw hf;cases h2;obtain⟨d,S',h3,h4,n,rfl,h5,h6⟩:=h v h1 S0 e F S hs;exact⟨_,S',K6 h3,_,rfl,⟨n,rfl,Am hs.kp.1 h5,h6⟩,hs.kp.trans h4⟩
end
section
variable{β ρ σ:Type}
def uq(o:Option β)(b:ρ)(q:β->Option (Fw ρ σ)):Option (Fw ρ σ):=match o with
 | none=>some (.rt b)
 | some l=>q l
end
section
variable{S0 S S':Sto}{A B:List Sl}{e:Lo}{F:Fz}{α ρ σ:Type}{a b:ME}{enc:α->D}
def oFK(enc:α->D)(l:List (Int×α)):Ob:=.fK (l.map λx=>(Dg x.1,enc x.2))
theorem sY(h:S[n]?=some (oFK enc l))(k:Int):NA (.ref n) (.int k) S=some ((Aj l k).map enc):=by
 unfold NA;dsimp only;rw[h];show some (Aj _ (Dg k))=_;rw[Pm SO]
theorem uV(h:S[n]?=some (oFK enc l)):Gj (.ref n) S=none:=by unfold Gj;dsimp only;rw[h];rfl
theorem cf(ha:VE A a (rO (oFK enc)) pl)(hb:VE A b (rV D.int) pk):VE A (m2 ixA a b) (rV enc) (pl.bind λl=>pk.bind λx=>Aj l x):=WU ha hb λl x z S n hn q=>RA (uV hn) (by rw[sY hn x,q];rfl)
theorem my(h:S[n]?=some (oFK enc l)):Ym (.ref n) S=some ((l.map (·.1)).map D.int):=by
 unfold Ym;dsimp only;rw[h];show some _=_;rw[BL,BL];rfl
theorem pP(h:A[i]?=some (.y (oFK enc l))):VI A (bu (AE i)) D.int (some (l.map (·.1))):=λ_ hv S0 e F S hs=>by
 cases hv;obtain⟨x,h1,n,rfl,h2,_⟩:=hs.sl i _ h;refine⟨Gx ((l.map (·.1)).map D.int),S,?_,Keeps.refl S,λ_ _ _ _=>rfl⟩;unfold bu;rw[IN h1];dsimp only[Res.bind];rw[my (hs.fz _ _ h2)]
theorem uA{b:MS}{R:Rk ρ}{p:Option (Fw ρ σ)}{B:σ->List Sl}{l:List (Int×α)}(i:Nat)(ha:A[i]?=some (.w i (oDK enc l)))(ht:((A.set i .u).all (Sl.oth i))=true)(h:VS (A.set i (.y (oFK enc l))) b R p B):VS A (BE (sFz i) b) R p B:=λf hf S0 e F S hs=>by
 obtain⟨x,h1,n,rfl,h2,h3⟩:=hs.sl i _ ha;have hp:=hs.put (o':=oFK enc l) ht ha h1 h2;have ϑ:(A.set i (.w i (oFK enc l)))[i]?=some (.w i (oFK enc l)):=Ap (AC.mp ha).1;obtain⟨F',h4,h5⟩:=hp.freeze (by rw[tO];exact ht) ϑ;rw[tO]at h4;obtain⟨g,S',h6,h7⟩:=h f hf S0 e F' _ h4;refine⟨g,S',?_,h7.up h5⟩
 have:sFz i e S=.ok (.nx e) (S.set n (oFK enc l)):=by
  unfold sFz;rw[h1];dsimp only;rw[h3];rfl
 exact(Bv this).trans h6
theorem gD(ha:VE A a (rO (oDK enc)) pl):VB A (FX a) (pl.bind λl=>some (!l.isEmpty)):=λv hv S0 e F S hs=>by
 obtain⟨l,h1,h2⟩:=Aw hv;cases h2;obtain⟨d,S',h3,h4,n,rfl,hn⟩:=ha l h1 S0 e F S hs;refine⟨S',?_,h4⟩;unfold FX;rw[h3];dsimp only[Res.bind];rw[show RS (.ref n) S'=some (!l.isEmpty) by unfold RS;dsimp only;rw[hn];show some (!(ay _ l).isEmpty)=_;rw[List.isEmpty_map]]
end
abbrev Pq:=(Nat->Option Ob)->D->Prop
def AtV(P:Pq)(C:AW)(x:Str)(d0:D):Prop:=∀L d,P L d->∃q fs,d=.ref q/\L q=some (.ins C fs)/\fs.lookup x=some d0
def AtO(P:Pq)(C:AW)(x:Str)(o:Ob):Prop:=∀L d,P L d->∃q fs n,d=.ref q/\L q=some (.ins C fs)/\fs.lookup x=some (.ref n)/\L n=some o
def AtN(P:Pq)(C:AW)(x:Str):Prop:=∀L d,P L d->∃q fs,d=.ref q/\L q=some (.ins C fs)/\fs.lookup x=none
def rQ(P:β->Pq):Rk β:=λv S0 d S=>∀L:Nat->Option Ob,(∀n o,S0.length<=n->S[n]?=some o->L n=some o)->P v L d
section
variable{S0 S S':Sto}{A:List Sl}{e:Lo}{F:Fz}{α β:Type}{enc:α->D}{ob:α->Ob}{i n:Nat}{P:Pq}{Pf Pg:β->Pq}{C:AW}{x:Str}{v:α}{f:β}
theorem Vs.qAt(hs:Vs S0 A e F S)(h:A[i]?=some (.q P)):∃d,e[i]?=some (some d)/\P (loF F) d:=by
 obtain⟨x,h1,d,rfl,h2⟩:=hs.sl i _ h;exact⟨d,h1,h2 _ λn o q=>iQ q⟩
theorem gB(hc:AtV P C x (enc v))(h:A[i]?=some (.q P)):VE A (Dj C x (AE i)) (rV enc) (some v):=λ_ hv S0 e F S hs=>by
 cases hv;obtain⟨d,h1,h2⟩:=Vs.qAt hs h;obtain⟨q,fs,rfl,h3,h4⟩:=hc _ _ h2;exact⟨_,S,LC (IN h1) (hs.fz _ _ (Nk h3)) h4,Keeps.refl S,rfl⟩
theorem FB(hc:AtO P C x (ob v))(h:A[i]?=some (.q P)):VE A (Dj C x (AE i)) (rO ob) (some v):=λ_ hv S0 e F S hs=>by
 cases hv;obtain⟨d,h1,h2⟩:=Vs.qAt hs h;obtain⟨q,fs,n,rfl,h3,h4,h5⟩:=hc _ _ h2;exact⟨_,S,LC (IN h1) (hs.fz _ _ (Nk h3)) h4,Keeps.refl S,n,rfl,hs.fz _ _ (Nk h5)⟩
theorem pQ(hc:AtO P C x (oL enc l))(h:A[i]?=some (.q P)):VI A (EE (Dj C x (AE i))) enc (some l):=λ_ hv S0 e F S hs=>by
 cases hv;obtain⟨d,h1,h2⟩:=Vs.qAt hs h;obtain⟨q,fs,n,rfl,h3,h4,h5⟩:=hc _ _ h2;have h6:=Nk h5;have hn:=hs.fz _ _ h6;exact⟨_,S,Lj (n:=n) (LC (IN h1) (hs.fz _ _ (Nk h3)) h4) hn,Keeps.refl S,λF2 S2 hF h=>De (h n _ (hF _ _ (by rw[GN (BW hn)];exact h6)))⟩
theorem ka(hc:AtO P C x (oL enc l))(h:A[i]?=some (.q P)):VI A (J1 (Dj C x (AE i))) (eP D.int enc) (some (DJ l)):=λ_ hv S0 e F S hs=>by
 cases hv;obtain⟨d,h1,h2⟩:=Vs.qAt hs h;obtain⟨q,fs,n,rfl,h3,h4,h5⟩:=hc _ _ h2;have h6:=Nk h5;have hn:=hs.fz _ _ h6;refine⟨Of (Ff (.ref n)),S,?_,Keeps.refl S,λF2 S2 hF h=>?_⟩
 ·unfold J1
  rw[LC (C:=C) (f:=x) (IN (S:=S) h1) (hs.fz _ _ (Nk h3)) h4];dsimp only[Res.bind];rw[De hn]
 ·unfold Of
  rw[De (h n _ (hF _ _ (by rw[GN (BW hn)];exact h6)))];exact congrArg some (Q9 l)
theorem cg(hp:∀L d,Pf f L d->Pg f L d)(h:A[i]?=some (.q (Pf f)))(hl:VA A ml q ar):VA A (AO (AE i) ml) (q.bind λy=>some (f,y)) (λz=>.q (Pg z.1) :: ar z.2):=λv hv S0 e F S hs=>by
 obtain⟨y,h2,h3⟩:=Aw hv;cases h3;obtain⟨x,h4,d,rfl,h5⟩:=hs.sl i _ h;obtain⟨ds,S2,h6,h7,h8⟩:=hl y h2 S0 e F S hs;exact⟨_,S2,Cz (IN h4) h6,h7,λL hL=>hp _ _ (h5 L λn o q=>hL n o (h7.at (hs.fz _ _ q))),h8⟩
theorem KU(hc:AtN (Pf f) C m)(hp:∀L d,Pf f L d->Pg f L d)(h:A[i]?=some (.q (Pf f)))(ha:VA A ml p ar)(hf:∀z,VF g (.q (Pg f) :: ar z) R (q z))(hn:∀z,(ar z).length+1=n)
  (hR:∀v S S1 d S',S.length<=S1.length->R v S1 d S'->R v S d S'):VE A (Ki C m n g (AE i) ml) R (p.bind q):=λv hv S0 e F S hs=>by
 obtain⟨z,h1,h2⟩:=Aw hv;obtain⟨x,h4,d,rfl,h5⟩:=hs.sl i _ h;obtain⟨k,fs,rfl,h6,h7⟩:=hc _ _ (h5 (loF F) λn o q=>iQ q);obtain⟨ds,S2,q1,q2,q3⟩:=ha z h1 S0 e F S hs;obtain⟨d,S3,r1,r2,r3⟩:=hf z v h2 S2 (.ref k :: ds) ⟨λL hL=>hp _ _ (h5 L λn o q=>hL n o (q2.at (hs.fz _ _ q))),q3⟩;refine⟨d,S3,?_,q2.trans r2,hR _ _ _ _ _ q2.1 r3⟩;unfold Ki;rw[IN h4];dsimp only[Res.bind];rw[hs.fz _ _ (Nk h6)];dsimp only;rw[qX ⟨rfl,h7⟩,q1];dsimp only;rw[qX (by rw[q3.len];exact hn z)];exact r1
theorem kI(h:VE A m (rQ Pf) p):VS A (CN i m) R (p.bind λv=>some (.nx v)) (λv=>A.set i (.q (Pf v))):=λf hf S0 e F S hs=>by
 obtain⟨v,h1,h2⟩:=Aw hf;cases h2;obtain⟨d,S',h3,h4,h5⟩:=h v h1 S0 e F S hs;exact⟨_,S',JF h3,_,_,rfl,(hs.grow h4).set (a:=.q (Pf v)) (x:=some d) i ⟨d,rfl,λL hL=>h5 L λn o hn ho=>hL n o (Ny hn ho)⟩,hs.fle S'⟩
end
def kR(r:List Int):List Key:=r.map Dg
def oDR(enc:α->D)(l:List (List Int×α)):Ob:=.dT (l.map λx=>(kR x.1,enc x.2))
theorem iY(x y:List Int)(h:kR x=kR y):x=y:=by
 have:∀r:List Int,(kR r).map (λk:Key=>match k with | .inl i=>i | .inr _=>0)=r:=λr=>by
  unfold kR;rw[BL]
  conv=>rhs;rw[<-Sj r]
  rfl
 rw[<-this x,h,this y]
theorem oZ(r:List Int):On (r.map D.int)=some (kR r):=by
 induction r with
 | nil=>rfl
 | cons x r ih=>
  rw[BC];unfold On;rw[ih];rfl
section
variable{S0 S S':Sto}{A:List Sl}{e:Lo}{F:Fz}{α:Type}{enc:α->D}{a b m:ME}
theorem ot(h:S[n]?=some (oDR enc l))(k:List Int):NA (.ref n) (eT D.int k) S=some ((Aj l k).map enc):=by
 unfold NA;dsimp only;rw[h];show(match On (k.map D.int)with | some ks=>some (Aj (l.map λx:List Int×α=>(kR x.1,enc x.2)) ks) | none=>none)=_;rw[oZ];dsimp only;rw[Pm iY]
theorem uU(h:S[n]?=some (oDR enc l)):Gj (.ref n) S=none:=by unfold Gj;dsimp only;rw[h];rfl
theorem fx:VE A Nj (rN (oDR enc)) (some []):=λv hv S0 e F S hs=>by cases hv;exact⟨_,_,rfl,Keeps.app _ _,_,rfl,AL _,Ep _ _⟩
theorem Xz(ha:VE A a (rO (oDR enc)) pl)(hb:VE A b (rV (eT D.int)) pk):VE A (m2 ixA a b) (rV enc) (pl.bind λl=>pk.bind λx=>Aj l x):=WU ha hb λl x z S n hn q=>RA (uU hn) (by rw[ot hn x,q];rfl)
theorem fq(ha:VE A a (rV (eT D.int)) pk)(hb:VE A b (rO (oDR enc)) pl):VE A (m2 (inA true) a b) (rV D.bl) (pk.bind λx=>pl.bind λl=>some (!(Aj l x).isSome)):=Sy ha hb λx l z S n hn q=>by cases q;rw[RB (uU hn) (ot hn x)];simp
theorem jL(l:List (List Int×α))(k:List Int)(v:α)(S:Sto)(n:Nat)(hn:S[n]?=some (oDR enc l))(hl:l.length < 1000000):RC (.ref n) (eT D.int k) (enc v) S=some (S.set n (oDR enc (B9 l k v))):=by
 unfold RC;dsimp only;rw[hn];show(match On (k.map D.int)with | some ks=>if (l.map _).length < sizeLine then some (S.set n (Ob.dT (B9 (l.map λx:List Int×α=>(kR x.1,enc x.2)) ks (enc v))))else none | none=>none)=_;rw[oZ];dsimp only;rw[qX (by rw[AF];exact Yj hl),Px iY];rfl
theorem fR(hi:A[i]?=some (.w i (oDR enc l)))(hk:VE A b (rV (eT D.int)) pk)(h:VE A m (rV enc) p)(ht:((A.set i .u).all (Sl.oth i))=true) :
  VS A (Cm (AE i) b m) R (p.bind λv=>pk.bind λk=>(HD l k v).bind λl'=>some (.nx l')) (λl'=>A.set i (.w i (oDR enc l'))):=WN jL hi hk h ht
theorem kx(ha:VE A a (rV D.int) p):VE A (be a) (rV D.int) (p.bind λx=>some (Du x:Int)):=λv hv S0 e F S hs=>by
 obtain⟨x,h1,h2⟩:=Aw hv;cases h2;obtain⟨d,S',h3,h4,rfl⟩:=ha x h1 S0 e F S hs;refine⟨_,S',?_,h4,rfl⟩;unfold be;rw[h3];rfl
end
section
variable{S0 S S':Sto}{A:List Sl}{e:Lo}{F:Fz}{β σ:Type}{ob:β->Ob}{a m:ME}
theorem bH{p:Option (Option β)}(h:VE A m (rOL ob) p):VE A (m2 (UH false) m (mC .non)) (rV D.bl) (p.bind λo=>some o.isNone):=λv hv S0 e F S hs=>by
 obtain⟨o,h1,h2⟩:=Aw hv;cases h2;obtain⟨d,S',c1,k1,r1⟩:=h o h1 S0 e F S hs
 cases o with
 | none=>cases(show d=.non from r1);exact⟨_,S',Dr c1 rfl rfl,k1,rfl⟩
 | some l=>obtain⟨n,rfl,_⟩:=r1;exact⟨_,S',Dr c1 rfl rfl,k1,rfl⟩
theorem kO{B:σ->List Sl}{t1 t2:MT}{rest:MS}{p:Option (Option β)}{i:Nat}{b:Bool}{q:β->Option (Fw Bool σ)}(h:VE A m (rOL ob) p)(hn:VB (A.set i (.v .non)) t1 (some true))(hr:∀l,VS (A.set i (.y (ob l))) (BE (sIf (mOr t1 t2) (CS (mC (.bl b))) sNx) rest) (rV D.bl) (q l) B) :
  VS A (BE (CN i m) (BE (sIf (mOr t1 t2) (CS (mC (.bl b))) sNx) rest)) (rV D.bl) (p.bind λo=>uq o b q) B:=λf hf S0 e F S hs=>by
 obtain⟨o,h1,h2⟩:=Aw hf;obtain⟨d,S',c1,k1,r1⟩:=h o h1 S0 e F S hs;have g:=hs.grow k1;have s1:CN i m e S=.ok (.nx (e.set i (some d))) S':=JF c1
 cases o with
 | none=>
  cases(show d=.non from r1);cases h2;obtain⟨S2,t2',k2⟩:=hn true rfl S0 _ _ S' (g.set (a:=.v .non) (x:=some .non) i rfl);exact⟨.rt (.bl b),S2,(Bv s1).trans (Qn ((G0 (iA t2')).trans ((qX rfl).trans rfl))),_,rfl,rfl,(hs.kp.trans k1).trans k2⟩
 | some l=>
  obtain⟨n,rfl,hn,hb⟩:=r1;obtain⟨h3,S2,c2,g2⟩:=hr l f h2 S0 _ _ S' (g.set (a:=.y (ob l)) (x:=some (.ref n)) i ⟨n,rfl,Ny hn hb,Am hs.kp.1 hn⟩);exact⟨h3,S2,(Bv s1).trans c2,g2.up (hs.fle S')⟩
end
end L4
namespace L2
open PySem PySem.Spec PyProof.Rows
section
variable{P:Bh}{w:CH}{K:AG}{mg:Str->Option AI}{base:C9}
theorem BR{x qual}{st}{f}{fd}{N ps}{k n}(F:Fun K x qual st f fd)(Sc:BZ N ps (BB st))(hn:ps.length=n){mb}
  (xx:∀(wg:AI) (A:CM) (outer:List Env) (s:AR) (H:Hp) (E:XK),IE k (A.deeper (Os qual (BB st) s.heap.objs.size f wg))->(A.deeper (Os qual (BB st) s.heap.objs.size f wg)).units+64 < E4->N.Nodup ->
   GSs (aT (CXG P w) P w K mg base N qual (BB st) f wg A outer s H E).q noE (Jb st) mb) :
  Cq P w K mg base (CXG P w) (k+1) f fd ps (spM K n (D9 N.length mb)):=nK F Sc hn λwg A outer s H E hr=>xx wg A outer s H E hr hr.units Sc.nd
end
end L2
namespace M
open PySem PySem.Spec PyProof.Rows L2
def top(i:Nat):DK:=pG.main.body.getD i (.Pass ⟨0,0,0,0⟩)
structure Wd where
 Web:AW
 Field:AW
def Wd.excs(W:Wd):List AW:=[]
abbrev Jq:DK:=top 10
abbrev Jn:DK:=top 11
abbrev O4:DK:=Kk (top 9) 0
abbrev HX:DK:=top 12
abbrev Zv:DK:=top 13
abbrev O2:DK:=top 15
abbrev Qq:DK:=top 16
abbrev Qp:DK:=top 17
abbrev TZ:DK:=top 18
abbrev Zw:DK:=top 19
abbrev MF:DK:=top 20
abbrev MH:DK:=top 21
abbrev NR:DK:=top 23
abbrev Qo:DK:=top 25
abbrev IP:DK:=top 28
abbrev O3:DK:=top 29
abbrev NS:DK:=top 30
abbrev FU:DK:=Kk (top 32) 3
abbrev FV:DK:=Kk (top 32) 4
abbrev MK:DK:=Kk (top 32) 0
abbrev K5:DK:=Kk (top 32) 1
abbrev Js:DK:=Kk (top 32) 2
abbrev Jt:DK:=Kk (top 32) 5
abbrev GB:DK:=Kk (top 32) 6
abbrev Kx:DK:=top 34
abbrev Tb:DK:=top 33
abbrev Jo:DK:=top 35
abbrev Jp:DK:=top 39
abbrev MD:DK:=top 38
abbrev Kw:DK:=top 37
abbrev Jr:DK:=top 41
abbrev MJ:DK:=top 42
abbrev HY:DK:=top 43
abbrev NT:DK:=top 44
abbrev Kz:DK:=top 45
abbrev NU:DK:=top 46
abbrev NV:DK:=top 47
abbrev K0:DK:=top 48
abbrev Ky:DK:=top 49
abbrev bO:DK:=top 50
def Ub(W:Wd):MS:=
  (BE (CN 2 Nj)
  (BE (FJ (EE (AE 1)) (Jk 2 (Df (tgN 3) (Df (tgN 4) KY)))
  (BE (CN 5 (Jy (AO (mQ RQ (AO (AE 3) (AO (AE 4) BO))) (AO (mQ Vo (AO (AE 3) (AO (AE 4) BO))) BO))))
  (BE (sIf (mB (m2 (eqD false) (m2 ixA (AE 5) (mC (.int 0))) (m2 ixA (AE 5) (mC (.int 1))))) Td sNx)
  (BE (sIf (mOr (mB (m2 ltD (m2 ixA (AE 5) (mC (.int 0))) (mC (.int 0)))) (mB (m2 geD (m2 ixA (AE 5) (mC (.int 1))) (AE 0)))) Td sNx)
  (BE (sIf (mB (m2 (inA false) (AE 5) (AE 2))) Td sNx)
  (Cm (AE 2) (AE 5) (mC (.bl true))))))))
  (CS (Gk (Ge (AE 2))))))
def Ht(W:Wd):List D->Sto->Res D:=D9 6 (Ub W)
def N5(W:Wd):MS:=
  (BE (CN 2 (Eh (EL 1 (iR1 (AO (AE 0) BO)) (tgN 0) G4 (Eh (GJ BO)))))
  (BE (FJ (EE (AE 1)) (Jk 2 (Df (tgN 3) (Df (tgN 4) KY)))
  (BE (Ir (PF (m2 ixA (AE 2) (AE 3)) (AE 4)))
  (Ir (PF (m2 ixA (AE 2) (AE 4)) (AE 3)))))
  (CS (Gk (Eh (EL 1 (EE (AE 2)) (tgN 0) G4 (Gk (Ge (AE 0)))))))))
def Hs(W:Wd):List D->Sto->Res D:=D9 5 (N5 W)
def Uc(W:Wd):MS:=
  (BE (sIf (OX (mB (m3 leD leD (mC (.int 1)) (AE 1) (mC (.int 60))))) Td sNx)
  (BE (KZ W.Web "places" (AE 0) (AE 1))
  (BE (KZ W.Web "ties" (AE 0) (CB 2 (Ht W) (AO (AE 1) (AO (AE 2) BO))))
  (KZ W.Web "near_sets" (AE 0) (CB 2 (Hs W) (AO (AE 1) (AO (Dj W.Web "ties" (AE 0)) BO)))))))
def Mj(W:Wd):List D->Sto->Res D:=D9 3 (Uc W)
def Hy(W:Wd):MS:=
  (sIf (OX (mB (m3 leD ltD (mC (.int 0)) (AE 1) (Dj W.Web "places" (AE 0))))) Td sNx)
def Hr(W:Wd):List D->Sto->Res D:=D9 2 (Hy W)
def aW(W:Wd):MS:=
  (BE (Ir (CB 2 (Hr W) (AO (AE 0) (AO (AE 1) BO))))
  (CS (m2 ixA (Dj W.Web "near_sets" (AE 0)) (AE 1))))
def aP(W:Wd):List D->Sto->Res D:=D9 2 (aW W)
def PL(W:Wd):MS:=
  (CS (Eh (EL 1 (iR1 (AO (Dj W.Web "places" (AE 0)) BO)) (tgN 0) G4 (Gk (Ge (m2 Iw (Jy (AO (AE 0) BO)) (CB 2 (aP W) (AO (AE 1) (AO (AE 0) BO)))))))))
def Mf(W:Wd):List D->Sto->Res D:=D9 1 (PL W)
def RF(W:Wd):MS:=
  (BE (CN 1 (mC (.int 0)))
  (BE (FJ (EE (AE 0)) (tgN 2)
  (Te 1 (λa b=>Cg a b) (m2 Ql (mC (.int 1)) (AE 2))))
  (CS (AE 1))))
def Q5(W:Wd):List D->Sto->Res D:=D9 3 (RF W)
def RE(W:Wd):MS:=
  (BE (CN 1 (Eh (GJ BO)))
  (BE (CN 2 (AE 0))
  (BE (IQ (FX (AE 2)) (BE (Ir (PF (AE 1) (m2 TH (be (m2 RH (AE 2) (iN (AE 2)))) (mC (.int 1)))))
  (Te 2 (λa b=>BH a b) (m2 TH (AE 2) (mC (.int 1))))) wN)
  (CS (AE 1)))))
def Jg(W:Wd):List D->Sto->Res D:=D9 3 (RE W)
def Y4(W:Wd)(fr:List D->Sto->Res D):MS:=
  (BE (CN 5 (Eh (EL 1 (EE (m2 ixA (AE 0) (AE 3))) (tgN 0) (P3 (FX (m2 RH (m2 YC (AE 2) (AE 0)) (mC (.int 1)))) (mB (m2 (inA true) (AE 0) (AE 5)))) (AE 0))))
  (BE (FJ (EE (AE 5)) (tgN 6)
  (sIf (mB (m2 (inA true) (AE 6) (AE 2))) (BE (Cm (AE 2) (AE 6) (AE 3))
  (CS (mC (.bl true)))) sNx))
  (BE (FJ (EE (AE 5)) (tgN 6)
  (sIf (mB (m2 (inA true) (AE 6) (AE 4))) (BE (Cm (AE 4) (AE 6) (mC (.bl true)))
  (sIf (FX (CB 5 fr (AO (AE 0) (AO (AE 1) (AO (AE 2) (AO (m2 ixA (AE 2) (AE 6)) (AO (AE 4) BO))))))) (BE (Cm (AE 2) (AE 6) (AE 3))
  (CS (mC (.bl true)))) sNx)) sNx))
  (CS (mC (.bl false))))))
def G2(W:Wd):Nat->List D->Sto->Res D
 | 0=>λ_ _=>.bad
 | n+1=>D9 7 (Y4 W (G2 W n))
def aX(W:Wd):MS:=
  (BE (CN 3 Jz)
  (BE (FJ (EE (AE 1)) (tgN 4)
  (sIf (FX (m2 RH (m2 YC (AE 2) (AE 4)) (mC (.int 1)))) (Cm (AE 3) (AE 4) (AE 4)) sNx))
  (BE (FJ (EE (AE 1)) (tgN 4)
  (sIf (P3 (OX (FX (m2 RH (m2 YC (AE 2) (AE 4)) (mC (.int 1))))) (OX (FX (CB 5 (G2 W 9) (AO (AE 0) (AO (AE 2) (AO (AE 3) (AO (AE 4) (AO Jz BO))))))))) (CS (mC (.bl false))) sNx))
  (CS (mC (.bl true))))))
def UQ(W:Wd):List D->Sto->Res D:=D9 5 (aX W)
def Mp(W:Wd):MS:=
  (BE (FJ (EE (m2 ixA (AE 0) (AE 1))) (tgN 4)
  (BE (CN 5 (m2 Ql (mC (.int 1)) (AE 4)))
  (BE (CN 6 (Eh (EL 1 (EE (AE 3)) (tgN 0) (FX (m2 RH (AE 0) (AE 6))) (m2 pL (AE 0) (AE 6)))))
  (FJ (J1 (AE 6)) (Jk 2 (Df (tgN 7) (Df (tgN 8) KY)))
  (sIf (FX (CB 3 (UQ W) (AO (AE 0) (AO (AE 2) (AO (AE 8) BO))))) (CS (Jy (AO (AE 4) (AO (PD (AE 6) (Ts (AE 7)) Vk) BO)))) sNx)))))
  (CS (mC .non)))
def Mh(W:Wd):List D->Sto->Res D:=D9 9 (Mp W)
def Mq(W:Wd):MS:=
  (BE (CN 3 (Eh (GJ BO)))
  (BE (CN 4 (AE 2))
  (BE (FJ (SQ (AE 1)) (Jk 2 (Df (tgN 5) (Df (tgN 6) KY)))
  (BE (CN 7 (CB 4 (Mh W) (AO (AE 0) (AO (AE 6) (AO (P2 (AE 1) (Ts (AE 5)) Vk) (AO (AE 4) BO))))))
  (BE (sIf (mB (m2 (UH false) (AE 7) (mC .non))) (CS (mC .non)) sNx)
  (BE (Ir (PF (AE 3) (m2 ixA (AE 7) (mC (.int 0)))))
  (CN 4 (m2 ixA (AE 7) (mC (.int 1))))))))
  (CS (Gk (AE 3))))))
def Mi(W:Wd):List D->Sto->Res D:=D9 8 (Mq W)
def N3(W:Wd):MS:=
  (CS (Gk (Eh (EL 1 (EE (AE 0)) (tgN 0) G4 (W3 (mB (m2 (eqD false) (AE 0) (AE 2))) (AE 3) (AE 0))))))
def Nt(W:Wd):List D->Sto->Res D:=D9 3 (N3 W)
def RD(W:Wd):MS:=
  (BE (CN 2 (Eh (GJ (AO (Jy BO) BO))))
  (BE (FJ (iR1 (AO (AE 1) BO)) (tgN 3)
  (BE (CN 4 (Eh (GJ BO)))
  (BE (FJ (EE (AE 2)) (tgN 5)
  (BE (CN 6 (W3 (FX (AE 5)) (m2 Iw (m2 ixA (AE 5) (iN (mC (.int 1)))) (mC (.int 1))) (mC (.int 0))))
  (FJ (iR2 (AO (AE 6) (AO (m2 Iw (m2 Iw (m2 TH (AE 0) (AE 1)) (AE 3)) (mC (.int 1))) BO))) (tgN 7)
  (Ir (PF (AE 4) (m2 Iw (AE 5) (Jy (AO (AE 7) BO))))))))
  (CN 2 (AE 4)))))
  (CS (AE 2))))
def Q4(W:Wd):List D->Sto->Res D:=D9 8 (RD W)
def IW(W:Wd):MS:=
  (BE (CN 2 (mC (.int 1)))
  (BE (FJ (iR1 (AO (AE 1) BO)) (tgN 3)
  (CN 2 (m2 QI (m2 rM (AE 2) (m2 TH (AE 0) (AE 3))) (m2 Iw (AE 3) (mC (.int 1))))))
  (CS (AE 2))))
def IV(W:Wd):List D->Sto->Res D:=D9 4 (IW W)
def PM(W:Wd):MS:=
  (BE (sIf (OX (mB (m3 leD leD (mC (.int 1)) (AE 1) (Dj W.Web "places" (AE 0))))) Td sNx)
  (CS (CB 2 (IV W) (AO (Dj W.Web "places" (AE 0)) (AO (AE 1) BO)))))
def PK(W:Wd):List D->Sto->Res D:=D9 2 (PM W)
def N4(W:Wd):MS:=
  (BE (sIf (mB (m2 gtD (CB 2 (PK W) (AO (AE 0) (AO (AE 1) BO))) (mC (.int 400)))) Td sNx)
  (CS (CB 2 (Q4 W) (AO (Dj W.Web "places" (AE 0)) (AO (AE 1) BO)))))
def Km(W:Wd):List D->Sto->Res D:=D9 2 (N4 W)
def FY(W:Wd):MS:=
  (BE (CN 2 (m2 ixA (Dj W.Field "everything" (AE 0)) (AE 1)))
  (BE (CN 3 (mC (.int 0)))
  (BE (FJ (EE (AE 2)) (tgN 4)
  (FJ (EE (m2 ixA (Dj W.Field "takes" (AE 0)) (AE 4))) (tgN 5)
  (sIf (mB (m2 (inA true) (AE 5) (AE 2))) (Te 3 (λa b=>Cg a b) (m2 Ql (mC (.int 1)) (m2 ixA (Dj W.Field "numbers" (AE 0)) (Gk (Ge (CB 3 (Nt W) (AO (AE 2) (AO (AE 4) (AO (AE 5) BO))))))))) sNx)))
  (CS (AE 3)))))
def Da(W:Wd):List D->Sto->Res D:=D9 6 (FY W)
def FZ(W:Wd):MS:=
  (BE (CN 2 (m2 ixA (Dj W.Field "everything" (AE 0)) (AE 1)))
  (BE (CN 3 (mC (.int 0)))
  (BE (FJ (J1 (Dj W.Field "place_bits" (AE 0))) (Jk 2 (Df (tgN 4) (Df (tgN 5) KY)))
  (sIf (FX (CB 3 (UQ W) (AO (Dj W.Field "takes" (AE 0)) (AO (AE 2) (AO (AE 5) BO))))) (Te 3 (λa b=>Cg a b) (m2 Ql (mC (.int 1)) (AE 4))) sNx))
  (CS (AE 3)))))
def Db(W:Wd):List D->Sto->Res D:=D9 6 (FZ W)
def QM(W:Wd):MS:=
  (BE (KZ W.Field "everything" (AE 0) (CB 2 (Km W) (AO (AE 1) (AO (AE 2) BO))))
  (BE (KZ W.Field "kind" (AE 0) (AE 3))
  (BE (KZ W.Field "takes" (AE 0) (CB 1 (Mf W) (AO (AE 1) BO)))
  (BE (KZ W.Field "numbers" (AE 0) Nj)
  (BE (KZ W.Field "having" (AE 0) (Eh (EL 1 (iR1 (AO (Dj W.Web "places" (AE 1)) BO)) (tgN 0) G4 (mC (.int 0)))))
  (BE (FJ (J1 (Dj W.Field "everything" (AE 0))) (Jk 2 (Df (tgN 4) (Df (tgN 5) KY)))
  (BE (Cm (Dj W.Field "numbers" (AE 0)) (AE 5) (AE 4))
  (FJ (EE (AE 5)) (tgN 6)
  (YJ (λa b=>Cg a b) (Dj W.Field "having" (AE 0)) (AE 6) (m2 Ql (mC (.int 1)) (AE 4))))))
  (BE (KZ W.Field "place_bits" (AE 0) (Eh (EL 1 (EE (Dj W.Field "everything" (AE 0))) (tgN 0) G4 (CB 1 (Q5 W) (AO (AE 0) BO)))))
  (KZ W.Field "known" (AE 0) Jz))))))))
def LG(W:Wd):List D->Sto->Res D:=D9 7 (QM W)
def LM(W:Wd)(ds:List D)(S:Sto)(k:Key):Int:=match ds,k with
 | .ref q :: _,.inl n=>lmI (if sQ "kind" q S=some ("one" : Str)then Da W [.ref q,.int n] S else Db W [.ref q,.int n] S)
 | _,_=>0
def Hw(W:Wd):List D->Sto->Res D:=mZ "known" (LM W) (LG W)
def LP(W:Wd):MS:=
  (BE (CN 2 (m2 ixA (Dj W.Field "everything" (AE 0)) (AE 1)))
  (CS (Eh (EL 1 (iR1 (AO (Lg (Dj W.Field "takes" (AE 0))) BO)) (tgN 0) (mB (m2 (inA true) (AE 0) (AE 3))) (AE 0)))))
def Im(W:Wd):List D->Sto->Res D:=D9 3 (LP W)
def KC(W:Wd):MS:=
  (BE (sIf (mB (m2 (inA true) (AE 1) (Dj W.Field "known" (AE 0)))) (Cm (Dj W.Field "known" (AE 0)) (AE 1) (W3 (mB (m2 (eqD false) (Dj W.Field "kind" (AE 0)) (mC (.str "one")))) (Ki W.Field "linked_by_one" 2 (Da W) (AE 0) (AO (AE 1) BO)) (Ki W.Field "linked_by_all" 2 (Db W) (AE 0) (AO (AE 1) BO)))) sNx)
  (CS (m2 ixA (Dj W.Field "known" (AE 0)) (AE 1))))
def JJ(W:Wd):List D->Sto->Res D:=D9 2 (KC W)
def Hv(W:Wd):List D->Sto->Res D:=n8 "known" (JJ W)
def KD(W:Wd):MS:=
  (CS (m2 RH (Ki W.Field "linked" 2 (Hv W) (AE 0) (AO (AE 1) BO)) (m2 ixA (Dj W.Field "having" (AE 0)) (AE 2))))
def Hx(W:Wd):List D->Sto->Res D:=D9 3 (KD W)
def GP(W:Wd):MS:=
  (BE (CN 4 (m2 ixA (Dj W.Field "everything" (AE 0)) (AE 1)))
  (BE (sIf (mB (m2 (eqD false) (Dj W.Field "kind" (AE 0)) (mC (.str "all")))) (CS (CB 3 (Mi W) (AO (Dj W.Field "takes" (AE 0)) (AO (AE 4) (AO (Eh (EL 1 (EE (CB 1 (Jg W) (AO (AE 3) BO))) (tgN 0) G4 (m2 ixA (Dj W.Field "place_bits" (AE 1)) (AE 0)))) BO))))) sNx)
  (BE (CN 5 (Eh (GJ BO)))
  (BE (FJ (EE (CB 1 (Jg W) (AO (AE 3) BO))) (tgN 6)
  (Ir (PF (AE 5) (Gk (Eh (EL 1 (EE (AE 4)) (tgN 0) G4 (W3 (mB (m2 (inA false) (AE 0) (m2 ixA (Dj W.Field "everything" (AE 1)) (AE 7)))) (AE 0) (AE 3))))))))
  (CS (mQ Z9 (Tz (AE 5))))))))
def GM(W:Wd):List D->Sto->Res D:=D9 7 (GP W)
def LK(W:Wd):MS:=
  (BE (CN 2 Jz)
  (BE (FJ (EE (CB 1 (Jg W) (AO (AE 1) BO))) (tgN 3)
  (BE (CN 4 (Eh (EL 1 (EE (Ki W.Field "calls" 2 (Im W) (AE 0) (AO (AE 3) BO))) (tgN 0) (mB (m2 (eqD false) (m2 RH (Ki W.Field "behind" 3 (Hx W) (AE 1) (AO (AE 4) (AO (AE 0) BO))) (AE 2)) (mC (.int 0)))) (AE 0))))
  (sIf (FX (AE 4)) (Cm (AE 2) (AE 3) (m2 ixA (AE 4) (mC (.int 0)))) sNx)))
  (CS (AE 2))))
def Ik(W:Wd):List D->Sto->Res D:=D9 5 (LK W)
def Ua(W:Wd):MS:=
  (BE (CN 1 Jz)
  (BE (CN 2 (m2 TH (m2 Ql (mC (.int 1)) (Lg (Dj W.Field "everything" (AE 0)))) (mC (.int 1))))
  (BE (CN 3 (mC (.int 1)))
  (BE (CN 4 (CB 2 (Ik W) (AO (AE 0) (AO (AE 2) BO))))
  (BE (IQ (FX (AE 4)) (BE (BE (sFz 4) (FJ (bu (AE 4)) (tgN 5)
  (BE (Cm (AE 1) (AE 5) (Jy (AO (AE 3) (AO (m2 ixA (AE 4) (AE 5)) BO))))
  (Te 2 (λa b=>CD a b) (m2 Ql (mC (.int 1)) (AE 5))))))
  (BE (Te 3 (λa b=>a+b) (mC (.int 1)))
  (CN 4 (CB 2 (Ik W) (AO (AE 0) (AO (AE 2) BO)))))) wN)
  (CS (AE 1)))))))
def UR(W:Wd):List D->Sto->Res D:=D9 6 (Ua W)
def J9(W:Wd):MS:=
  (CS (iM (Eh (EL 1 (iR1 (AO (Lg (Dj W.Field "everything" (AE 0))) BO)) (tgN 0) (mB (m2 (inA true) (AE 0) (AE 2))) (m2 Ql (mC (.int 1)) (AE 0))))))
def J5(W:Wd):List D->Sto->Res D:=D9 2 (J9 W)
def KA(W:Wd):MS:=
  (CS (Ki W.Field "first_answer" 4 (GM W) (AE 0) (AO (AE 1) (AO (AE 2) (AO (m2 RH (Ki W.Field "behind" 3 (Hx W) (AE 0) (AO (AE 1) (AO (AE 2) BO))) (AE 3)) BO)))))
def J6(W:Wd):List D->Sto->Res D:=D9 4 (KA W)
def Mo(W:Wd):MS:=
  (CS (Gk (Eh (EL 1 (EE (Ki W.Field "calls" 2 (Im W) (AE 0) (AO (AE 1) BO))) (tgN 0) G4 (Jy (AO (AE 0) (AO (CB 4 (J6 W) (AO (AE 1) (AO (AE 2) (AO (AE 0) (AO (AE 3) BO))))) BO)))))))
def Mg(W:Wd):List D->Sto->Res D:=D9 3 (Mo W)
def LJ(W:Wd):MS:=
  (BE (CN 3 (RT W.Field 4 (Hw W) (AO (AE 0) (AO (AE 1) (AO (AE 2) BO)))))
  (BE (CN 4 (CB 2 (J5 W) (AO (AE 3) (AO (CB 1 (UR W) (AO (AE 3) BO)) BO))))
  (BE (sIf (mB (m2 (eqD false) (AE 4) (mC (.int 0)))) (CS (mC .non)) sNx)
  (CS (Eh (EL 1 (EE (CB 1 (Jg W) (AO (AE 4) BO))) (tgN 0) G4 (Jy (AO (m2 ixA (Dj W.Field "everything" (AE 4)) (AE 0)) (AO (CB 3 (Mg W) (AO (AE 4) (AO (AE 0) (AO (AE 5) BO)))) BO)))))))))
def G3(W:Wd):List D->Sto->Res D:=D9 5 (LJ W)
def KB(W:Wd):MS:=
  (BE (sIf (mB (m2 ltD (AE 1) (Lg (AE 0)))) (CS (m2 ixA (AE 0) (AE 1))) sNx)
  (CS (mC (.int 0))))
def E3(W:Wd):List D->Sto->Res D:=D9 2 (KB W)
def Mr(W:Wd):MS:=
  (BE (CN 1 (Eh (GJ BO)))
  (BE (FJ (iR1 (AO (AE 0) BO)) (tgN 2)
  (FJ (iR2 (AO (m2 Iw (AE 2) (mC (.int 1))) (AO (AE 0) BO))) (tgN 3)
  (Ir (PF (AE 1) (Jy (AO (AE 2) (AO (AE 3) BO)))))))
  (CS (AE 1))))
def Ja(W:Wd):List D->Sto->Res D:=D9 4 (Mr W)
def Hz(W:Wd):MS:=
  (BE (sIf (mB (m2 (eqD false) (AE 1) (mC (.int 1)))) (CS (Eh (EL 1 (iR1 (AO (m2 TH (AE 0) (mC (.int 1))) BO)) (tgN 0) G4 (Jy (AO (AE 0) (AO (m2 Iw (AE 0) (mC (.int 1))) BO)))))) sNx)
  (BE (sIf (mB (m2 (eqD false) (AE 1) (mC (.int 2)))) (CS (m2 Iw (Eh (EL 1 (iR1 (AO (m2 TH (AE 0) (mC (.int 1))) BO)) (tgN 0) G4 (Jy (AO (AE 0) (AO (m2 Iw (AE 0) (mC (.int 1))) BO))))) (Eh (GJ (AO (Jy (AO (mC (.int 0)) (AO (m2 TH (AE 0) (mC (.int 1))) BO))) BO))))) sNx)
  (BE (sIf (mB (m2 (eqD false) (AE 1) (mC (.int 3)))) (CS (CB 1 (Ja W) (AO (AE 0) BO))) sNx)
  (BE (sIf (mB (m2 (eqD false) (AE 1) (mC (.int 4)))) (CS (Eh (EL 1 (iR2 (AO (mC (.int 1)) (AO (AE 0) BO))) (tgN 0) G4 (Jy (AO (mC (.int 0)) (AO (AE 0) BO)))))) sNx)
  (CS (Eh (GJ BO)))))))
def Hu(W:Wd):List D->Sto->Res D:=D9 2 (Hz W)
def N6(W:Wd):MS:=
  (BE (CN 3 (CB 1 (Ja W) (AO (AE 2) BO)))
  (BE (CN 4 Nj)
  (BE (FJ (EE (CB 2 (Hu W) (AO (AE 2) (AO (m2 Ry (m2 QI (CB 2 (E3 W) (AO (AE 0) (AO (mC (.int 0)) BO))) (mC (.int 7))) (mC (.int 6))) BO)))) (tgN 5)
  (Cm (AE 4) (AE 5) (mC (.bl true))))
  (BE (FJ (iR2 (AO (AE 1) (AO (mQ RQ (AO (Lg (AE 0)) (AO (mC (.int 63)) BO))) BO))) (tgN 6)
  (BE (CN 5 (m2 ixA (AE 3) (m2 Ry (m2 ixA (AE 0) (AE 6)) (Lg (AE 3)))))
  (Cm (AE 4) (AE 5) (dY (m2 (inA true) (AE 5) (AE 4)) (bd (m2 ixA (AE 4) (AE 5)))))))
  (CS (Eh (EL 1 (EE (AE 3)) (tgN 0) (P3 (mB (m2 (inA false) (AE 0) (AE 5))) (FX (m2 ixA (AE 5) (AE 0)))) (AE 0))))))))
def Nu(W:Wd):List D->Sto->Res D:=D9 7 (N6 W)
def LN(W:Wd):MS:=
  (BE (sIf (mB (m2 (eqD false) (m2 Ry (m2 QI (CB 2 (E3 W) (AO (AE 0) (AO (mC (.int 0)) BO))) (mC (.int 42))) (mC (.int 2))) (mC (.int 0)))) (CS (Eh (mN bm (Tz (AE 1))))) sNx)
  (CS (Eh (EL 1 (Yp (AE 1)) (tgN 0) G4 (Jy (AO (m2 ixA (AE 0) (mC (.int 1))) (AO (m2 ixA (AE 0) (mC (.int 0))) BO)))))))
def LD(W:Wd):List D->Sto->Res D:=D9 2 (LN W)
def N7(W:Wd):MS:=
  (BE (CN 2 (Eh (GJ BO)))
  (BE (FJ (EE (AE 0)) (tgN 3)
  (sIf (mB (m2 (inA false) (AE 1) (AE 3))) (Ir (PF (AE 2) (m2 TH (m2 Iw (m2 ixA (AE 3) (mC (.int 0))) (m2 ixA (AE 3) (mC (.int 1)))) (AE 1)))) sNx))
  (CS (Ge (AE 2)))))
def Nv(W:Wd):List D->Sto->Res D:=D9 4 (N7 W)
def N8(W:Wd):MS:=
  (BE (sIf (mOr (OX (mB (mIs (isB "tuple") (λ_=>none) (AE 4)))) (mOr (mB (m2 (eqD true) (Lg (AE 4)) (Lg (AE 1)))) (mB (m2 (inA true) (AE 2) (AE 4))))) (CS (mC (.bl false))) sNx)
  (BE (CN 5 (mC (.int 0)))
  (BE (FJ (iR1 (AO (Lg (AE 4)) BO)) (tgN 6)
  (BE (sIf (mB (m2 (inA false) (m2 ixA (AE 4) (AE 6)) (P2 (AE 4) Vk (Ts (AE 6))))) (CS (mC (.bl false))) sNx)
  (sIf (mB (m2 (eqD true) (m2 ixA (AE 4) (AE 6)) (m2 ixA (AE 1) (AE 6)))) (BE (CN 5 (m2 Iw (AE 5) (mC (.int 1))))
  (sIf (mB (m2 (inA true) (m2 ixA (AE 4) (AE 6)) (CB 2 (Nv W) (AO (AE 0) (AO (m2 ixA (AE 1) (AE 6)) BO))))) (CS (mC (.bl false))) sNx)) sNx)))
  (CS (dY (m2 (eqD false) (AE 3) (mC (.str "all"))) (m2 (eqD false) (AE 5) (mC (.int 1))))))))
def Nx(W:Wd):List D->Sto->Res D:=D9 7 (N8 W)
def LO(W:Wd):MS:=
  (BE (FJ (EE (AE 0)) (tgN 2)
  (sIf (mB (m2 (eqD false) (m2 ixA (AE 2) (mC (.int 0))) (AE 1))) (CS (m2 ixA (AE 2) (mC (.int 1)))) sNx))
  (CS (mC .non)))
def LF(W:Wd):List D->Sto->Res D:=D9 3 (LO W)
def LL(W:Wd):MS:=
  (BE (CN 5 Nj)
  (BE (FJ (EE (AE 2)) (Jk 2 (Df (tgN 6) (Df (tgN 7) KY)))
  (Cm (AE 5) (AE 6) (AE 7)))
  (BE (CN 6 (m2 ixA (m2 ixA (AE 2) (m2 Ry (iM (AE 4)) (Lg (AE 2)))) (mC (.int 0))))
  (BE (FJ (EE (AE 4)) (tgN 8)
  (BE (CN 9 (Eh (EL 1 (iR1 (AO (AE 1) BO)) (tgN 0) (mB (m2 (inA true) (AE 0) (AE 7))) (AE 0))))
  (sIf (mB (m2 (eqD true) (AE 9) (Eh (GJ BO)))) (BE (CN 10 (m2 ixA (AE 9) (m2 Ry (AE 8) (Lg (AE 9)))))
  (BE (CN 11 (CB 2 (LF W) (AO (m2 ixA (AE 5) (AE 6)) (AO (AE 10) BO))))
  (BE (sIf (mOr (mB (m2 (UH false) (AE 11) (mC .non))) (OX (FX (CB 5 (Nx W) (AO (AE 0) (AO (AE 6) (AO (AE 10) (AO (AE 3) (AO (AE 11) BO))))))))) (CS (mC (.bl false))) sNx)
  (BE (CN 6 (Gk (Ge (AE 11))))
  (sIf (mB (m2 (inA true) (AE 6) (AE 5))) (CS (mC (.bl false))) sNx))))) sNx)))
  (CS (mC (.bl true)))))))
def Il(W:Wd):List D->Sto->Res D:=D9 12 (LL W)
def je(W:Wd):MS:=
  (BE (CN 1 (CB 2 (E3 W) (AO (AE 0) (AO (mC (.int 0)) BO))))
  (BE (CN 2 (m2 Iw (m2 Iw (mC (.int 2)) (m2 Ry (AE 1) (mC (.int 5)))) (mf (m2 (eqD false) (m2 Ry (m2 QI (AE 1) (mC (.int 84))) (mC (.int 8))) (mC (.int 1))))))
  (BE (CN 3 (CB 3 (Nu W) (AO (AE 0) (AO (mC (.int 2)) (AO (AE 2) BO)))))
  (BE (CN 4 (RT W.Web 3 (Mj W) (AO (AE 2) (AO (CB 2 (LD W) (AO (AE 0) (AO (AE 3) BO))) BO))))
  (BE (CN 5 (m2 ixA (Eh (GJ (AO (mC (.str "one")) (AO (mC (.str "all")) BO)))) (m2 Ry (CB 2 (E3 W) (AO (AE 0) (AO (mC (.int 1)) BO))) (mC (.int 2)))))
  (BE (CN 6 (mC (.int 1)))
  (BE (IQ (P3 (mB (m2 ltD (AE 6) (AE 2))) (mB (m2 (UH false) (CB 3 (G3 W) (AO (AE 4) (AO (AE 6) (AO (AE 5) BO)))) (mC .non)))) (CN 6 (m2 Iw (AE 6) (mC (.int 1)))) wN)
  (BE (CN 7 (CB 3 (G3 W) (AO (AE 4) (AO (AE 6) (AO (AE 5) BO)))))
  (BE (sIf (mOr (OX (mB (mIs (isB "list") (λ_=>none) (AE 7)))) (mB (m2 (eqD false) (Lg (AE 7)) (mC (.int 0))))) (CS (mC (.bl false))) sNx)
  (BE (sIf (P3 (mB (m2 ltD (AE 6) (AE 2))) (mB (m2 (UH false) (CB 3 (G3 W) (AO (AE 4) (AO (m2 Iw (AE 6) (mC (.int 1))) (AO (AE 5) BO)))) (mC .non)))) (CS (mC (.bl false))) sNx)
  (BE (CN 8 (PD (AE 0) Vk (Ts (mC (.int 63)))))
  (BE (sIf (OX (FX (CB 5 (Il W) (AO (AE 3) (AO (AE 2) (AO (AE 7) (AO (AE 5) (AO (AE 8) BO)))))))) (CS (mC (.bl false))) sNx)
  (CS (CB 5 (Il W) (AO (AE 3) (AO (AE 2) (AO (AE 7) (AO (AE 5) (AO (Eh (EL 1 (Yp (AE 8)) (tgN 0) G4 (m2 Iw (m2 QI (AE 0) (mC (.int 7))) (mC (.int 1))))) BO)))))))))))))))))))
def b7(W:Wd):List D->Sto->Res D:=D9 9 (je W)
structure Txt(K:AG)(mg:Str->Option AI)(W:Wd) where
 d_checked_ties:Dfn K mg "checked_ties" "checked_ties" Jq ["places", "ties"]
 d_near_sets_of:Dfn K mg "near_sets_of" "near_sets_of" Jn ["places", "ties"]
 d_Web_init:Mtd K "__init__" "Web.__init__" O4 ["self", "places", "ties"]
 d_refuse_no_place:Dfn K mg "refuse_no_place" "refuse_no_place" HX ["web", "place"]
 d_near:Dfn K mg "near" "near" Zv ["web", "place"]
 d_takes_of:Dfn K mg "takes_of" "takes_of" O2 ["web"]
 d_bits_of:Dfn K mg "bits_of" "bits_of" Qq ["some"]
 d_members:Dfn K mg "members" "members" Qp ["bits"]
 d_settle:Dfn K mg "settle" "settle" TZ ["takes", "bits", "holders", "guard", "seen"]
 d_fits:Dfn K mg "fits" "fits" Zw ["takes", "guards", "bits"]
 d_first_step:Dfn K mg "first_step" "first_step" MF ["takes", "guard", "rest", "wanted"]
 d_first_into:Dfn K mg "first_into" "first_into" MH ["takes", "guards", "wanted"]
 d_with_step:Dfn K mg "with_step" "with_step" NR ["standing", "guard", "place"]
 d_sets_of:Dfn K mg "sets_of" "sets_of" Qo ["places", "size"]
 d_ways_to_choose:Dfn K mg "ways_to_choose" "ways_to_choose" IP ["places", "size"]
 d_how_many:Dfn K mg "how_many" "how_many" O3 ["web", "guards"]
 d_standings:Dfn K mg "standings" "standings" NS ["web", "guards"]
 d_Field_linked_by_one:Mtd K "linked_by_one" "Field.linked_by_one" FU ["self", "number"]
 d_Field_linked_by_all:Mtd K "linked_by_all" "Field.linked_by_all" FV ["self", "number"]
 d_Field_init:Mtd K "__init__" "Field.__init__" MK ["self", "web", "guards", "kind"]
 d_Field_calls:Mtd K "calls" "Field.calls" K5 ["self", "number"]
 d_Field_linked:Mtd K "linked" "Field.linked" Js ["self", "number"]
 d_Field_behind:Mtd K "behind" "Field.behind" Jt ["self", "number", "call"]
 d_Field_first_answer:Mtd K "first_answer" "Field.first_answer" GB ["self", "number", "call", "wanted"]
 d_falling_now:Dfn K mg "falling_now" "falling_now" Kx ["field", "left"]
 d_fallen:Dfn K mg "fallen" "fallen" Tb ["field"]
 d_lasting_bits:Dfn K mg "lasting_bits" "lasting_bits" Jo ["field", "gone"]
 d_guide_answer:Dfn K mg "guide_answer" "guide_answer" Jp ["field", "number", "call", "kept"]
 d_guide_rows:Dfn K mg "guide_rows" "guide_rows" MD ["field", "number", "kept"]
 d_guide_paper:Dfn K mg "guide_paper" "guide_paper" Kw ["web", "guards", "kind"]
 d__law_cell_at:Dfn K mg "_law_cell_at" "_law_cell_at" Jr ["script", "k"]
 d__law_pairs:Dfn K mg "_law_pairs" "_law_pairs" MJ ["places"]
 d__law_first_ties:Dfn K mg "_law_first_ties" "_law_first_ties" HY ["places", "style"]
 d__law_ties:Dfn K mg "_law_ties" "_law_ties" NT ["script", "first", "places"]
 d__law_handed:Dfn K mg "_law_handed" "_law_handed" Kz ["script", "ties"]
 d__law_near:Dfn K mg "_law_near" "_law_near" NU ["ties", "place"]
 d__law_goes:Dfn K mg "_law_goes" "_law_goes" NV ["ties", "standing", "call", "kind", "told"]
 d__law_answer:Dfn K mg "_law_answer" "_law_answer" K0 ["rows", "call"]
 d__law_played:Dfn K mg "_law_played" "_law_played" Ky ["ties", "places", "paper", "kind", "cells"]
 d_law:Dfn K mg "law" "law" bO ["script"]
 c_Web:Own K mg "Web" W.Web d_Web_init.f
 n_Web_places:Fb K W.Web "places"
 n_Web_ties:Fb K W.Web "ties"
 n_Web_near_sets:Fb K W.Web "near_sets"
 c_Field:Own K mg "Field" W.Field d_Field_init.f
 n_Field_everything:Fb K W.Field "everything"
 n_Field_kind:Fb K W.Field "kind"
 n_Field_takes:Fb K W.Field "takes"
 n_Field_numbers:Fb K W.Field "numbers"
 n_Field_having:Fb K W.Field "having"
 n_Field_place_bits:Fb K W.Field "place_bits"
 n_Field_known:Fb K W.Field "known"
 m_Field_linked_by_one:VQ K W.Field "linked_by_one" d_Field_linked_by_one.f
 m_Field_linked_by_all:VQ K W.Field "linked_by_all" d_Field_linked_by_all.f
 m_Field_calls:VQ K W.Field "calls" d_Field_calls.f
 m_Field_linked:VQ K W.Field "linked" d_Field_linked.f
 m_Field_behind:VQ K W.Field "behind" d_Field_behind.f
 m_Field_first_answer:VQ K W.Field "first_answer" d_Field_first_answer.f
 b_enumerate:mg "enumerate" = none
 b_int:mg "int" = none
 b_isinstance:mg "isinstance" = none
 b_len:mg "len" = none
 b_list:mg "list" = none
 b_max:mg "max" = none
 b_min:mg "min" = none
 b_range:mg "range" = none
 b_reversed:mg "reversed" = none
 b_sorted:mg "sorted" = none
 b_sum:mg "sum" = none
 b_tuple:mg "tuple" = none
 g_MOST_PLACES:∃tk,mg "MOST_PLACES" = some (.int 60 tk)
 g_MOST_STANDINGS:∃tk,mg "MOST_STANDINGS" = some (.int 400 tk)
section
variable{P:Bh}{w:CH}{K:AG}{mg:Str->Option AI}{base:C9}{W:Wd}
theorem Ro:BZ ["places", "ties", "found", "one", "other", "tie"] ["places", "ties"] (BB Jq):=E5
theorem Rw(T:Txt K mg W):Cq P w K mg base (CXG P w) 1 T.d_checked_ties.f T.d_checked_ties.fd ["places", "ties"] (spM K 2 (Ht W)):=by
 refine BR (k:=0) T.d_checked_ties.F Ro rfl λ_ _ _ _ _ _ hr hu nd=>?_
 exact(AQ (CK 2 nd QE)
  (AQ (DB (good_none rfl).own rfl (DG (AA (pv 1))) (PJ rfl (Ek (By 3 nd) (Ek (By 4 nd) Me)))
  (AQ (CK 5 nd (Hq (AJ (bw rfl rfl T.b_min (AJ (AA (pv 3)) (AJ (AA (pv 4)) An))) (AJ (nE rfl rfl T.b_max (AJ (AA (pv 3)) (AJ (AA (pv 4)) An))) An))))
  (AQ (DU (DX (JP hu) (Cf hu (AA (pv 5)) ge_int) (Cf hu (AA (pv 5)) ge_int) (DQ _)) (AX J2) Bp)
  (AQ (DU (XA (Yq (DX Ya (Cf hu (AA (pv 5)) ge_int) ge_int (DQ _)) (W9 (DX u0 (Cf hu (AA (pv 5)) ge_int) (AA (pv 0)) (DQ _))))) (AX J2) Bp)
  (AQ (DU (Yr hu (AA (pv 5)) (AA (pv 2))) (AX J2) Bp)
  (AX (HA (As (Bx (by decide:1<=64) _) hu) (AA (pv 2)) (AA (pv 5)) Iv rfl)))))))
  (AX (BX (G1 rfl T.b_tuple (Jf rfl rfl T.b_sorted (AA (pv 2))))))))
theorem Ri:BZ ["places", "ties", "rows", "one", "other"] ["places", "ties"] (BB Jn):=E5
theorem Rt(T:Txt K mg W):Cq P w K mg base (CXG P w) 1 T.d_near_sets_of.f T.d_near_sets_of.fd ["places", "ties"] (spM K 2 (Hs W)):=by
 refine BR (k:=0) T.d_near_sets_of.F Ri rfl λ_ _ _ _ _ _ hr hu nd=>?_
 exact(AQ (QA (i:=2) (own:=["place"]) (N':=["place", "·1", "·2", "·3", "·4", "·5"]) rfl rfl nd rfl (by first | exact PX rfl | exact OB rfl) (DY (by kernel_rfl)) (Ed rfl T.b_range (AJ (AA (pv 0)) An)) (λ_ _ _ _ _ _=>(By 0 (by decide +kernel:(["place", "·1", "·2", "·3", "·4", "·5"]:List Str).Nodup))) (λ_ _ _ _ _ _=>EN) (λ_ _ _ _ _ _=>(DH (JH An))))
  (AQ (DB (good_none rfl).own rfl (DG (AA (pv 1))) (PJ rfl (Ek (By 3 nd) (Ek (By 4 nd) Me)))
  (AQ (JZ (HH (Cf hu (AA (pv 2)) (AA (pv 3))) (AA (pv 4))))
  (AX (JZ (HH (Cf hu (AA (pv 2)) (AA (pv 4))) (AA (pv 3)))))))
  (AX (BX (G1 rfl T.b_tuple (DH (Ej (own:=["row"]) (N':=["row", "·1", "·2", "·3", "·4", "·5"]) rfl (DY (by kernel_rfl)) (DG (AA (pv 2))) (λ_ _ _ _ _ _=>(By 0 (by decide +kernel:(["row", "·1", "·2", "·3", "·4", "·5"]:List Str).Nodup))) (λ_ _ _ _ _ _=>EN) (λ_ _ _ _ _ _=>(G1 rfl T.b_tuple (Jf rfl rfl T.b_sorted (AA (pv 0))))))))))))
theorem YH:BZ ["self", "places", "ties"] ["self", "places", "ties"] (BB O4):=E5
theorem YY(T:Txt K mg W):Cq P w K mg base (CXG P w) 2 T.d_Web_init.f T.d_Web_init.fd ["self", "places", "ties"] (spM K 3 (Mj W)):=by
 refine BR (k:=1) T.d_Web_init.F YH rfl λ_ _ _ _ _ _ hr hu nd=>?_
 exact(AQ (DU (Md (UL Yb Yb ge_int (AA (pv 1)) (Yu rfl T.g_MOST_PLACES.choose_spec))) (AX J2) Bp)
  (AQ (K9 T.c_Web.cl T.n_Web_places (AA (pv 0)) (AA (pv 1)) rfl)
  (AQ (K9 T.c_Web.cl T.n_Web_ties (AA (pv 0)) (gcl T.d_checked_ties (Rw T) hr (AJ (AA (pv 1)) (AJ (AA (pv 2)) An))) rfl)
  (AX (K9 T.c_Web.cl T.n_Web_near_sets (AA (pv 0)) (gcl T.d_near_sets_of (Rt T) hr (AJ (AA (pv 1)) (AJ (Co T.c_Web.cl T.n_Web_ties (AA (pv 0)) rfl) An))) rfl)))))
theorem O0:BZ ["web", "place"] ["web", "place"] (BB HX):=E5
theorem O8(T:Txt K mg W):Cq P w K mg base (CXG P w) 1 T.d_refuse_no_place.f T.d_refuse_no_place.fd ["web", "place"] (spM K 2 (Hr W)):=by
 refine BR (k:=0) T.d_refuse_no_place.F O0 rfl λ_ _ _ _ _ _ hr hu nd=>?_
 exact(AX (DU (Md (UL Yb Ya ge_int (AA (pv 1)) (Co T.c_Web.cl T.n_Web_places (AA (pv 0)) rfl))) (AX J2) Bp))
theorem lR:BZ ["web", "place"] ["web", "place"] (BB Zv):=E5
theorem mV(T:Txt K mg W):Cq P w K mg base (CXG P w) 2 T.d_near.f T.d_near.fd ["web", "place"] (spM K 2 (aP W)):=by
 refine BR (k:=1) T.d_near.F lR rfl λ_ _ _ _ _ _ hr hu nd=>?_
 exact(AQ (JZ (gcl T.d_refuse_no_place (O8 T) hr (AJ (AA (pv 0)) (AJ (AA (pv 1)) An))))
  (AX (BX (Cf hu (Co T.c_Web.cl T.n_Web_near_sets (AA (pv 0)) rfl) (AA (pv 1))))))
theorem YF:BZ ["web"] ["web"] (BB O2):=E5
theorem YW(T:Txt K mg W):Cq P w K mg base (CXG P w) 3 T.d_takes_of.f T.d_takes_of.fd ["web"] (spM K 1 (Mf W)):=by
 refine BR (k:=2) T.d_takes_of.F YF rfl λ_ _ _ _ _ _ hr hu nd=>?_
 exact(AX (BX (DH (Ej (own:=["place"]) (N':=["place", "web"]) rfl (DY (by kernel_rfl)) (Ed rfl T.b_range (AJ (Co T.c_Web.cl T.n_Web_places (AA (pv 0)) rfl) An)) (λ_ _ _ _ _ _=>(By 0 (by decide +kernel:(["place", "web"]:List Str).Nodup))) (λ_ _ _ _ _ _=>EN) (λ_ _ _ _ _ _=>(G1 rfl T.b_tuple (Jf rfl rfl T.b_sorted (BV GH (Hq (AJ (AA (pv 0)) An)) (gcl T.d_near (mV T) hr (AJ (AA (pv 1)) (AJ (AA (pv 0)) An)))))))))))
theorem Zu:BZ ["some", "bits", "place"] ["some"] (BB Qq):=E5
theorem Z3(T:Txt K mg W):Cq P w K mg base (CXG P w) 1 T.d_bits_of.f T.d_bits_of.fd ["some"] (spM K 1 (Q5 W)):=by
 refine BR (k:=0) T.d_bits_of.F Zu rfl λ_ _ _ _ _ _ hr hu nd=>?_
 exact(AQ (CK 1 nd ge_int)
  (AQ (DB (good_none rfl).own rfl (DG (AA (pv 0))) (By 2 nd)
  (AX (Vr 1 nd br (BV Nd ge_int (AA (pv 2))))))
  (AX (BX (AA (pv 1))))))
theorem Zt:BZ ["bits", "told", "left"] ["bits"] (BB Qp):=E5
theorem MW(T:Txt K mg W):Cq P w K mg base (CXG P w) 1 T.d_members.f T.d_members.fd ["bits"] (spM K 1 (Jg W)):=by
 refine BR (k:=0) T.d_members.F Zt rfl λ_ _ _ _ _ _ hr hu nd=>?_
 exact(AQ (CK 1 nd (DH (JH An)))
  (AQ (CK 2 nd (AA (pv 0)))
  (AQ (UM wN (good_none rfl).own (EM (AA (pv 2))) (AQ (JZ (HH (AA (pv 1)) (BV MZ (nI (BV Ng (AA (pv 2)) (i3 (AA (pv 2))))) ge_int)))
  (AX (Vr 2 nd rj (BV MZ (AA (pv 2)) ge_int)))))
  (AX (BX (AA (pv 1)))))))
theorem dD:BZ ["takes", "bits", "holders", "guard", "seen", "wanted", "place"] ["takes", "bits", "holders", "guard", "seen"] (BB TZ):=E5
theorem Vj(T:Txt K mg W):∀n:Nat,Cq P w K mg base (CXG P w) (0+n) T.d_settle.f T.d_settle.fd ["takes", "bits", "holders", "guard", "seen"] (spM K 5 (G2 W n))
 | 0=>sO
 | n+1=>by
  refine BR (k:=0+n) T.d_settle.F dD rfl λ_ _ _ _ _ _ hr hu nd=>?_
  exact(AQ (QA (i:=5) (own:=["place"]) (N':=["place", "·1", "bits", "·3", "·4", "seen", "·6", "·7"]) rfl rfl nd rfl (by first | exact PX rfl | exact OB rfl) (DY (by kernel_rfl)) (DG (Cf hu (AA (pv 0)) (AA (pv 3)))) (λ_ _ _ _ _ _=>(By 0 (by decide +kernel:(["place", "·1", "bits", "·3", "·4", "seen", "·6", "·7"]:List Str).Nodup))) (λ_ _ _ _ _ _=>(J3 (XA (UK (EM (BV Ng (BV Z4 (AA (pv 2)) (AA (pv 0))) ge_int)) (P9 (GK hu (AA (pv 0)) (AA (pv 5)))))))) (λ_ _ _ _ _ _=>(AA (pv 0))))
  (AQ (DB (good_none rfl).own rfl (DG (AA (pv 5))) (By 6 nd)
  (AX (DU (GK hu (AA (pv 6)) (AA (pv 2))) (AQ (HA (As (Bx (by decide:1<=64) _) hu) (AA (pv 2)) (AA (pv 6)) (AA (pv 3)) rfl)
  (AX (BX Iv))) Bp)))
  (AQ (DB (good_none rfl).own rfl (DG (AA (pv 5))) (By 6 nd)
  (AX (DU (GK hu (AA (pv 6)) (AA (pv 4))) (AQ (HA (As (Bx (by decide:1<=64) _) hu) (AA (pv 4)) (AA (pv 6)) Iv rfl)
  (AX (DU (EM (XD (Vj T n) (good_none rfl).pass (hr.mono (AL _)) rfl T.d_settle.m T.d_settle.kp T.d_settle.b (AJ (AA (pv 0)) (AJ (AA (pv 1)) (AJ (AA (pv 2)) (AJ (Cf hu (AA (pv 2)) (AA (pv 6))) (AJ (AA (pv 4)) An))))))) (AQ (HA (As (Bx (by decide:1<=64) _) hu) (AA (pv 2)) (AA (pv 6)) (AA (pv 3)) rfl)
  (AX (BX Iv))) Bp))) Bp)))
  (AX (BX Iv)))))
theorem lS:BZ ["takes", "guards", "bits", "holders", "guard"] ["takes", "guards", "bits"] (BB Zw):=E5
theorem bX(T:Txt K mg W):Cq P w K mg base (CXG P w) 11 T.d_fits.f T.d_fits.fd ["takes", "guards", "bits"] (spM K 3 (UQ W)):=by
 refine BR (k:=10) T.d_fits.F lS rfl λ_ _ _ _ _ _ hr hu nd=>?_
 exact(AQ (CK 3 nd Np)
  (AQ (DB (good_none rfl).own rfl (DG (AA (pv 1))) (By 4 nd)
  (AX (DU (EM (BV Ng (BV Z4 (AA (pv 2)) (AA (pv 4))) ge_int)) (AX (HA (As (Bx (by decide:1<=64) _) hu) (AA (pv 3)) (AA (pv 4)) (AA (pv 4)) rfl)) Bp)))
  (AQ (DB (good_none rfl).own rfl (DG (AA (pv 1))) (By 4 nd)
  (AX (DU (XA (UK (Md (EM (BV Ng (BV Z4 (AA (pv 2)) (AA (pv 4))) ge_int))) (P9 (Md (EM (XD (Vj T 9) (good_none rfl).pass (hr.mono (by decide)) rfl T.d_settle.m T.d_settle.kp T.d_settle.b (AJ (AA (pv 0)) (AJ (AA (pv 2)) (AJ (AA (pv 3)) (AJ (AA (pv 4)) (AJ Np An))))))))))) (AX (BX Iv)) Bp)))
  (AX (BX Iv)))))
theorem Ux:BZ ["takes", "guard", "rest", "wanted", "place", "bit", "lefts", "number", "left"] ["takes", "guard", "rest", "wanted"] (BB MF):=E5
theorem U9(T:Txt K mg W):Cq P w K mg base (CXG P w) 12 T.d_first_step.f T.d_first_step.fd ["takes", "guard", "rest", "wanted"] (spM K 4 (Mh W)):=by
 refine BR (k:=11) T.d_first_step.F Ux rfl λ_ _ _ _ _ _ hr hu nd=>?_
 exact(AQ (DB (good_none rfl).own rfl (DG (Cf hu (AA (pv 0)) (AA (pv 1)))) (By 4 nd)
  (AQ (CK 5 nd (BV Nd ge_int (AA (pv 4))))
  (AQ (QA (i:=6) (own:=["left"]) (N':=["left", "·1", "·2", "·3", "·4", "·5", "bit", "·7", "·8", "·9"]) rfl rfl nd rfl (by first | exact PX rfl | exact OB rfl) (DY (by kernel_rfl)) (DG (AA (pv 3))) (λ_ _ _ _ _ _=>(By 0 (by decide +kernel:(["left", "·1", "·2", "·3", "·4", "·5", "bit", "·7", "·8", "·9"]:List Str).Nodup))) (λ_ _ _ _ _ _=>(J3 (EM (BV Ng (AA (pv 0)) (AA (pv 6)))))) (λ_ _ _ _ _ _=>(BV rF (AA (pv 0)) (AA (pv 6)))))
  (AX (DB (good_none rfl).own rfl (XB rfl T.b_enumerate (AA (pv 6))) (PJ rfl (Ek (By 7 nd) (Ek (By 8 nd) Me)))
  (AX (DU (EM (gcl T.d_fits (bX T) hr (AJ (AA (pv 0)) (AJ (AA (pv 2)) (AJ (AA (pv 8)) An))))) (AX (BX (Hq (AJ (AA (pv 4)) (AJ (Yt (AA (pv 6)) (SR (AA (pv 7))) SS) An))))) Bp)))))))
  (AX (BX No)))
theorem Uy:BZ ["takes", "guards", "wanted", "told", "lefts", "number", "guard", "step"] ["takes", "guards", "wanted"] (BB MH):=E5
theorem VC(T:Txt K mg W):Cq P w K mg base (CXG P w) 13 T.d_first_into.f T.d_first_into.fd ["takes", "guards", "wanted"] (spM K 3 (Mi W)):=by
 refine BR (k:=12) T.d_first_into.F Uy rfl λ_ _ _ _ _ _ hr hu nd=>?_
 exact(AQ (CK 3 nd (DH (JH An)))
  (AQ (CK 4 nd (AA (pv 2)))
  (AQ (DB (good_none rfl).own rfl (ir rfl T.b_enumerate (AA (pv 1))) (PJ rfl (Ek (By 5 nd) (Ek (By 6 nd) Me)))
  (AQ (CK 7 nd (gcl T.d_first_step (U9 T) hr (AJ (AA (pv 0)) (AJ (AA (pv 6)) (AJ (Vt (AA (pv 1)) (SR (AA (pv 5))) SS) (AJ (AA (pv 4)) An))))))
  (AQ (DU (DX Wz (AA (pv 7)) No (DQ _)) (AX (BX No)) Bp)
  (AQ (JZ (HH (AA (pv 3)) (Cf hu (AA (pv 7)) ge_int)))
  (AX (CK 4 nd (Cf hu (AA (pv 7)) ge_int)))))))
  (AX (BX (G1 rfl T.b_tuple (AA (pv 3))))))))
theorem Wg:BZ ["standing", "guard", "place"] ["standing", "guard", "place"] (BB NR):=E5
theorem Wu(T:Txt K mg W):Cq P w K mg base (CXG P w) 1 T.d_with_step.f T.d_with_step.fd ["standing", "guard", "place"] (spM K 3 (Nt W)):=by
 refine BR (k:=0) T.d_with_step.F Wg rfl λ_ _ _ _ _ _ hr hu nd=>?_
 exact(AX (BX (G1 rfl T.b_tuple (DH (Ej (own:=["other"]) (N':=["other", "·1", "guard", "place"]) rfl (DY (by kernel_rfl)) (DG (AA (pv 0))) (λ_ _ _ _ _ _=>(By 0 (by decide +kernel:(["other", "·1", "guard", "place"]:List Str).Nodup))) (λ_ _ _ _ _ _=>EN) (λ_ _ _ _ _ _=>(QD (DX (JP hu) (AA (pv 0)) (AA (pv 2)) (DQ _)) (AA (pv 3)) (AA (pv 0)))))))))
theorem Zs:BZ ["places", "size", "told", "step", "longer", "some", "least", "place"] ["places", "size"] (BB Qo):=E5
theorem Z2(T:Txt K mg W):Cq P w K mg base (CXG P w) 1 T.d_sets_of.f T.d_sets_of.fd ["places", "size"] (spM K 2 (Q4 W)):=by
 refine BR (k:=0) T.d_sets_of.F Zs rfl λ_ _ _ _ _ _ hr hu nd=>?_
 exact(AQ (CK 2 nd (DH (JH (AJ (Hq An) An))))
  (AQ (DB (good_none rfl).own rfl (Ed rfl T.b_range (AJ (AA (pv 1)) An)) (By 3 nd)
  (AQ (CK 4 nd (DH (JH An)))
  (AQ (DB (good_none rfl).own rfl (DG (AA (pv 2))) (By 5 nd)
  (AQ (CK 6 nd (QD (EM (AA (pv 5))) (BV GH (Cf hu (AA (pv 5)) (i3 ge_int)) ge_int) ge_int))
  (AX (DB (good_none rfl).own rfl (OQ rfl T.b_range (AJ (AA (pv 6)) (AJ (BV GH (BV GH (BV MZ (AA (pv 0)) (AA (pv 1))) (AA (pv 3))) ge_int) An))) (By 7 nd)
  (AX (JZ (HH (AA (pv 4)) (BV GH (AA (pv 5)) (Hq (AJ (AA (pv 7)) An))))))))))
  (AX (CK 2 nd (AA (pv 4)))))))
  (AX (BX (AA (pv 2))))))
theorem Pt:BZ ["places", "size", "ways", "step"] ["places", "size"] (BB IP):=E5
theorem P0(T:Txt K mg W):Cq P w K mg base (CXG P w) 1 T.d_ways_to_choose.f T.d_ways_to_choose.fd ["places", "size"] (spM K 2 (IV W)):=by
 refine BR (k:=0) T.d_ways_to_choose.F Pt rfl λ_ _ _ _ _ _ hr hu nd=>?_
 exact(AQ (CK 2 nd ge_int)
  (AQ (DB (good_none rfl).own rfl (Ed rfl T.b_range (AJ (AA (pv 1)) An)) (By 3 nd)
  (AX (CK 2 nd (BV P1 (BV rG (AA (pv 2)) (BV MZ (AA (pv 0)) (AA (pv 3)))) (BV GH (AA (pv 3)) ge_int)))))
  (AX (BX (AA (pv 2))))))
theorem YG:BZ ["web", "guards"] ["web", "guards"] (BB O3):=E5
theorem YX(T:Txt K mg W):Cq P w K mg base (CXG P w) 2 T.d_how_many.f T.d_how_many.fd ["web", "guards"] (spM K 2 (PK W)):=by
 refine BR (k:=1) T.d_how_many.F YG rfl λ_ _ _ _ _ _ hr hu nd=>?_
 exact(AQ (DU (Md (UL Yb Yb ge_int (AA (pv 1)) (Co T.c_Web.cl T.n_Web_places (AA (pv 0)) rfl))) (AX J2) Bp)
  (AX (BX (gcl T.d_ways_to_choose (P0 T) hr (AJ (Co T.c_Web.cl T.n_Web_places (AA (pv 0)) rfl) (AJ (AA (pv 1)) An))))))
theorem Wh:BZ ["web", "guards"] ["web", "guards"] (BB NS):=E5
theorem Wv(T:Txt K mg W):Cq P w K mg base (CXG P w) 3 T.d_standings.f T.d_standings.fd ["web", "guards"] (spM K 2 (Km W)):=by
 refine BR (k:=2) T.d_standings.F Wh rfl λ_ _ _ _ _ _ hr hu nd=>?_
 exact(AQ (DU (DX uz (gcl T.d_how_many (YX T) hr (AJ (AA (pv 0)) (AJ (AA (pv 1)) An))) (Yu rfl T.g_MOST_STANDINGS.choose_spec) (DQ _)) (AX J2) Bp)
  (AX (BX (gcl T.d_sets_of (Z2 T) hr (AJ (Co T.c_Web.cl T.n_Web_places (AA (pv 0)) rfl) (AJ (AA (pv 1)) An))))))
theorem MB:BZ ["self", "number", "standing", "told", "guard", "place"] ["self", "number"] (BB FU):=E5
theorem MX(T:Txt K mg W):Cq P w K mg base (CXG P w) 2 T.d_Field_linked_by_one.f T.d_Field_linked_by_one.fd ["self", "number"] (spM K 2 (Da W)):=by
 refine BR (k:=1) T.d_Field_linked_by_one.F MB rfl λ_ _ _ _ _ _ hr hu nd=>?_
 exact(AQ (CK 2 nd (Cf hu (Co T.c_Field.cl T.n_Field_everything (AA (pv 0)) rfl) (AA (pv 1))))
  (AQ (CK 3 nd ge_int)
  (AQ (DB (good_none rfl).own rfl (DG (AA (pv 2))) (By 4 nd)
  (AX (DB (good_none rfl).own rfl (DG (Cf hu (Co T.c_Field.cl T.n_Field_takes (AA (pv 0)) rfl) (AA (pv 4)))) (By 5 nd)
  (AX (DU (GK hu (AA (pv 5)) (AA (pv 2))) (AX (Vr 3 nd br (BV Nd ge_int (Cf hu (Co T.c_Field.cl T.n_Field_numbers (AA (pv 0)) rfl) (G1 rfl T.b_tuple (Jf rfl rfl T.b_sorted (gcl T.d_with_step (Wu T) hr (AJ (AA (pv 2)) (AJ (AA (pv 4)) (AJ (AA (pv 5)) An)))))))))) Bp)))))
  (AX (BX (AA (pv 3)))))))
theorem MC:BZ ["self", "number", "standing", "told", "other", "bits"] ["self", "number"] (BB FV):=E5
theorem MY(T:Txt K mg W):Cq P w K mg base (CXG P w) 12 T.d_Field_linked_by_all.f T.d_Field_linked_by_all.fd ["self", "number"] (spM K 2 (Db W)):=by
 refine BR (k:=11) T.d_Field_linked_by_all.F MC rfl λ_ _ _ _ _ _ hr hu nd=>?_
 exact(AQ (CK 2 nd (Cf hu (Co T.c_Field.cl T.n_Field_everything (AA (pv 0)) rfl) (AA (pv 1))))
  (AQ (CK 3 nd ge_int)
  (AQ (DB (good_none rfl).own rfl (XB rfl T.b_enumerate (Co T.c_Field.cl T.n_Field_place_bits (AA (pv 0)) rfl)) (PJ rfl (Ek (By 4 nd) (Ek (By 5 nd) Me)))
  (AX (DU (EM (gcl T.d_fits (bX T) hr (AJ (Co T.c_Field.cl T.n_Field_takes (AA (pv 0)) rfl) (AJ (AA (pv 2)) (AJ (AA (pv 5)) An))))) (AX (Vr 3 nd br (BV Nd ge_int (AA (pv 4))))) Bp)))
  (AX (BX (AA (pv 3)))))))
theorem U0:BZ ["self", "web", "guards", "kind", "number", "standing", "place"] ["self", "web", "guards", "kind"] (BB MK):=E5
theorem Tr(T:Txt K mg W):Cq P w K mg base (CXG P w) 13 T.d_Field_init.f T.d_Field_init.fd ["self", "web", "guards", "kind"] (spM K 4 (LG W)):=by
 refine BR (k:=12) T.d_Field_init.F U0 rfl λ_ _ _ _ _ _ hr hu nd=>?_
 exact(AQ (K9 T.c_Field.cl T.n_Field_everything (AA (pv 0)) (gcl T.d_standings (Wv T) hr (AJ (AA (pv 1)) (AJ (AA (pv 2)) An))) rfl)
  (AQ (K9 T.c_Field.cl T.n_Field_kind (AA (pv 0)) (AA (pv 3)) rfl)
  (AQ (K9 T.c_Field.cl T.n_Field_takes (AA (pv 0)) (gcl T.d_takes_of (YW T) hr (AJ (AA (pv 1)) An)) rfl)
  (AQ (K9 T.c_Field.cl T.n_Field_numbers (AA (pv 0)) QE rfl)
  (AQ (K9 T.c_Field.cl T.n_Field_having (AA (pv 0)) (DH (Ej (own:=["place"]) (N':=["place", "·1", "·2", "·3", "·4", "·5", "·6", "·7"]) rfl (DY (by kernel_rfl)) (Ed rfl T.b_range (AJ (Co T.c_Web.cl T.n_Web_places (AA (pv 1)) rfl) An)) (λ_ _ _ _ _ _=>(By 0 (by decide +kernel:(["place", "·1", "·2", "·3", "·4", "·5", "·6", "·7"]:List Str).Nodup))) (λ_ _ _ _ _ _=>EN) (λ_ _ _ _ _ _=>ge_int))) rfl)
  (AQ (DB (good_none rfl).own rfl (XB rfl T.b_enumerate (Co T.c_Field.cl T.n_Field_everything (AA (pv 0)) rfl)) (PJ rfl (Ek (By 4 nd) (Ek (By 5 nd) Me)))
  (AQ (HA (As (Bx (by decide:1<=64) _) hu) (Co T.c_Field.cl T.n_Field_numbers (AA (pv 0)) rfl) (AA (pv 5)) (AA (pv 4)) rfl)
  (AX (DB (good_none rfl).own rfl (DG (AA (pv 5))) (By 6 nd)
  (AX (m6 (Co T.c_Field.cl T.n_Field_having (AA (pv 0)) rfl) (AA (pv 6)) (BV Nd ge_int (AA (pv 4))) br))))))
  (AQ (K9 T.c_Field.cl T.n_Field_place_bits (AA (pv 0)) (DH (Ej (own:=["standing"]) (N':=["standing", "·1", "·2", "·3", "·4", "·5", "·6", "·7"]) rfl (DY (by kernel_rfl)) (DG (Co T.c_Field.cl T.n_Field_everything (AA (pv 0)) rfl)) (λ_ _ _ _ _ _=>(By 0 (by decide +kernel:(["standing", "·1", "·2", "·3", "·4", "·5", "·6", "·7"]:List Str).Nodup))) (λ_ _ _ _ _ _=>EN) (λ_ _ _ _ _ _=>(gcl T.d_bits_of (Z3 T) hr (AJ (AA (pv 0)) An))))) rfl)
  (AX (K9 T.c_Field.cl T.n_Field_known (AA (pv 0)) Np rfl)))))))))
theorem VD(T:Txt K mg W):Cq P w K mg base (CXG P w) 13 T.d_Field_init.f T.d_Field_init.fd ["self", "web", "guards", "kind"] (spM K 4 (Hw W)):=nL (Tr T)
theorem TY:BZ ["self", "number", "standing"] ["self", "number"] (BB K5):=E5
theorem Nc(T:Txt K mg W):Cq P w K mg base (CXG P w) 1 T.d_Field_calls.f T.d_Field_calls.fd ["self", "number"] (spM K 2 (Im W)):=by
 refine BR (k:=0) T.d_Field_calls.F TY rfl λ_ _ _ _ _ _ hr hu nd=>?_
 exact(AQ (CK 2 nd (Cf hu (Co T.c_Field.cl T.n_Field_everything (AA (pv 0)) rfl) (AA (pv 1))))
  (AX (BX (DH (Ej (own:=["place"]) (N':=["place", "·1", "·2", "standing"]) rfl (DY (by kernel_rfl)) (Ed rfl T.b_range (AJ (JI rfl T.b_len (Co T.c_Field.cl T.n_Field_takes (AA (pv 0)) rfl)) An)) (λ_ _ _ _ _ _=>(By 0 (by decide +kernel:(["place", "·1", "·2", "standing"]:List Str).Nodup))) (λ_ _ _ _ _ _=>(J3 (GK hu (AA (pv 0)) (AA (pv 3))))) (λ_ _ _ _ _ _=>(AA (pv 0))))))))
theorem Rq:BZ ["self", "number"] ["self", "number"] (BB Js):=E5
theorem Qv(T:Txt K mg W):Cq P w K mg base (CXG P w) 13 T.d_Field_linked.f T.d_Field_linked.fd ["self", "number"] (spM K 2 (JJ W)):=by
 refine BR (k:=12) T.d_Field_linked.F Rq rfl λ_ _ _ _ _ _ hr hu nd=>?_
 exact(AQ (DU (GK hu (AA (pv 1)) (Co T.c_Field.cl T.n_Field_known (AA (pv 0)) rfl)) (AX (HA (As (Bx (by decide:1<=64) _) hu) (Co T.c_Field.cl T.n_Field_known (AA (pv 0)) rfl) (AA (pv 1)) (QD (DX (JP hu) (Co T.c_Field.cl T.n_Field_kind (AA (pv 0)) rfl) UN (DQ _)) (Kl (AA (pv 0)) T.c_Field.cl T.m_Field_linked_by_one (MX T) (good_none rfl).pass (hr.mono (by decide)) T.d_Field_linked_by_one.b (AJ (AA (pv 1)) An)) (Kl (AA (pv 0)) T.c_Field.cl T.m_Field_linked_by_all (MY T) (good_none rfl).pass (hr.mono (by decide)) T.d_Field_linked_by_all.b (AJ (AA (pv 1)) An))) rfl)) Bp)
  (AX (BX (Cf hu (Co T.c_Field.cl T.n_Field_known (AA (pv 0)) rfl) (AA (pv 1))))))
theorem Rx(T:Txt K mg W):Cq P w K mg base (CXG P w) 13 T.d_Field_linked.f T.d_Field_linked.fd ["self", "number"] (spM K 2 (Hv W)):=sP (Qv T)
theorem Rr:BZ ["self", "number", "call"] ["self", "number", "call"] (BB Jt):=E5
theorem M1(T:Txt K mg W):Cq P w K mg base (CXG P w) 14 T.d_Field_behind.f T.d_Field_behind.fd ["self", "number", "call"] (spM K 3 (Hx W)):=by
 refine BR (k:=13) T.d_Field_behind.F Rr rfl λ_ _ _ _ _ _ hr hu nd=>?_
 exact(AX (BX (BV Ng (Kl (AA (pv 0)) T.c_Field.cl T.m_Field_linked (Rx T) (good_none rfl).pass (hr.mono (by decide)) T.d_Field_linked.b (AJ (AA (pv 1)) An)) (Cf hu (Co T.c_Field.cl T.n_Field_having (AA (pv 0)) rfl) (AA (pv 2))))))
theorem M3:BZ ["self", "number", "call", "wanted", "standing", "told", "other"] ["self", "number", "call", "wanted"] (BB GB):=E5
theorem M5(T:Txt K mg W):Cq P w K mg base (CXG P w) 14 T.d_Field_first_answer.f T.d_Field_first_answer.fd ["self", "number", "call", "wanted"] (spM K 4 (GM W)):=by
 refine BR (k:=13) T.d_Field_first_answer.F M3 rfl λ_ _ _ _ _ _ hr hu nd=>?_
 exact(AQ (CK 4 nd (Cf hu (Co T.c_Field.cl T.n_Field_everything (AA (pv 0)) rfl) (AA (pv 1))))
  (AQ (DU (DX (JP hu) (Co T.c_Field.cl T.n_Field_kind (AA (pv 0)) rfl) UN (DQ _)) (AX (BX (gcl T.d_first_into (VC T) hr (AJ (Co T.c_Field.cl T.n_Field_takes (AA (pv 0)) rfl) (AJ (AA (pv 4)) (AJ (DH (Ej (own:=["other"]) (N':=["other", "self", "·2", "·3", "·4", "·5", "·6", "·7"]) rfl (DY (by kernel_rfl)) (DG (gcl T.d_members (MW T) hr (AJ (AA (pv 3)) An))) (λ_ _ _ _ _ _=>(By 0 (by decide +kernel:(["other", "self", "·2", "·3", "·4", "·5", "·6", "·7"]:List Str).Nodup))) (λ_ _ _ _ _ _=>EN) (λ_ _ _ _ _ _=>(Cf hu (Co T.c_Field.cl T.n_Field_place_bits (AA (pv 1)) rfl) (AA (pv 0)))))) An)))))) Bp)
  (AQ (CK 5 nd (DH (JH An)))
  (AQ (DB (good_none rfl).own rfl (DG (gcl T.d_members (MW T) hr (AJ (AA (pv 3)) An))) (By 6 nd)
  (AX (JZ (HH (AA (pv 5)) (G1 rfl T.b_tuple (DH (Ej (own:=["guard"]) (N':=["guard", "self", "·2", "call", "·4", "·5", "·6", "other"]) rfl (DY (by kernel_rfl)) (DG (AA (pv 4))) (λ_ _ _ _ _ _=>(By 0 (by decide +kernel:(["guard", "self", "·2", "call", "·4", "·5", "·6", "other"]:List Str).Nodup))) (λ_ _ _ _ _ _=>EN) (λ_ _ _ _ _ _=>(QD (Yr hu (AA (pv 0)) (Cf hu (Co T.c_Field.cl T.n_Field_everything (AA (pv 1)) rfl) (AA (pv 7)))) (AA (pv 0)) (AA (pv 3)))))))))))
  (AX (BX (nD hu rfl rfl T.b_min (AA (pv 5)))))))))
theorem TU:BZ ["field", "left", "told", "number", "lost"] ["field", "left"] (BB Kx):=E5
theorem Na(T:Txt K mg W):Cq P w K mg base (CXG P w) 15 T.d_falling_now.f T.d_falling_now.fd ["field", "left"] (spM K 2 (Ik W)):=by
 refine BR (k:=14) T.d_falling_now.F TU rfl λ_ _ _ _ _ _ hr hu nd=>?_
 exact(AQ (CK 2 nd Np)
  (AQ (DB (good_none rfl).own rfl (DG (gcl T.d_members (MW T) hr (AJ (AA (pv 1)) An))) (By 3 nd)
  (AQ (QA (i:=4) (own:=["call"]) (N':=["call", "field", "left", "·3", "number", "·5"]) rfl rfl nd rfl (by first | exact PX rfl | exact OB rfl) (DY (by kernel_rfl)) (DG (Kl (AA (pv 0)) T.c_Field.cl T.m_Field_calls (Nc T) (good_none rfl).pass (hr.mono (by decide)) T.d_Field_calls.b (AJ (AA (pv 3)) An))) (λ_ _ _ _ _ _=>(By 0 (by decide +kernel:(["call", "field", "left", "·3", "number", "·5"]:List Str).Nodup))) (λ_ _ _ _ _ _=>(J3 (DX (JP hu) (BV Ng (Kl (AA (pv 1)) T.c_Field.cl T.m_Field_behind (M1 T) (good_none rfl).pass (hr.mono (by decide)) T.d_Field_behind.b (AJ (AA (pv 4)) (AJ (AA (pv 0)) An))) (AA (pv 2))) ge_int (DQ _)))) (λ_ _ _ _ _ _=>(AA (pv 0))))
  (AX (DU (EM (AA (pv 4))) (AX (HA (As (Bx (by decide:1<=64) _) hu) (AA (pv 2)) (AA (pv 3)) (Cf hu (AA (pv 4)) ge_int) rfl)) Bp))))
  (AX (BX (AA (pv 2))))))
theorem dE:BZ ["field", "told", "left", "stage", "falling", "number"] ["field"] (BB Tb):=E5
theorem dS(T:Txt K mg W):Cq P w K mg base (CXG P w) 16 T.d_fallen.f T.d_fallen.fd ["field"] (spM K 1 (UR W)):=by
 refine BR (k:=15) T.d_fallen.F dE rfl λ_ _ _ _ _ _ hr hu nd=>?_
 exact(AQ (CK 1 nd Np)
  (AQ (CK 2 nd (BV MZ (BV Nd ge_int (JI rfl T.b_len (Co T.c_Field.cl T.n_Field_everything (AA (pv 0)) rfl))) ge_int))
  (AQ (CK 3 nd ge_int)
  (AQ (CK 4 nd (gcl T.d_falling_now (Na T) hr (AJ (AA (pv 0)) (AJ (AA (pv 2)) An))))
  (AQ (UM wN (good_none rfl).own (EM (AA (pv 4))) (AQ (vS (i:=4) (DB (good_none rfl).own rfl (nA (AA (pv 4))) (By 5 nd)
  (AQ (HA (As (Bx (by decide:1<=64) _) hu) (AA (pv 1)) (AA (pv 5)) (Hq (AJ (AA (pv 3)) (AJ (Cf hu (AA (pv 4)) (AA (pv 5))) An))) rfl)
  (AX (Vr 2 nd rh (BV Nd ge_int (AA (pv 5))))))))
  (AQ (Vr 3 nd rk ge_int)
  (AX (CK 4 nd (gcl T.d_falling_now (Na T) hr (AJ (AA (pv 0)) (AJ (AA (pv 2)) An))))))))
  (AX (BX (AA (pv 1)))))))))
theorem Rj:BZ ["field", "gone"] ["field", "gone"] (BB Jo):=E5
theorem Ru(T:Txt K mg W):Cq P w K mg base (CXG P w) 1 T.d_lasting_bits.f T.d_lasting_bits.fd ["field", "gone"] (spM K 2 (J5 W)):=by
 refine BR (k:=0) T.d_lasting_bits.F Rj rfl λ_ _ _ _ _ _ hr hu nd=>?_
 exact(AX (BX (iy rfl rfl T.b_sum (DH (Ej (own:=["number"]) (N':=["number", "·1", "gone"]) rfl (DY (by kernel_rfl)) (Ed rfl T.b_range (AJ (JI rfl T.b_len (Co T.c_Field.cl T.n_Field_everything (AA (pv 0)) rfl)) An)) (λ_ _ _ _ _ _=>(By 0 (by decide +kernel:(["number", "·1", "gone"]:List Str).Nodup))) (λ_ _ _ _ _ _=>(J3 (GK hu (AA (pv 0)) (AA (pv 2))))) (λ_ _ _ _ _ _=>(BV Nd ge_int (AA (pv 0)))))))))
theorem Rn:BZ ["field", "number", "call", "kept"] ["field", "number", "call", "kept"] (BB Jp):=E5
theorem Rv(T:Txt K mg W):Cq P w K mg base (CXG P w) 15 T.d_guide_answer.f T.d_guide_answer.fd ["field", "number", "call", "kept"] (spM K 4 (J6 W)):=by
 refine BR (k:=14) T.d_guide_answer.F Rn rfl λ_ _ _ _ _ _ hr hu nd=>?_
 exact(AX (BX (Kl (AA (pv 0)) T.c_Field.cl T.m_Field_first_answer (M5 T) (good_none rfl).pass (hr.mono (by decide)) T.d_Field_first_answer.b (AJ (AA (pv 1)) (AJ (AA (pv 2)) (AJ (BV Ng (Kl (AA (pv 0)) T.c_Field.cl T.m_Field_behind (M1 T) (good_none rfl).pass (hr.mono (by decide)) T.d_Field_behind.b (AJ (AA (pv 1)) (AJ (AA (pv 2)) An))) (AA (pv 3))) An))))))
theorem Uw:BZ ["field", "number", "kept"] ["field", "number", "kept"] (BB MD):=E5
theorem U6(T:Txt K mg W):Cq P w K mg base (CXG P w) 16 T.d_guide_rows.f T.d_guide_rows.fd ["field", "number", "kept"] (spM K 3 (Mg W)):=by
 refine BR (k:=15) T.d_guide_rows.F Uw rfl λ_ _ _ _ _ _ hr hu nd=>?_
 exact(AX (BX (G1 rfl T.b_tuple (DH (Ej (own:=["call"]) (N':=["call", "field", "number", "kept"]) rfl (DY (by kernel_rfl)) (DG (Kl (AA (pv 0)) T.c_Field.cl T.m_Field_calls (Nc T) (good_none rfl).pass (hr.mono (by decide)) T.d_Field_calls.b (AJ (AA (pv 1)) An))) (λ_ _ _ _ _ _=>(By 0 (by decide +kernel:(["call", "field", "number", "kept"]:List Str).Nodup))) (λ_ _ _ _ _ _=>EN) (λ_ _ _ _ _ _=>(Hq (AJ (AA (pv 0)) (AJ (gcl T.d_guide_answer (Rv T) hr (AJ (AA (pv 1)) (AJ (AA (pv 2)) (AJ (AA (pv 0)) (AJ (AA (pv 3)) An))))) An)))))))))
theorem TR:BZ ["web", "guards", "kind", "field", "kept"] ["web", "guards", "kind"] (BB Kw):=E5
theorem Jx(T:Txt K mg W):Cq P w K mg base (CXG P w) 17 T.d_guide_paper.f T.d_guide_paper.fd ["web", "guards", "kind"] (spM K 3 (G3 W)):=by
 refine BR (k:=16) T.d_guide_paper.F TR rfl λ_ _ _ _ _ _ hr hu nd=>?_
 exact(AQ (CK 3 nd (bz T.c_Field.mk' (VD T) (good_none rfl).pass (hr.mono (by decide)) rfl T.c_Field.m T.d_Field_init.b (AJ (AA (pv 0)) (AJ (AA (pv 1)) (AJ (AA (pv 2)) An)))))
  (AQ (CK 4 nd (gcl T.d_lasting_bits (Ru T) hr (AJ (AA (pv 3)) (AJ (gcl T.d_fallen (dS T) hr (AJ (AA (pv 3)) An)) An))))
  (AQ (DU (DX (JP hu) (AA (pv 4)) ge_int (DQ _)) (AX (BX No)) Bp)
  (AX (BX (DH (Ej (own:=["number"]) (N':=["number", "·1", "·2", "·3", "field", "kept"]) rfl (DY (by kernel_rfl)) (DG (gcl T.d_members (MW T) hr (AJ (AA (pv 4)) An))) (λ_ _ _ _ _ _=>(By 0 (by decide +kernel:(["number", "·1", "·2", "·3", "field", "kept"]:List Str).Nodup))) (λ_ _ _ _ _ _=>EN) (λ_ _ _ _ _ _=>(Hq (AJ (Cf hu (Co T.c_Field.cl T.n_Field_everything (AA (pv 4)) rfl) (AA (pv 0))) (AJ (gcl T.d_guide_rows (U6 T) hr (AJ (AA (pv 4)) (AJ (AA (pv 0)) (AJ (AA (pv 5)) An)))) An)))))))))))
theorem Rp:BZ ["script", "k"] ["script", "k"] (BB Jr):=E5
theorem G9(T:Txt K mg W):Cq P w K mg base (CXG P w) 1 T.d__law_cell_at.f T.d__law_cell_at.fd ["script", "k"] (spM K 2 (E3 W)):=by
 refine BR (k:=0) T.d__law_cell_at.F Rp rfl λ_ _ _ _ _ _ hr hu nd=>?_
 exact(AQ (DU (DX Ya (AA (pv 1)) (JI rfl T.b_len (AA (pv 0))) (DQ _)) (AX (BX (Cf hu (AA (pv 0)) (AA (pv 1))))) Bp)
  (AX (BX ge_int)))
theorem Uz:BZ ["places", "found", "one", "other"] ["places"] (BB MJ):=E5
theorem Ol(T:Txt K mg W):Cq P w K mg base (CXG P w) 1 T.d__law_pairs.f T.d__law_pairs.fd ["places"] (spM K 1 (Ja W)):=by
 refine BR (k:=0) T.d__law_pairs.F Uz rfl λ_ _ _ _ _ _ hr hu nd=>?_
 exact(AQ (CK 1 nd (DH (JH An)))
  (AQ (DB (good_none rfl).own rfl (Ed rfl T.b_range (AJ (AA (pv 0)) An)) (By 2 nd)
  (AX (DB (good_none rfl).own rfl (OQ rfl T.b_range (AJ (BV GH (AA (pv 2)) ge_int) (AJ (AA (pv 0)) An))) (By 3 nd)
  (AX (JZ (HH (AA (pv 1)) (Hq (AJ (AA (pv 2)) (AJ (AA (pv 3)) An)))))))))
  (AX (BX (AA (pv 1))))))
theorem O1:BZ ["places", "style"] ["places", "style"] (BB HY):=E5
theorem O9(T:Txt K mg W):Cq P w K mg base (CXG P w) 2 T.d__law_first_ties.f T.d__law_first_ties.fd ["places", "style"] (spM K 2 (Hu W)):=by
 refine BR (k:=1) T.d__law_first_ties.F O1 rfl λ_ _ _ _ _ _ hr hu nd=>?_
 exact(AQ (DU (DX (JP hu) (AA (pv 1)) ge_int (DQ _)) (AX (BX (DH (Ej (own:=["k"]) (N':=["k", "·1", "·2"]) rfl (DY (by kernel_rfl)) (Ed rfl T.b_range (AJ (BV MZ (AA (pv 0)) ge_int) An)) (λ_ _ _ _ _ _=>(By 0 (by decide +kernel:(["k", "·1", "·2"]:List Str).Nodup))) (λ_ _ _ _ _ _=>EN) (λ_ _ _ _ _ _=>(Hq (AJ (AA (pv 0)) (AJ (BV GH (AA (pv 0)) ge_int) An)))))))) Bp)
  (AQ (DU (DX (JP hu) (AA (pv 1)) ge_int (DQ _)) (AX (BX (BV GH (DH (Ej (own:=["k"]) (N':=["k", "·1", "·2"]) rfl (DY (by kernel_rfl)) (Ed rfl T.b_range (AJ (BV MZ (AA (pv 0)) ge_int) An)) (λ_ _ _ _ _ _=>(By 0 (by decide +kernel:(["k", "·1", "·2"]:List Str).Nodup))) (λ_ _ _ _ _ _=>EN) (λ_ _ _ _ _ _=>(Hq (AJ (AA (pv 0)) (AJ (BV GH (AA (pv 0)) ge_int) An)))))) (DH (JH (AJ (Hq (AJ ge_int (AJ (BV MZ (AA (pv 0)) ge_int) An))) An)))))) Bp)
  (AQ (DU (DX (JP hu) (AA (pv 1)) ge_int (DQ _)) (AX (BX (gcl T.d__law_pairs (Ol T) hr (AJ (AA (pv 0)) An)))) Bp)
  (AQ (DU (DX (JP hu) (AA (pv 1)) ge_int (DQ _)) (AX (BX (DH (Ej (own:=["k"]) (N':=["k", "·1", "·2"]) rfl (DY (by kernel_rfl)) (OQ rfl T.b_range (AJ ge_int (AJ (AA (pv 0)) An))) (λ_ _ _ _ _ _=>(By 0 (by decide +kernel:(["k", "·1", "·2"]:List Str).Nodup))) (λ_ _ _ _ _ _=>EN) (λ_ _ _ _ _ _=>(Hq (AJ ge_int (AJ (AA (pv 0)) An)))))))) Bp)
  (AX (BX (DH (JH An))))))))
theorem Wi:BZ ["script", "first", "places", "pairs", "there", "tie", "k"] ["script", "first", "places"] (BB NT):=E5
theorem Ww(T:Txt K mg W):Cq P w K mg base (CXG P w) 3 T.d__law_ties.f T.d__law_ties.fd ["script", "first", "places"] (spM K 3 (Nu W)):=by
 refine BR (k:=2) T.d__law_ties.F Wi rfl λ_ _ _ _ _ _ hr hu nd=>?_
 exact(AQ (CK 3 nd (gcl T.d__law_pairs (Ol T) hr (AJ (AA (pv 2)) An)))
  (AQ (CK 4 nd QE)
  (AQ (DB (good_none rfl).own rfl (DG (gcl T.d__law_first_ties (O9 T) hr (AJ (AA (pv 2)) (AJ (BV Nf (BV P1 (gcl T.d__law_cell_at (G9 T) hr (AJ (AA (pv 0)) (AJ ge_int An))) ge_int) ge_int) An)))) (By 5 nd)
  (AX (HA (As (Bx (by decide:1<=64) _) hu) (AA (pv 4)) (AA (pv 5)) Iv rfl)))
  (AQ (DB (good_none rfl).own rfl (OQ rfl T.b_range (AJ (AA (pv 1)) (AJ (bw rfl rfl T.b_min (AJ (JI rfl T.b_len (AA (pv 0))) (AJ ge_int An))) An))) (By 6 nd)
  (AQ (CK 5 nd (Cf hu (AA (pv 3)) (BV Nf (Cf hu (AA (pv 0)) (AA (pv 6))) (JI rfl T.b_len (AA (pv 3))))))
  (AX (HA (As (Bx (by decide:1<=64) _) hu) (AA (pv 4)) (AA (pv 5)) (L2.om (i0 hu (AA (pv 5)) (AA (pv 4))) (iz (sK (Cf hu (AA (pv 4)) (AA (pv 5)))))) rfl))))
  (AX (BX (DH (Ej (own:=["tie"]) (N':=["tie", "·1", "·2", "·3", "·4", "there", "·6", "·7"]) rfl (DY (by kernel_rfl)) (DG (AA (pv 3))) (λ_ _ _ _ _ _=>(By 0 (by decide +kernel:(["tie", "·1", "·2", "·3", "·4", "there", "·6", "·7"]:List Str).Nodup))) (λ_ _ _ _ _ _=>(J3 (XA (UK (Yr hu (AA (pv 0)) (AA (pv 5))) (P9 (EM (Cf hu (AA (pv 5)) (AA (pv 0))))))))) (λ_ _ _ _ _ _=>(AA (pv 0)))))))))))
theorem TW:BZ ["script", "ties"] ["script", "ties"] (BB Kz):=E5
theorem To(T:Txt K mg W):Cq P w K mg base (CXG P w) 2 T.d__law_handed.f T.d__law_handed.fd ["script", "ties"] (spM K 2 (LD W)):=by
 refine BR (k:=1) T.d__law_handed.F TW rfl λ_ _ _ _ _ _ hr hu nd=>?_
 exact(AQ (DU (DX (JP hu) (BV Nf (BV P1 (gcl T.d__law_cell_at (G9 T) hr (AJ (AA (pv 0)) (AJ ge_int An))) ge_int) ge_int) ge_int (DQ _)) (AX (BX (nF rfl T.b_list (AA (pv 1))))) Bp)
  (AX (BX (DH (Ej (own:=["tie"]) (N':=["tie", "·1", "·2"]) rfl (DY (by kernel_rfl)) (iq rfl T.b_reversed (AA (pv 1))) (λ_ _ _ _ _ _=>(By 0 (by decide +kernel:(["tie", "·1", "·2"]:List Str).Nodup))) (λ_ _ _ _ _ _=>EN) (λ_ _ _ _ _ _=>(Hq (AJ (Cf hu (AA (pv 0)) ge_int) (AJ (Cf hu (AA (pv 0)) ge_int) An)))))))))
theorem Wj:BZ ["ties", "place", "found", "tie"] ["ties", "place"] (BB NU):=E5
theorem Wx(T:Txt K mg W):Cq P w K mg base (CXG P w) 1 T.d__law_near.f T.d__law_near.fd ["ties", "place"] (spM K 2 (Nv W)):=by
 refine BR (k:=0) T.d__law_near.F Wj rfl λ_ _ _ _ _ _ hr hu nd=>?_
 exact(AQ (CK 2 nd (DH (JH An)))
  (AQ (DB (good_none rfl).own rfl (DG (AA (pv 0))) (By 3 nd)
  (AX (DU (Yr hu (AA (pv 1)) (AA (pv 3))) (AX (JZ (HH (AA (pv 2)) (BV MZ (BV GH (Cf hu (AA (pv 3)) ge_int) (Cf hu (AA (pv 3)) ge_int)) (AA (pv 1)))))) Bp)))
  (AX (BX (Jf rfl rfl T.b_sorted (AA (pv 2)))))))
theorem Wl:BZ ["ties", "standing", "call", "kind", "told", "gone", "k"] ["ties", "standing", "call", "kind", "told"] (BB NV):=E5
theorem Wy(T:Txt K mg W):Cq P w K mg base (CXG P w) 2 T.d__law_goes.f T.d__law_goes.fd ["ties", "standing", "call", "kind", "told"] (spM K 5 (Nx W)):=by
 refine BR (k:=1) T.d__law_goes.F Wl rfl λ_ _ _ _ _ _ hr hu nd=>?_
 exact(AQ (DU (XA (Yq (Md (im (i4 (c:=.ty "tuple") (cv:=.type "tuple") (λ_ r=>r) dh rfl T.b_isinstance (AA (pv 4)) (bV rfl T.b_tuple Rf rfl)))) (Yq (DX (iC hu) (JI rfl T.b_len (AA (pv 4))) (JI rfl T.b_len (AA (pv 1))) (DQ _)) (W9 (GK hu (AA (pv 2)) (AA (pv 4))))))) (AX (BX Iv)) Bp)
  (AQ (CK 5 nd ge_int)
  (AQ (DB (good_none rfl).own rfl (Ed rfl T.b_range (AJ (JI rfl T.b_len (AA (pv 4))) An)) (By 6 nd)
  (AQ (DU (Yr hu (Cf hu (AA (pv 4)) (AA (pv 6))) (Vt (AA (pv 4)) SS (SR (AA (pv 6))))) (AX (BX Iv)) Bp)
  (AX (DU (DX (iC hu) (Cf hu (AA (pv 4)) (AA (pv 6))) (Cf hu (AA (pv 1)) (AA (pv 6))) (DQ _)) (AQ (CK 5 nd (BV GH (AA (pv 5)) ge_int))
  (AX (DU (GK hu (Cf hu (AA (pv 4)) (AA (pv 6))) (gcl T.d__law_near (Wx T) hr (AJ (AA (pv 0)) (AJ (Cf hu (AA (pv 1)) (AA (pv 6))) An)))) (AX (BX Iv)) Bp))) Bp))))
  (AX (BX (L2.om (XC (JP hu) (AA (pv 3)) UN (DQ _)) (iz (XC (JP hu) (AA (pv 5)) ge_int (DQ _)))))))))
theorem TX:BZ ["rows", "call", "row"] ["rows", "call"] (BB K0):=E5
theorem Tp(T:Txt K mg W):Cq P w K mg base (CXG P w) 1 T.d__law_answer.f T.d__law_answer.fd ["rows", "call"] (spM K 2 (LF W)):=by
 refine BR (k:=0) T.d__law_answer.F TX rfl λ_ _ _ _ _ _ hr hu nd=>?_
 exact(AQ (DB (good_none rfl).own rfl (DG (AA (pv 0))) (By 2 nd)
  (AX (DU (DX (JP hu) (Cf hu (AA (pv 2)) ge_int) (AA (pv 1)) (DQ _)) (AX (BX (Cf hu (AA (pv 2)) ge_int))) Bp)))
  (AX (BX No)))
theorem TV:BZ ["ties", "places", "paper", "kind", "cells", "listed", "standing", "rows", "cell", "free", "call", "told"] ["ties", "places", "paper", "kind", "cells"] (BB Ky):=E5
theorem Nb(T:Txt K mg W):Cq P w K mg base (CXG P w) 3 T.d__law_played.f T.d__law_played.fd ["ties", "places", "paper", "kind", "cells"] (spM K 5 (Il W)):=by
 refine BR (k:=2) T.d__law_played.F TV rfl λ_ _ _ _ _ _ hr hu nd=>?_
 exact(AQ (CK 5 nd QE)
  (AQ (DB (good_none rfl).own rfl (DG (AA (pv 2))) (PJ rfl (Ek (By 6 nd) (Ek (By 7 nd) Me)))
  (AX (HA (As (Bx (by decide:1<=64) _) hu) (AA (pv 5)) (AA (pv 6)) (AA (pv 7)) rfl)))
  (AQ (CK 6 nd (Cf hu (Cf hu (AA (pv 2)) (BV Nf (iy rfl rfl T.b_sum (AA (pv 4))) (JI rfl T.b_len (AA (pv 2))))) ge_int))
  (AQ (DB (good_none rfl).own rfl (DG (AA (pv 4))) (By 8 nd)
  (AQ (QA (i:=9) (own:=["place"]) (N':=["place", "·1", "·2", "·3", "·4", "·5", "·6", "standing", "·8", "·9", "·10", "·11", "·12"]) rfl rfl nd rfl (by first | exact PX rfl | exact OB rfl) (DY (by kernel_rfl)) (Ed rfl T.b_range (AJ (AA (pv 1)) An)) (λ_ _ _ _ _ _=>(By 0 (by decide +kernel:(["place", "·1", "·2", "·3", "·4", "·5", "·6", "standing", "·8", "·9", "·10", "·11", "·12"]:List Str).Nodup))) (λ_ _ _ _ _ _=>(J3 (GK hu (AA (pv 0)) (AA (pv 7))))) (λ_ _ _ _ _ _=>(AA (pv 0))))
  (AX (DU (DX (iC hu) (AA (pv 9)) (DH (JH An)) (DQ _)) (AQ (CK 10 nd (Cf hu (AA (pv 9)) (BV Nf (AA (pv 8)) (JI rfl T.b_len (AA (pv 9))))))
  (AQ (CK 11 nd (gcl T.d__law_answer (Tp T) hr (AJ (Cf hu (AA (pv 5)) (AA (pv 6))) (AJ (AA (pv 10)) An))))
  (AQ (DU (XA (Yq (DX Wz (AA (pv 11)) No (DQ _)) (W9 (Md (EM (gcl T.d__law_goes (Wy T) hr (AJ (AA (pv 0)) (AJ (AA (pv 6)) (AJ (AA (pv 10)) (AJ (AA (pv 3)) (AJ (AA (pv 11)) An))))))))))) (AX (BX Iv)) Bp)
  (AQ (CK 6 nd (G1 rfl T.b_tuple (Jf rfl rfl T.b_sorted (AA (pv 11)))))
  (AX (DU (GK hu (AA (pv 6)) (AA (pv 5))) (AX (BX Iv)) Bp)))))) Bp))))
  (AX (BX Iv))))))
theorem qM:BZ ["script", "head", "places", "ties", "web", "kind", "guards", "paper", "cells"] ["script"] (BB bO):=E5
theorem rE(T:Txt K mg W):Cq P w K mg base (CXG P w) 18 T.d_law.f T.d_law.fd ["script"] (spM K 1 (b7 W)):=by
 refine BR (k:=17) T.d_law.F qM rfl λ_ _ _ _ _ _ hr hu nd=>?_
 exact(AQ (CK 1 nd (gcl T.d__law_cell_at (G9 T) hr (AJ (AA (pv 0)) (AJ ge_int An))))
  (AQ (CK 2 nd (BV GH (BV GH ge_int (BV Nf (AA (pv 1)) ge_int)) (nG rfl T.b_int (XC (JP hu) (BV Nf (BV P1 (AA (pv 1)) ge_int) ge_int) ge_int (DQ _)))))
  (AQ (CK 3 nd (gcl T.d__law_ties (Ww T) hr (AJ (AA (pv 0)) (AJ ge_int (AJ (AA (pv 2)) An)))))
  (AQ (CK 4 nd (bz T.c_Web.mk' (YY T) (good_none rfl).pass (hr.mono (by decide)) rfl T.c_Web.m T.d_Web_init.b (AJ (AA (pv 2)) (AJ (gcl T.d__law_handed (To T) hr (AJ (AA (pv 0)) (AJ (AA (pv 3)) An))) An))))
  (AQ (CK 5 nd (Cf hu (DH (JH (AJ UN (AJ UN An)))) (BV Nf (gcl T.d__law_cell_at (G9 T) hr (AJ (AA (pv 0)) (AJ ge_int An))) ge_int)))
  (AQ (CK 6 nd ge_int)
  (AQ (UM wN (good_none rfl).own (XA (UK (DX Ya (AA (pv 6)) (AA (pv 2)) (DQ _)) (P9 (DX Wz (gcl T.d_guide_paper (Jx T) hr (AJ (AA (pv 4)) (AJ (AA (pv 6)) (AJ (AA (pv 5)) An)))) No (DQ _))))) (AX (CK 6 nd (BV GH (AA (pv 6)) ge_int))))
  (AQ (CK 7 nd (gcl T.d_guide_paper (Jx T) hr (AJ (AA (pv 4)) (AJ (AA (pv 6)) (AJ (AA (pv 5)) An)))))
  (AQ (DU (XA (Yq (Md (im (i4 (c:=.ty "list") (cv:=.type "list") (λ_ r=>r) ic rfl T.b_isinstance (AA (pv 7)) (bV rfl T.b_list SA rfl)))) (W9 (DX (JP hu) (JI rfl T.b_len (AA (pv 7))) ge_int (DQ _))))) (AX (BX Iv)) Bp)
  (AQ (DU (XA (UK (DX Ya (AA (pv 6)) (AA (pv 2)) (DQ _)) (P9 (DX Wz (gcl T.d_guide_paper (Jx T) hr (AJ (AA (pv 4)) (AJ (BV GH (AA (pv 6)) ge_int) (AJ (AA (pv 5)) An)))) No (DQ _))))) (AX (BX Iv)) Bp)
  (AQ (CK 8 nd (Yt (AA (pv 0)) SS (SR ge_int)))
  (AQ (DU (Md (EM (gcl T.d__law_played (Nb T) hr (AJ (AA (pv 3)) (AJ (AA (pv 2)) (AJ (AA (pv 7)) (AJ (AA (pv 5)) (AJ (AA (pv 8)) An)))))))) (AX (BX Iv)) Bp)
  (AX (BX (gcl T.d__law_played (Nb T) hr (AJ (AA (pv 3)) (AJ (AA (pv 2)) (AJ (AA (pv 7)) (AJ (AA (pv 5)) (AJ (DH (Ej (own:=["cell"]) (N':=["cell", "·1", "·2", "·3", "·4", "·5", "·6", "·7", "·8", "·9"]) rfl (DY (by kernel_rfl)) (iq rfl T.b_reversed (AA (pv 8))) (λ_ _ _ _ _ _=>(By 0 (by decide +kernel:(["cell", "·1", "·2", "·3", "·4", "·5", "·6", "·7", "·8", "·9"]:List Str).Nodup))) (λ_ _ _ _ _ _=>EN) (λ_ _ _ _ _ _=>(BV GH (BV P1 (AA (pv 0)) ge_int) ge_int)))) An))))))))))))))))))))
end
open PySem L2
open Srt (ltL)
def pairD(x:Int×Int):D:=.tup [.int x.1,.int x.2]
def nrm(x:Int×Int):Int×Int:=(if x.2 < x.1 then x.2 else x.1,if x.2 > x.1 then x.2 else x.1)
def Wm(x:Int×Int):List Int:=[x.1,x.2]
def P8(x:Int×Int):List Key:=[.inl x.1,.inl x.2]
theorem Yn(h:P8 x=P8 y):x=y:=by
 unfold P8 at h;simp at h;exact au h.1 h.2
theorem PH:∀ns:List Int,JQ (ns.map D.int)=some ns
 | []=>rfl
 | n :: ns=>by
  rw[BC];unfold JQ;rw[PH ns];rfl
theorem Tf:∀rs:List (List Int),(∀r∈rs,r≠[])->Vf (rs.map Rs)=some rs
 | [],_=>rfl
 | [] :: rs,h=>zX rfl (h [] AT)
 | (n :: ns) :: rs,h=>by
  rw[BC];unfold Rs Vf;rw[PH,show ay (λr:List Int=>D.tup (r.map D.int)) rs=rs.map Rs from rfl,Tf rs λr hr=>h r (AS _ hr)]
theorem Zp(rs:List (List Int))(h:∀r∈rs,r≠[])(hn:rs.length < 64):LZ (rs.map Rs)=some ((Ps rs).map Rs):=by
 unfold LZ;rw[qX (by rw[AF];exact hn)]
 cases rs with
 | nil=>simp[JQ,Ps]
 | cons r rs=>
  have:JQ ((r :: rs).map Rs)=none:=rfl;rw[this,Tf _ h]
theorem Zq(ns:List Int)(hn:ns.length < 64):LZ (ns.map D.int)=some ((CI ns).map D.int):=by
 unfold LZ;rw[qX (by rw[AF];exact hn)];rw[PH]
def Nh(ps:List (Int×Int)):List (List Key×D):=ps.map λx=>(P8 (nrm x),.bl true)
theorem iK(ps:List (Int×Int))(x:Int×Int):(Aj (Nh ps) (P8 (nrm x))).isSome=decide (nrm x∈ps.map nrm):=by
 unfold Aj Nh
 induction ps with
 | nil=>rfl
 | cons y ps ih=>
  rw[BC,CV]
  by_cases e:P8 (nrm y)=P8 (nrm x)
  ·rw[wX e]
   simp[Yn e]
  ·rw[wY e]
   have e':nrm x≠nrm y:=λz=>e (by rw[z])
   simp only[BC,AZ,e',false_or];exact ih
theorem iJ(ps:List (Int×Int))(x:Int×Int)(h:nrm x∉ps.map nrm):B9 (Nh ps) (P8 (nrm x)) (.bl true)=Nh (ps++[x]):=by
 unfold B9;rw[qY]
 ·simp[Nh]
 ·intro z
  obtain⟨y,hy,e⟩:=Gr.mp z;obtain⟨a,ha,rfl⟩:=Av.mp hy;exact h (by rw[<-Yn (of_decide_eq_true e)];exact cV ha)
theorem vK(h:S[n]?=some (.dT f'))(neg:Bool):inA neg (pairD x) (.ref n) S=.ok (.bl (if neg then !(Aj f' (P8 x)).isSome else(Aj f' (P8 x)).isSome)) S:=by
 show Jw (inD neg (pairD x) (.ref n) S) (OZ neg (pairD x) (.ref n) S)=_
 have e:inD neg (pairD x) (.ref n) S=.bad:=by
  unfold inD Gj;dsimp only;rw[h]
 have e2:NA (.ref n) (pairD x) S=some (Aj f' (P8 x)):=by
  unfold NA pairD;dsimp only;rw[h];rfl
 rw[e];show OZ neg (pairD x) (.ref n) S=_;unfold OZ;rw[e2]
theorem jM(hv:mv e S=.ok v S)(ho:mo e S=.ok (.ref d) S)(hi:mi e S=.ok (pairD x) S)(h:S[d]?=some (.dT f'))(hl:f'.length < sizeLine) :
  Cm mo mi mv e S=.ok (.nx e) (S.set d (.dT (B9 f' (P8 x) v))):=by
 unfold Cm;rw[hv];dsimp only[Res.lift];rw[ho];dsimp only[Res.lift];rw[hi];dsimp only[Res.lift]
 have:RC (.ref d) (pairD x) v S=some (S.set d (.dT (B9 f' (P8 x) v))):=by
  unfold RC pairD;dsimp only;rw[h];show(if f'.length < sizeLine then some (S.set d (.dT (B9 f' (P8 x) v)))else none)=_;rw[qX hl]
 rw[this]
theorem ix0(x:Int×Int)(S:Sto):ixA (pairD x) (.int 0) S=.ok (.int x.1) S:=rfl
theorem ix1(x:Int×Int)(S:Sto):ixA (pairD x) (.int 1) S=.ok (.int x.2) S:=rfl
def Fit(p:Int)(x:Int×Int):Prop:=(nrm x).1≠(nrm x).2/\0<=(nrm x).1/\(nrm x).2 < p
abbrev sg(W:Wd):MS:=BE (CN 5 (Jy (AO (mQ RQ (AO (AE 3) (AO (AE 4) BO))) (AO (mQ Vo (AO (AE 3) (AO (AE 4) BO))) BO))))
  (BE (sIf (mB (m2 (eqD false) (m2 ixA (AE 5) (mC (.int 0))) (m2 ixA (AE 5) (mC (.int 1))))) Td sNx)
  (BE (sIf (mOr (mB (m2 ltD (m2 ixA (AE 5) (mC (.int 0))) (mC (.int 0)))) (mB (m2 geD (m2 ixA (AE 5) (mC (.int 1))) (AE 0)))) Td sNx)
  (BE (sIf (mB (m2 (inA false) (AE 5) (AE 2))) Td sNx)
  (Cm (AE 2) (AE 5) (mC (.bl true))))))
theorem W0(h:t e S=.ok false S):sIf t a sNx e S=.ok (.nx e) S:=(G0 (a:=a) (b:=sNx) h).trans rfl
theorem gR(hn:S[n]?=some (.dT (Nh ps)))(hl:ps.length<=100000)(hf:Fit p x)(f4:nrm x∉ps.map nrm) :
  sg W [sI p,some t,sR n,sI x.1,sI x.2,z5] S=oN [sI p,some t,sR n,sI x.1,sI x.2,some (pairD (nrm x))] (S.set n (.dT (Nh (ps++[x])))):=by
 have e0:CN 5 (Jy (AO (mQ RQ (AO (AE 3) (AO (AE 4) BO))) (AO (mQ Vo (AO (AE 3) (AO (AE 4) BO))) BO))) [sI p,some t,sR n,sI x.1,sI x.2,z5] S =
   oN [sI p,some t,sR n,sI x.1,sI x.2,some (pairD (nrm x))] S:=
  JF (i:=5) (Zk (ds:=[.int (nrm x).1,.int (nrm x).2]) (Cz (lW (ds:=[.int x.1,.int x.2]) (S1:=S) rfl rfl) (Cz (lW (ds:=[.int x.1,.int x.2]) (S1:=S) rfl rfl) rfl)) (by simp))
 obtain⟨f1,f2,f3⟩:=hf;refine(Bv e0).trans ((Bv (W0 (Uf (Dr (Dr rfl rfl (ix0 _ _)) (Dr rfl rfl (ix1 _ _)) (sU (wY f1)))))).trans ((Bv (W0 ((hZ (Uf (Dr (Dr rfl rfl (ix0 _ _)) rfl (rR (wY (by omega)))))).trans (Uf (Dr (Dr rfl rfl (ix1 _ _)) rfl (sL (wY (by omega)))))))).trans ((Bv (W0 (Uf (Dr rfl rfl ?_)))).trans ?_)))
 ·rw[vK hn,iK,wY f4]
  rfl
 ·rw[jM (x:=nrm x) rfl rfl rfl hn (by unfold Nh;rw[AF];exact As hl (by decide)),iJ _ _ f4]
theorem dj(h:m e S=.ok d S1)(hx:Ff d S1=some xs):EE m e S=.ok (Ff d) S1:=by
 unfold EE;rw[h];dsimp only[Res.bind];rw[hx]
def GU(p:Int)(ps:List (Int×Int)):Prop:=(∀x∈ps,Fit p x)/\(ps.map nrm).Nodup
theorem GU.snoc:GU p (ps++[x])↔GU p ps/\Fit p x/\nrm x∉ps.map nrm:=by
 unfold GU;rw[CU,Er]
 constructor
 ·rintro⟨h1,h2,h3,h4⟩
  exact⟨⟨λy hy=>h1 y (by simp[hy]),h2⟩,h1 x (by simp),λz=>h4 _ z _ (by simp) rfl⟩
 ·rintro⟨⟨h1,h2⟩,h3,h4⟩
  refine⟨λy hy=>?_,h2,by simp,λa ha b hb e=>?_⟩
  ·rcases A0.mp hy with hy | hy
   ·exact h1 y hy
   ·rw[AU.mp hy];exact h3
  ·simp at hb
   subst hb;subst e;exact h4 ha
theorem GU.take(h:GU p ps)(i:Nat):GU p (ps.take i):=by
 refine⟨λx hx=>h.1 x (List.mem_of_mem_take hx),?_⟩;rw[pH];exact h.2.sublist (fC _ _)
theorem take_snoc{α:Type}{l:List α}{i:Nat}{x:α}(h:l[i]?=some x):l.take (i+1)=l.take i++[x]:=by
 rw[Fu,h];rfl
theorem XJ(W:Wd){p:Int}{d:D}{S:Sto}{ps:List (Int×Int)}(hv:∀S',Keeps S S'->Ff d S'=some (ps.map pairD))(hl:ps.length<=31)(hf:GU p ps) :
  ∃z3 z4 z5,FJ (EE (AE 1)) (Jk 2 (Df (tgN 3) (Df (tgN 4) KY))) (sg W) [sI p,some d,sR S.length,none,none,none] (S++[.dT []])=oN [sI p,some d,sR S.length,z3,z4,z5] (S++[.dT (Nh ps)]):=by
 rw[LB (dj (m:=AE 1) (d:=d) (S1:=S++[.dT []]) rfl (hv _ (Keeps.app _ _)))]
 obtain⟨f,S',h,z3,z4,z5,rfl,rfl⟩:=Nq (v:=Ff d) (g:=Jk 2 (Df (tgN 3) (Df (tgN 4) KY))) (b:=sg W) (xs:=ps.map pairD) (e:=[sI p,some d,sR S.length,none,none,none]) (S:=S++[.dT []]) (λi e S'=>(∃z3 z4 z5,e=[sI p,some d,sR S.length,z3,z4,z5])/\S'=S++[.dT (Nh (ps.take i))]) (λf S'=>∃z3 z4 z5,f=.nx [sI p,some d,sR S.length,z3,z4,z5]/\S'=S++[.dT (Nh ps)]) ⟨⟨none,none,none,rfl⟩,by simp[Nh]⟩ (by rintro i e S' ⟨_,rfl⟩;exact hv _ (Keeps.app _ _))
  (by
   rintro i y e S' hy ⟨⟨z3,z4,z5,rfl⟩,rfl⟩;rw[Ab]at hy
   cases hx:ps[i]? with
   | none=>rw[hx]at hy;cases hy
   | some x=>
    rw[hx]at hy;cases hy;have wk:=(AC.mp hx).1;have af:=hf.take (i+1);rw[take_snoc hx]at af;obtain⟨_,c1,c2⟩:=GU.snoc.mp af;refine⟨[sI p,some d,sR S.length,sI x.1,sI x.2,z5],_,rfl,_,_,gR (W:=W) (p:=p) (t:=d) (z5:=z5) (x:=x) (Ep S (.dT (Nh (ps.take i)))) (by rw[DI];omega) c1 c2,⟨_,_,_,rfl⟩,?_⟩;rw[take_snoc hx]
    simp)
  (by
   rintro e S' ⟨⟨z3,z4,z5,rfl⟩,rfl⟩;rw[AF,Ix]
   exact⟨_,_,_,rfl,rfl⟩)
 exact⟨z3,z4,z5,h⟩
def L9(ps:List (Int×Int)):List (List Int):=Ps (ps.map λx=>Wm (nrm x))
theorem XM(W:Wd){p:Int}{d:D}{S:Sto}{ps:List (Int×Int)}(hv:∀S',Keeps S S'->Ff d S'=some (ps.map pairD))(hl:ps.length<=31)(hf:GU p ps) :
  ∃S',Ht W [.int p,d] S=.ok (.tup ((L9 ps).map Rs)) S'/\Keeps S S':=by
 obtain⟨z3,z4,z5,h1⟩:=XJ W hv hl hf
 ·have hi:Mc (.ref S.length) (S++[.dT (Nh ps)])=some ((ps.map λx=>Wm (nrm x)).map Rs):=by
   unfold Mc;dsimp only;rw[Ep];dsimp only;unfold Nh;rw[BL,BL];rfl
  have hs:=OK (m:=AE 2) (e:=[sI p,some d,sR S.length,z3,z4,z5]) (S:=S++[.dT (Nh ps)]) rfl hi (Zp _ (by intro r hr;obtain⟨x,_,rfl⟩:=Av.mp hr;simp[Wm]) (by rw[AF];lia));refine⟨S++[.dT (Nh ps)]++[.lst ((L9 ps).map Rs)],NW ?_,(Keeps.app S _).trans (Keeps.app _ _)⟩;refine IX (Bv (e:=[sI p,some d,none,none,none,none]) (e1:=[sI p,some d,sR S.length,none,none,none]) (S:=S) (S1:=S++[.dT []]) rfl) ?_;refine IX (Bv h1) ?_;exact K6 (Pr hs (Gy (Ep _ _)))
open PySem L2
def DR(ts:List (Int×Int))(x:Nat):List Int:=ts.flatMap λt=>(if t.1=(x:Int)then[t.2]else[])++(if t.2=(x:Int)then[t.1]else[])
theorem Yf(ts:List (Int×Int))(t:Int×Int)(x:Nat):DR (ts++[t]) x=DR ts x++((if t.1=(x:Int)then[t.2]else[])++(if t.2=(x:Int)then[t.1]else[])):=by
 unfold DR;rw[List.flatMap_append];simp
def HZ(p:Nat)(F:Nat->List Int):Sto:=(D4 p).map λx=>Ob.lst ((F x).map D.int)
def GC(k p:Nat):List D:=(D4 p).map λx=>D.ref (k+x)
def stN(S:Sto)(p:Nat)(F:Nat->List Int):Sto:=S++HZ p F++[.lst (GC S.length p)]
theorem Ju(p:Nat)(F:Nat->List Int):(HZ p F).length=p:=by simp[HZ]
theorem Wb(S:Sto)(p:Nat)(F:Nat->List Int):(stN S p F).length=S.length+p+1:=by simp[stN,Ju];lia
theorem Qk(S:Sto)(p:Nat)(F:Nat->List Int):Keeps S (stN S p F):=(Keeps.app S _).trans (Keeps.app _ _)
theorem NQ(S:Sto)(p:Nat)(F:Nat->List Int):(stN S p F)[S.length+p]?=some (.lst (GC S.length p)):=by
 have:S.length+p=(S++HZ p F).length:=by simp[Ju]
 unfold stN;rw[this];exact Ep _ _
theorem MA(S:Sto)(F:Nat->List Int)(h:a < p):(stN S p F)[S.length+a]?=some (.lst ((F a).map D.int)):=by
 unfold stN;rw[Fv,Bf (by lia),BA (by rw[Ju];lia),show S.length+a - S.length=a by lia];unfold HZ;rw[Ab,EB h];rfl
theorem bN(S:Sto)(F:Nat->List Int)(ys:List Int)(h:a < p):(stN S p F).set (S.length+a) (.lst (ys.map D.int))=stN S p (λx=>if x=a then ys else F x):=by
 apply LX
 intro j
 by_cases e:S.length+a=j
 ·subst e
  rw[Ap (by rw[Wb];lia),MA _ _ h,qX rfl]
 ·rw[Ac e]
  by_cases h1:j < S.length
  ·rw[(Qk S p F).2 j h1,(Qk S p _).2 j h1]
  by_cases h2:j - S.length < p
  ·have e2:j=S.length+(j - S.length):=by lia
   rw[e2,MA S F h2,MA S _ h2,qY (by lia)]
  by_cases h3:j=S.length+p
  ·subst h3
   rw[NQ,NQ]
  ·rw[CC (by rw[Wb];lia),CC (by rw[Wb];lia)]
theorem bo(F:Nat->List Int)(h:a < p):ixA (.ref (S.length+p)) (.int a) (stN S p F)=.ok (.ref (S.length+a)) (stN S p F):=by
 show Jw (ixD _ _ _) _=_;have e1:Gj (.ref (S.length+p)) (stN S p F)=some (GC S.length p):=Gy (NQ S p F)
 have e2:atI (GC S.length p) (a:Int)=some (.ref (S.length+a)):=by
  unfold atI ixN;rw[show(GC S.length p).length=p by simp[GC],qX (by lia),qX (by lia)];simp only[AD,Ak];unfold GC;rw[Ab,EB h];rfl
 have:ixD (.ref (S.length+p)) (.int a) (stN S p F)=.ok (.ref (S.length+a)) (stN S p F):=by
  unfold ixD;rw[e1];dsimp only;rw[e2]
 rw[this];rfl
theorem gY(S:Sto):∀p:Nat,S++HZ (p+1) (λ_=>[])=S++HZ p (λ_=>[])++[.lst []]:=λp=>by
 unfold HZ;rw[NJ,CU,Fv];rfl
theorem dG(hp:p<=60)(h0:mp e S=.ok (.int p) S) :
  EL 1 (iR1 (AO mp BO)) (tgN 0) G4 (Eh (GJ BO)) e S=.ok (GC S.length p) (S++HZ p λ_=>[]):=by
 have hi:iR1 (AO mp BO) e S=.ok (Gx (Jv 0 p)) S:=by
  have:=ig (ml:=AO mp BO) (e:=e) (S:=S) (S1:=S) (j:=p) (Cz h0 rfl) (by lia) (by lia);simpa using this
 obtain⟨r,S1,q1,e',⟨z,_⟩,rfl,rfl⟩:=cD (v:=Gx (Jv 0 p)) (g:=tgN 0) (c:=G4) (m:=Eh (GJ BO)) (xs:=Jv 0 p) (e:=none :: e) (S:=S)
  (λi e' S' acc=>(∃z,e'=z :: e)/\S'=S++HZ i (λ_=>[])/\acc=GC S.length i)
  ⟨⟨none,rfl⟩,by simp[HZ],rfl⟩ (λ_ _ _ _ _=>rfl)
  (by
   rintro i d e' S' acc hd ⟨⟨z,rfl⟩,rfl,rfl⟩;obtain⟨hi,rfl⟩:=gi hd;refine⟨by simp[GC];exact As (m:=60) (by lia) (by decide),some (.int (0+i)) :: e,_,rfl,true,_,rfl,.inl ⟨rfl,.ref (S++HZ i λ_=>[]).length,_,rfl,⟨_,rfl⟩,(gY S i).symm,?_⟩⟩;unfold GC;rw[NJ,CU,Ag,Ju]
   rfl)
 rw[dI]at q1;exact(XG hi).trans q1
abbrev cH:MS:=BE (Ir (PF (m2 ixA (AE 2) (AE 3)) (AE 4))) (Ir (PF (m2 ixA (AE 2) (AE 4)) (AE 3)))
def In(p:Nat)(t:Int×Int):Prop:=0<=t.1/\t.1 < p/\0<=t.2/\t.2 < p/\t.1≠t.2
theorem dF(ht:In p t)(hF:∀x,(F x).length < 200000) :
  cH [some d0,some d1,sR (S.length+p),sI t.1,sI t.2] (stN S p F)=.ok (.nx [some d0,some d1,sR (S.length+p),sI t.1,sI t.2])
   (stN S p λx=>F x++((if t.1=(x:Int)then[t.2]else[])++(if t.2=(x:Int)then[t.1]else[]))):=by
 obtain⟨a,ha⟩:∃a:Nat,t.1=a:=⟨t.1.toNat,by have:=ht.1;lia⟩
 obtain⟨b,hb⟩:∃b:Nat,t.2=b:=⟨t.2.toNat,by have:=ht.2.2.1;lia⟩
 obtain⟨_,h2,_,h4,h5⟩:=ht
 have hab:a≠b:=λe=>h5 (by rw[ha,hb,e])
 rw[ha,hb]
 have hz:∀x,((F x).map D.int).length < sizeLine:=λx=>by rw[AF];exact tt (hF x) (by decide)
 have s1:=XS (mo:=m2 ixA (AE 2) (AE 3)) (ma:=AE 4) (e:=[some d0,some d1,sR (S.length+p),sI a,sI b]) (S:=stN S p F) (S1:=stN S p F) (S2:=stN S p F) (n:=S.length+a) (y:=.int b) (Dr rfl rfl (bo F (by lia))) (MA S F (by lia)) rfl (MA S F (by lia)) (hz a);rw[show(F a).map D.int++[D.int b]=(F a++[(b:Int)]).map D.int by simp,bN S F _ (by lia)]at s1
 have ϒ:(stN S p λx=>if x=a then F a++[(b:Int)]else F x)[S.length+b]?=some (.lst ((F b).map D.int)):=by
  rw[MA S _ (by lia),qY (Bs hab)]
 have s2:=XS (mo:=m2 ixA (AE 2) (AE 4)) (ma:=AE 3) (e:=[some d0,some d1,sR (S.length+p),sI a,sI b]) (S:=stN S p λx=>if x=a then F a++[(b:Int)]else F x) (S1:=stN S p λx=>if x=a then F a++[(b:Int)]else F x) (S2:=stN S p λx=>if x=a then F a++[(b:Int)]else F x) (n:=S.length+b) (y:=.int a) (Dr rfl rfl (bo _ (by lia))) ϒ rfl ϒ (hz b);rw[show(F b).map D.int++[D.int a]=(F b++[(a:Int)]).map D.int by simp,bN S _ _ (by lia)]at s2;unfold cH;rw[Bv (QJ s1),QJ s2]
 congr 2
 funext x
 by_cases e1:x=b
 ·subst e1
  have:¬((a:Int)=(x:Int)):=by lia
  simp[this]
 ·by_cases e2:x=a
  ·subst e2
   have:¬((b:Int)=(x:Int)):=by lia
   simp[e1,this]
  ·have h1:¬((a:Int)=(x:Int)):=by lia
   have h2:¬((b:Int)=(x:Int)):=by lia
   simp[e1,e2,h1,h2]
theorem Tw(ts:List (Int×Int))(x:Nat):(DR ts x).length<=2 * ts.length:=by
 unfold DR
 induction ts with
 | nil=>simp
 | cons t ts ih=>
  rw[fH,Ag,At]
  have:((if t.1=(x:Int)then[t.2]else[])++(if t.2=(x:Int)then[t.1]else[])).length<=2:=by split <;> split <;> simp
  lia
def Qm(p:Nat)(ts:List (Int×Int)):List D:=(D4 p).map λx=>.tup ((CI (DR ts x)).map D.int)
theorem mX(W:Wd)(hp:p<=60)(ht:∀t∈ts,In p t)(hl:ts.length<=31)(S:Sto) :
  ∃S',Hs W [.int p,.tup (ts.map pairD)] S=.ok (.tup (Qm p ts)) S'/\Keeps S S':=by
 have a1:=JF (i:=2) (Z7 (dG hp (mp:=AE 0) (e:=[sI p,some (.tup (ts.map pairD)),none,none,none]) (S:=S) rfl));have e1:(S++HZ p λ_=>[])++[.lst (GC S.length p)]=stN S p (DR []):=rfl
 have e2:(S++HZ p λ_=>[]).length=S.length+p:=by simp[Ju]
 rw[e1,e2]at a1
 obtain⟨f,S1,h1,⟨z3,z4,rfl⟩,rfl⟩:=Nq (v:=Gx (ts.map pairD)) (g:=Jk 2 (Df (tgN 3) (Df (tgN 4) KY))) (b:=cH) (xs:=ts.map pairD) (e:=[sI p,some (.tup (ts.map pairD)),sR (S.length+p),none,none]) (S:=stN S p (DR []))
  (λi e S'=>(∃z3 z4,e=[sI p,some (.tup (ts.map pairD)),sR (S.length+p),z3,z4])/\S'=stN S p (DR (ts.take i)))
  (λf S'=>(∃z3 z4,f=.nx [sI p,some (.tup (ts.map pairD)),sR (S.length+p),z3,z4])/\S'=stN S p (DR ts))
  ⟨⟨none,none,rfl⟩,rfl⟩ (λ_ _ _ _=>rfl)
  (by
   rintro i y e S' hy ⟨⟨z3,z4,rfl⟩,rfl⟩;rw[Ab]at hy
   cases hx:ts[i]? with
   | none=>rw[hx]at hy;cases hy
   | some t=>
    rw[hx]at hy;cases hy;refine⟨[sI p,some (.tup (ts.map pairD)),sR (S.length+p),sI t.1,sI t.2],_,rfl,_,_,dF (ht t (Aq hx)) (λx=>?_),⟨_,_,rfl⟩,?_⟩
    ·have:=Tw (ts.take i) x
     rw[DI]at this;exact As (Am this (Nat.mul_le_mul_left 2 (Am (j5 _ _) hl))) (by decide)
    ·rw[take_snoc hx,show DR (ts.take i++[t])=_ from funext λx=>Yf _ _ x])
  (by
   rintro e S' ⟨⟨z3,z4,rfl⟩,rfl⟩;rw[AF,Ix]
   exact⟨⟨_,_,rfl⟩,rfl⟩)
 have a2:=(LB (g:=Jk 2 (Df (tgN 3) (Df (tgN 4) KY))) (b:=cH) (UJ (m:=AE 1) (e:=[sI p,some (.tup (ts.map pairD)),sR (S.length+p),none,none]) (S:=stN S p (DR [])) (S1:=stN S p (DR [])) (xs:=ts.map pairD) rfl)).trans h1
 obtain⟨r,S2,q1,e',⟨z,_⟩,K,rfl⟩:=cD (v:=Ff (.ref (S.length+p))) (g:=tgN 0) (c:=G4) (m:=Gk (Ge (AE 0))) (xs:=GC S.length p) (e:=[none,sI p,some (.tup (ts.map pairD)),sR (S.length+p),z3,z4]) (S:=stN S p (DR ts))
  (λi e' S' acc=>(∃z,e'=[z,sI p,some (.tup (ts.map pairD)),sR (S.length+p),z3,z4])/\Keeps (stN S p (DR ts)) S'/\acc=(D4 i).map λx=>.tup ((CI (DR ts x)).map D.int))
  ⟨⟨none,rfl⟩,.refl _,rfl⟩ (λi e' S' acc h=>De (h.2.1.at (NQ S p _)))
  (by
   rintro i d e' S' acc hd ⟨⟨z,rfl⟩,K,rfl⟩
   have hi:i < p:=by
    have:=(AC.mp hd).1;simpa[GC]using this
   unfold GC at hd;rw[Ab,EB hi]at hd;cases hd;have hit:Mc (.ref (S.length+i)) S'=some ((DR ts i).map D.int):=UG (K.at (MA S _ hi));have hs:=OK (m:=AE 0) (e:=[sR (S.length+i),sI p,some (.tup (ts.map pairD)),sR (S.length+p),z3,z4]) (S:=S') (S1:=S') rfl hit (Zq _ (by have:=Tw ts i;lia));refine⟨by simp;exact As (m:=60) (by lia) (by decide),[sR (S.length+i),sI p,some (.tup (ts.map pairD)),sR (S.length+p),z3,z4],_,rfl,true,_,rfl,.inl ⟨rfl,_,_,Pr hs (Gy (Ep _ _)),⟨_,rfl⟩,K.trans (Keeps.app _ _),?_⟩⟩;rw[NJ,CU]
   rfl)
 have a3:=(XG (n:=1) (g:=tgN 0) (c:=G4) (m:=Gk (Ge (AE 0))) (Lj (m:=AE 2) (e:=[sI p,some (.tup (ts.map pairD)),sR (S.length+p),z3,z4]) (S:=stN S p (DR ts)) (S1:=stN S p (DR ts)) rfl (NQ S p _))).trans q1;rw[show(GC S.length p).length=p by simp[GC]]at a3;refine⟨S2++[.lst (Qm p ts)],NW ?_,((Qk S p _).trans K).trans (Keeps.app _ _)⟩;unfold N5;refine IX (Bv a1) ?_;refine IX (Bv a2) ?_;exact K6 (Pr (Z7 a3) (Gy (Ep _ _)))
open PySem L2
open Srt (ltL)
def toP(r:List Int):Int×Int:=(r.getD 0 0,r.getD 1 0)
def Iq(ps:List (Int×Int)):List (Int×Int):=(L9 ps).map toP
theorem TC(h:r∈L9 ps):∃x∈ps,r=Wm (nrm x):=by
 have:=(Jm _).mem_iff.mp h;obtain⟨x,hx,rfl⟩:=Av.mp this;exact⟨x,hx,rfl⟩
theorem cu(ps:List (Int×Int)):(Iq ps).map Wm=L9 ps:=by
 unfold Iq;rw[BL]
 conv=>rhs;rw[<-Sj (L9 ps)]
 refine DV λr hr=>?_
 obtain⟨x,_,rfl⟩:=TC hr;rfl
theorem Zl(ps:List (Int×Int)):(L9 ps).map Rs=(Iq ps).map pairD:=by
 rw[<-cu,BL];rfl
theorem gM(h:t∈Iq ps):∃x∈ps,t=nrm x:=by
 obtain⟨r,hr,rfl⟩:=Av.mp h;obtain⟨x,hx,rfl⟩:=TC hr;exact⟨x,hx,rfl⟩
theorem Qj(ps:List (Int×Int)):(Iq ps).Perm (ps.map nrm):=by
 unfold Iq L9;have:=(Jm (ps.map λx=>Wm (nrm x))).map toP;refine this.trans ?_;rw[BL];exact List.Perm.of_eq rfl
theorem rH(x:Int×Int):(nrm x).1<=(nrm x).2:=by
 unfold nrm;dsimp only
 split <;> split <;> lia
theorem Fit.in{p:Nat}{x:Int×Int}(h:Fit p x):In p (nrm x):=by
 obtain⟨h1,h2,h3⟩:=h;have:=rH x;exact⟨h2,by lia,by lia,h3,h1⟩
theorem u7:¬(("places" : Str) = "ties"):=by decide +kernel
theorem u8:¬(("places" : Str) = "near_sets"):=by decide +kernel
theorem u6:¬(("ties" : Str) = "near_sets"):=by decide +kernel
theorem put2(a b:D):KO "ties" b [(("places" : Str),a)]=([("places",a),("ties",b)]:List (Str×D)):=by
 show(if ("places" : Str) = "ties" then _ else _)=_;rw[qY u7];rfl
theorem put3(a b c:D):KO "near_sets" c [(("places" : Str),a),("ties",b)]=([("places",a),("ties",b),("near_sets",c)]:List (Str×D)):=by
 show(if ("places" : Str) = "near_sets" then _ else _)=_;rw[qY u8]
 have:KO "near_sets" c [(("ties" : Str),b)]=([("ties",b),("near_sets",c)]:List (Str×D)):=by
  show(if ("ties" : Str) = "near_sets" then _ else _)=_;rw[qY u6];rfl
 rw[this]
theorem vD(a b c:D):([("places",a),("ties",b),("near_sets",c)]:List (Str×D)).lookup ("places" : Str)=some a:=by
 rw[Ba,show(("places" : Str)=="places")=true by decide +kernel]
theorem vC(a b c:D):([("places",a),("ties",b),("near_sets",c)]:List (Str×D)).lookup ("near_sets" : Str)=some c:=by
 rw[Ba,show(("near_sets" : Str)=="places")=false by decide +kernel];dsimp only;rw[Ba,show(("near_sets" : Str)=="ties")=false by decide +kernel];dsimp only;rw[Ba,show(("near_sets" : Str)=="near_sets")=true by decide +kernel]
theorem rS(a b:D):([("places",a),("ties",b)]:List (Str×D)).lookup ("ties" : Str)=some b:=by
 rw[Ba,show(("ties" : Str)=="places")=false by decide +kernel];dsimp only;rw[Ba,show(("ties" : Str)=="ties")=true by decide +kernel]
open PySem L2 L4
def Hl(W:Wd)(w:Nat×List (Int×Int)):Ob:=.ins W.Web [("places",.int w.1),("ties",.tup (w.2.map pairD)),("near_sets",.tup (Qm w.1 w.2))]
def Qy(p:Nat)(ts:List (Int×Int)):List (List Int):=(D4 p).map λx=>CI (DR ts x)
theorem iI(p:Nat)(ts:List (Int×Int)):D.tup (Qm p ts)=eT (eT D.int) (Qy p ts):=by
 unfold Qm Qy eT;rw[BL];rfl
open Classical in
def fP(x:Int)(l:List (Int×Int)):Option (Nat×List (Int×Int)):=if 1<=x/\x<=60/\GU x l/\l.length<=31 then some (x.toNat,Iq l)else none
section
variable{W:Wd}{A:List Sl}{a b m:ME}{p:Option (Nat×List (Int×Int))}
theorem bI{α:Type}{f:Str}{enc:α->D}{g:Nat×List (Int×Int)->α}(h:VE A m (rO (Hl W)) p)(hl:∀w,([("places",D.int w.1),("ties",.tup (w.2.map pairD)),("near_sets",.tup (Qm w.1 w.2))]:List (Str×D)).lookup f=some (enc (g w))):VE A (Dj W.Web f m) (rV enc) (p.bind λw=>some (g w)):=λv hv S0 e F S hs=>by
 obtain⟨w,h1,h2⟩:=Aw hv;cases h2;obtain⟨d,S',h3,h4,n,rfl,hn⟩:=h w h1 S0 e F S hs;exact⟨_,S',LC h3 hn (hl w),h4,rfl⟩
theorem Je(h:VE A m (rO (Hl W)) p):VE A (Dj W.Web "places" m) (rV D.int) (p.bind λw=>some (w.1:Int)):=bI h λw=>vD _ _ _
theorem kb(h:VE A m (rO (Hl W)) p):VE A (Dj W.Web "near_sets" m) (rV (eT (eT D.int))) (p.bind λw=>some (Qy w.1 w.2)):=bI h λw=>by rw[<-iI];exact vC _ _ _
theorem pN(W:Wd){p:Nat}(h1:1<=p)(hp:p<=60){d:D}{S:Sto}{ps:List (Int×Int)}(hv:∀S',Keeps S S'->Ff d S'=some (ps.map pairD))(hl:ps.length<=31)(hf:GU p ps){e:Lo}{ml:ML}{S0:Sto}(ha:ml e S0=.ok [.int p,d] S) :
  ∃S',RT W.Web 3 (Mj W) ml e S0=.ok (.ref S.length) S'/\Keeps S S'/\S'[S.length]?=some (Hl W (p,Iq ps)):=by
 have t0:OX (mB (m3 leD leD (mC (.int 1)) (AE 1) (mC (.int 60)))) [sR S.length,sI p,some d] (S++[.ins W.Web []])=.ok false (S++[.ins W.Web []]):=
  PB (b:=true) (Uf (oY (S3:=S++[.ins W.Web []]) rfl rfl (iS (wX (by omega))) rfl (iS (wX (by omega)))))
 have zE:(S++[Ob.ins W.Web []])[S.length]?=some (.ins W.Web []):=Ep _ _;have e1:=SJ (C:=W.Web) (f:="places") (mo:=AE 0) (mv:=AE 1) (e:=[sR S.length,sI p,some d]) (S:=S++[.ins W.Web []]) (v:=.int p) rfl rfl zE (by decide);have K1:Keeps S ((S++[Ob.ins W.Web []]).set S.length (.ins W.Web (KO "places" (.int p) []))):=(Keeps.app S _).set (AL _) _;generalize hS1:(S++[Ob.ins W.Web []]).set S.length (.ins W.Web (KO "places" (.int p) []))=S1 at e1 K1
 have yE:S1[S.length]?=some (.ins W.Web [("places",.int p)]):=by rw[<-hS1];exact Ap (by simp)
 obtain⟨S2,c2,K2⟩:=XM W (p:=p) (d:=d) (S:=S1) (ps:=ps) (λS' k=>hv S' (K1.trans k)) hl hf;rw[Zl]at c2;have e2:=SJ (C:=W.Web) (f:="ties") (mo:=AE 0) (mv:=CB 2 (Ht W) (AO (AE 1) (AO (AE 2) BO))) (e:=[sR S.length,sI p,some d]) (S:=S1) ((Mn rfl rfl).trans c2) rfl (K2.at yE) (by simp);have K3:Keeps S (S2.set S.length (.ins W.Web (KO "ties" (.tup ((Iq ps).map pairD)) [("places",.int p)]))):=(K1.trans K2).set (AL _) _;rw[put2]at e2 K3;have hlt2:S.length < S2.length:=(AC.mp (K2.at yE)).1;generalize hS3:S2.set S.length (.ins W.Web [("places",.int p),("ties",.tup ((Iq ps).map pairD))])=S3 at e2 K3
 have zJ:S3[S.length]?=some (.ins W.Web [("places",.int p),("ties",.tup ((Iq ps).map pairD))]):=by rw[<-hS3];exact Ap hlt2
 obtain⟨S4,c4,K4⟩:=mX W hp (ts:=Iq ps) (λt ht=>by
  obtain⟨x,hx,rfl⟩:=gM ht
  exact(hf.1 x hx).in) (by rw[(Qj ps).length_eq,AF];exact hl) S3
 have e3:=SJ (C:=W.Web) (f:="near_sets") (mo:=AE 0) (mv:=CB 2 (Hs W) (AO (AE 1) (AO (Dj W.Web "ties" (AE 0)) BO))) (e:=[sR S.length,sI p,some d]) (S:=S3)
  ((Mn (Cz (S1:=S3) rfl (Cz (LC rfl zJ (rS _ _)) rfl)) rfl).trans c4) rfl (K4.at zJ) (by simp)
 have hlt4:S.length < S4.length:=(AC.mp (K4.at zJ)).1;rw[put3]at e3;refine⟨_,bb ha rfl (Zx (e:=[sR S.length,sI p,some d]) ?_),(K3.trans K4).set (AL _) _,Ap hlt4⟩;unfold Uc;refine IX (Bv (e:=[sR S.length,sI p,some d]) (e1:=[sR S.length,sI p,some d]) (S1:=S++[.ins W.Web []]) (IX (G0 t0) rfl)) ?_;rw[Bv e1,Bv e2];exact e3
theorem pS{pa:Option Int}{pl:Option (List (Int×Int))}(ha:VE A a (rV D.int) pa)(hb:VE A b (rO (oL (eP D.int D.int))) pl):VE A (RT W.Web 3 (Mj W) (AO a (AO b BO))) (rN (Hl W)) (pa.bind λx=>pl.bind λl=>fP x l):=λv hv S0 e F S hs=>by
 obtain⟨x,h1,hv⟩:=Aw hv;obtain⟨l,h2,h3⟩:=Aw hv;obtain⟨d1,S1,q1,k1,rfl⟩:=ha x h1 S0 e F S hs;obtain⟨d2,S2,q2,k2,n,rfl,hn⟩:=hb l h2 S0 e _ S1 (hs.grow k1);unfold fP at h3;split at h3
 ·rename_i hc
  cases h3;obtain⟨c1,c2,c3,c4⟩:=hc;have hx:((x.toNat:Nat):Int)=x:=Au (by omega);obtain⟨S3,h5,h6,h7⟩:=pN W (p:=x.toNat) (d:=.ref n) (S:=S2) (ps:=l) (by omega) (by omega) (λS' k=>De (k.at hn)) c4 (by rw[hx];exact c3) (ml:=AO a (AO b BO)) (e:=e) (S0:=S) (by rw[hx];exact Cz q1 (Cz q2 rfl));exact⟨_,S3,h5,(k1.trans k2).trans h6,_,rfl,(k1.trans k2).1,h7⟩
 ·cases h3
end
def K2(h s:Nat)(S S':Sto):Prop:=S.length<=S'.length/\∀j,j < S.length->j≠h->j≠s->S'[j]?=S[j]?
theorem K2.trans(a:K2 h s S S1)(b:K2 h s S1 S2):K2 h s S S2:=⟨Am a.1 b.1,λj q q1 q2=>(b.2 j (AV q a.1) q1 q2).trans (a.2 j q q1 q2)⟩
theorem K2.of{h s:Nat}{S S1:Sto}(a:Keeps S S1):K2 h s S S1:=⟨a.1,λj q _ _=>a.2 j q⟩
theorem K2.seth(a:K2 h s S S1)(o:Ob):K2 h s S (S1.set h o):=⟨by rw[D5];exact a.1,λj q q1 q2=>by rw[Ac (Bs q1)];exact a.2 j q q1 q2⟩
theorem K2.sets(a:K2 h s S S1)(o:Ob):K2 h s S (S1.set s o):=⟨by rw[D5];exact a.1,λj q q1 q2=>by rw[Ac (Bs q2)];exact a.2 j q q1 q2⟩
theorem K2.at(a:K2 h s S S1)(hj:S[j]?=some o)(h1:j≠h)(h2:j≠s):S1[j]?=some o:=by rw[a.2 j (BW hj) h1 h2];exact hj
def Tk(ξ:List (List Int))(g:Int):List Int:=(atI ξ g).getD []
theorem sV{κv}{enc}{l}{S}{n}(hn:S[n]?=some (oDK enc l))(hl:l.length < 1000000)(k:Int)(v:κv):RC (.ref n) (.int k) (enc v) S=some (S.set n (oDK enc (B9 l k v))):=by
 unfold RC;dsimp only;rw[hn];show(if (l.map _).length < sizeLine then some (S.set n (.dK (B9 (l.map λx=>(Dg x.1,enc x.2)) (Dg k) (enc v))))else none)=_;rw[qX (by rw[AF];exact Yj hl),Px SO];rfl
theorem SV{κv:Type}{enc:κv->D}{l:List (Int×κv)}{mo mi mv:ME}{e:Lo}{S:Sto}{n:Nat}{k:Int}{v:κv}(hv:mv e S=.ok (enc v) S)(ho:mo e S=.ok (.ref n) S)(hi:mi e S=.ok (.int k) S)(hn:S[n]?=some (oDK enc l))(hl:l.length < 1000000):Cm mo mi mv e S=.ok (.nx e) (S.set n (oDK enc (B9 l k v))):=by
 unfold Cm;rw[hv];dsimp only[Res.lift];rw[ho];dsimp only;rw[hi];dsimp only;rw[sV hn hl]
theorem MP{κ α:Type}[DecidableEq κ]{l l':List (κ×α)}{k:κ}{v:α}(h:HD l k v=some l'):l.length < 1000000/\l'=B9 l k v:=by
 unfold HD at h;split at h
 ·rename_i c;cases h;exact⟨c,rfl⟩
 ·cases h
theorem cb(ht:S[tN]?=some (oL (eT D.int) ξ))(hh:S[hN]?=some (oDK D.int H))(hs:S[sN]?=some (oDK D.bl Q))(wd:hN≠sN) :
  ∃F,Vs [] [.z (oL (eT D.int) ξ),.v (D.int bits),.w 2 (oDK D.int H),.v (D.int g),.w 4 (oDK D.bl Q),.u,.u] [sR tN,sI bits,sR hN,sI g,sR sN,none,none] F S:=by
 have t1:tN≠hN:=λc=>by rw[c,hh]at ht;cases ht
 have t2:tN≠sN:=λc=>by rw[c,hs]at ht;cases ht
 refine⟨λn=>if n=hN then .ow 2 else if n=sN then .ow 4 else match S[n]? with | some o=>.fz o | none=>.no,⟨Dz _,λj h=>(nomatch h)⟩,λn o q=>?_,λn i q=>?_,λn hn=>?_,λi a ha=>?_⟩
 ·split at q
  ·cases q
  ·split at q
   ·cases q
   ·cases w:S[n]? with
    | none=>rw[w]at q;cases q
    | some o'=>rw[w]at q;cases q;rfl
 ·refine⟨Dz _,?_⟩
  split at q
  ·rename_i c;rw[c];exact BW hh
  ·split at q
   ·rename_i c;rw[c];exact BW hs
   ·cases w:S[n]? with
    | none=>rw[w]at q;cases q
    | some o'=>rw[w]at q;cases q
 ·show(if n=hN then Cel.ow 2 else if n=sN then .ow 4 else match S[n]? with | some o=>.fz o | none=>.no)=_
  rw[qY λc=>zX (BW hh) (by rw[<-c];omega),qY λc=>zX (BW hs) (by rw[<-c];omega),CC hn]
 ·match i,ha with
  | 0,ha=>cases ha;exact⟨_,rfl,tN,rfl,by show(if tN=hN then Cel.ow 2 else if tN=sN then .ow 4 else match S[tN]? with | some o=>.fz o | none=>.no)=_;rw[qY t1,qY t2,ht]⟩
  | 1,ha=>cases ha;exact⟨_,rfl,rfl⟩
  | 2,ha=>cases ha;exact⟨_,rfl,hN,rfl,qX rfl,hh⟩
  | 3,ha=>cases ha;exact⟨_,rfl,rfl⟩
  | 4,ha=>cases ha;exact⟨_,rfl,sN,rfl,by show(if sN=hN then Cel.ow 2 else if sN=sN then .ow 4 else match S[sN]? with | some o=>.fz o | none=>.no)=_;rw[qY (Bs wd),qX rfl],hs⟩
  | 5,ha=>cases ha;exact⟨_,rfl,trivial⟩
  | 6,ha=>cases ha;exact⟨_,rfl,trivial⟩
  | i+7,ha=>cases ha
abbrev oW:ME:=Eh (EL 1 (EE (m2 ixA (AE 0) (AE 3))) (tgN 0) (P3 (FX (m2 RH (m2 YC (AE 2) (AE 0)) (mC (.int 1)))) (mB (m2 (inA true) (AE 0) (AE 5)))) (AE 0))
theorem kF{S:Sto}{tN hN sN:Nat}{ξ:List (List Int)}{bits g:Int}{H:HL}{Q:QL}(ht:S[tN]?=some (oL (eT D.int) ξ))(hh:S[hN]?=some (oDK D.int H))(hs:S[sN]?=some (oDK D.bl Q))(wd:hN≠sN)(hg:0<=g/\g < ξ.length)(hT:∀t∈ξ,t.length<=1000/\∀x∈t,0<=x) :
  ∃n S',oW [sR tN,sI bits,sR hN,sI g,sR sN,none,none] S=.ok (.ref n) S'/\Keeps S S'/\S.length<=n/\S'[n]?=some (oL D.int ((Tk ξ g).filter λx=>hb bits x&&!(Aj Q x).isSome)):=by
 obtain⟨F,V⟩:=cb (bits:=bits) (g:=g) ht hh hs wd;obtain⟨t,e1,-⟩:=aY (l:=ξ) hg.1 hg.2;have tm:=hT t (cI e1)
 have key:=Ct (DD (enc:=D.int) (eb:=D.int) (A:=[.z (oL (eT D.int) ξ),.v (D.int bits),.w 2 (oDK D.int H),.v (D.int g),.w 4 (oDK D.bl Q),.u,.u]) (VI.k (NM (Gi (DF (v:=ξ) (i:=0) rfl) (AH (v:=g) (i:=3) rfl))))
  (λx=>WW (WV (OI (pT (AH (v:=bits) (i:=2) rfl) (AH (v:=x) (i:=0) rfl)) (CO (v:=1) rfl))) (FC (Xx (AH (v:=x) (i:=0) rfl) (HR (v:=Q) (i:=5) rfl)))) (λx=>AH (v:=x) (i:=0) rfl))
 simp only[AD]at key;rw[e1]at key;simp only[AD]at key
 have ec:EO t (λx=>((lO bits x).bind λx_1=>some (BH x_1 1)).bind (λx=>some (x != 0)) |>.bind λb=>if b=true then some (!(Aj Q x).isSome)else some false) (λx=>some x)=some (t.filter λx=>hb bits x&&!(Aj Q x).isSome):=J8 (by omega) λx hx=>by
  rw[show lO bits x=some (bits / 2 ^ x.toNat)from qX (tm.2 x hx)];show(if (BH (bits / 2 ^ x.toNat) 1 != 0)=true then _ else _)=_;show(if hb bits x=true then _ else _)=_
  cases hb bits x <;> rfl
 obtain⟨d,S',h1,h2,n,rfl,h3,h4⟩:=key _ ec [] _ F S V;refine⟨n,S',h1,h2,h3,?_⟩;unfold Tk;rw[e1];exact h4
theorem nO{w:List Int}{p:Int->Bool}{i:Nat}{x:Int}(h:∀j,j < i->∀y,w[j]?=some y->p y=false)(hx:w[i]?=some x)(hp:p x=true):w.find? p=some x:=by
 rw[List.find?_eq_some_iff_getElem];obtain⟨hi,e⟩:=AC.mp hx;refine⟨hp,i,hi,e,λj hj=>?_⟩;rw[h j hj _ (Aa (by omega))];rfl
theorem nN{w:List Int}{p:Int->Bool}(h:∀j,j < w.length->∀y,w[j]?=some y->p y=false):w.find? p=none:=by
 rw[KQ];intro x hx hp;obtain⟨i,hi,e⟩:=CZ hx;rw[h i hi x (by rw[Aa hi,e])]at hp;cases hp
abbrev e7(tN:Nat)(bits:Int)(hN:Nat)(g:Int)(sN:Nat)(z5 z6:Option D):Lo:=[sR tN,sI bits,sR hN,sI g,sR sN,z5,z6]
abbrev bS1:MS:=sIf (mB (m2 (inA true) (AE 6) (AE 2))) (BE (Cm (AE 2) (AE 6) (AE 3)) (CS (mC (.bl true)))) sNx
abbrev bS2(fr:List D->Sto->Res D):MS:=sIf (mB (m2 (inA true) (AE 6) (AE 4))) (BE (Cm (AE 4) (AE 6) (mC (.bl true)))
  (sIf (FX (CB 5 fr (AO (AE 0) (AO (AE 1) (AO (AE 2) (AO (m2 ixA (AE 2) (AE 6)) (AO (AE 4) BO))))))) (BE (Cm (AE 2) (AE 6) (AE 3)) (CS (mC (.bl true)))) sNx)) sNx
theorem oi(hn:S[n]?=some (oDK enc l))(x:Int):inA true (.int x) (.ref n) S=.ok (.bl (!(Aj l x).isSome)) S:=by
 rw[RB (qK hn) (jP hn x)];simp
theorem vJ(hn:S[n]?=some (oDK enc l))(hv:Aj l x=some v):ixA (.ref n) (.int x) S=.ok (enc v) S:=RA (qK hn) (by rw[jP hn x,hv];rfl)
theorem dB(W:Wd){ξ:List (List Int)}{bits:Int}(hT:∀t∈ξ,t.length<=1000/\∀x∈t,0<=x):∀(n:Nat) (H:HL) (g:Int) (Q:QL) (z:Bool×HL×QL),IZ (Tk ξ) bits n H g Q=some z->0<=g/\g < ξ.length->(∀x a,Aj H x=some a->0<=a/\a < ξ.length)->(∀x a,Aj z.2.1 x=some a->0<=a/\a < ξ.length) /\
  ∀(S:Sto) (tN hN sN:Nat),S[tN]?=some (oL (eT D.int) ξ)->S[hN]?=some (oDK D.int H)->S[sN]?=some (oDK D.bl Q)->hN≠sN->∃S',G2 W n [.ref tN,.int bits,.ref hN,.int g,.ref sN] S=.ok (.bl z.1) S'/\S'[hN]?=some (oDK D.int z.2.1)/\S'[sN]?=some (oDK D.bl z.2.2)/\K2 hN sN S S':=by
 intro n
 induction n with
 | zero=>intro H g Q z hz;cases hz
 | succ n ih=>
  intro H g Q z hz hg hG;unfold IZ at hz
  have xX:∀(H:HL) (x:Int),(∀x a,Aj H x=some a->0<=a/\a < ξ.length)->∀y a,Aj (B9 H x g) y=some a->0<=a/\a < ξ.length:=λH x hG y a e=>by
   rw[Cu]at e;split at e
   ·cases e;exact hg
   ·exact hG y a e
  have lp:∀(r:List Int) (Hc:HL) (Qc:QL),(∀x a,Aj Hc x=some a->0<=a/\a < ξ.length)->Om (IZ (Tk ξ) bits n) g r Hc Qc=some z->∀x a,Aj z.2.1 x=some a->0<=a/\a < ξ.length:=by
   intro r
   induction r with
   | nil=>intro Hc Qc hc e;cases e;exact hc
   | cons x r ih2=>
    intro Hc Qc hc e;unfold Om at e;split at e
    ·exact ih2 Hc Qc hc e
    ·obtain⟨Q1,-,e⟩:=Aw e
     obtain⟨g2,e2,e⟩:=Aw e;obtain⟨z2,e3,e⟩:=Aw e;have:=(ih Hc g2 Q1 z2 e3 (hc x g2 e2) hc).1;split at e
     ·obtain⟨H',e4,e5⟩:=Aw e
      cases e5;rw[(MP e4).2];exact xX _ x this
     ·exact ih2 _ _ this e
  refine⟨?_,λS tN hN sN ht hh hs wd=>?_⟩
  ·split at hz
   ·obtain⟨H',e4,e5⟩:=Aw hz
    cases e5;rw[(MP e4).2];exact xX _ _ hG
   ·exact lp _ _ _ hG hz
  ·have t1:tN≠hN:=λc=>by rw[c,hh]at ht;cases ht
   have t2:tN≠sN:=λc=>by rw[c,hs]at ht;cases ht
   obtain⟨wN,S1,w1,w2,w3,w4⟩:=kF (bits:=bits) ht hh hs wd hg hT;generalize (Tk ξ g).filter (λx=>hb bits x&&!(Aj Q x).isSome)=w at hz w4
   have wh:wN≠hN:=λc=>zX (BW hh) (by omega)
   have ws:wN≠sN:=λc=>zX (BW hs) (by omega)
   have s5:CN 5 oW (JE 7 [.ref tN,.int bits,.ref hN,.int g,.ref sN]) S=.ok (.nx (e7 tN bits hN g sN (some (.ref wN)) none)) S1:=JF (i:=5) w1;have hh1:=w2.at hh;have yD:=w2.at hs;have ht1:=w2.at ht;have k1:K2 hN sN S S1:=K2.of w2
   have it:∀z6 S',S'[wN]?=some (oL D.int w)->EE (AE 5) (e7 tN bits hN g sN (some (.ref wN)) z6) S'=.ok (Ff (.ref wN)) S':=λz6 S' h=>Lj (n:=wN) rfl h
   obtain⟨f,S2,q1,q2⟩:=Nq (v:=Ff (.ref wN)) (g:=tgN 6) (b:=bS1) (xs:=w.map D.int) (e:=e7 tN bits hN g sN (some (.ref wN)) none) (S:=S1)
    (λi e S'=>(∃z6,e=e7 tN bits hN g sN (some (.ref wN)) z6)/\S'=S1/\∀j,j < i->∀y,w[j]?=some y->(!(Aj H y).isSome)=false)
    (λf S'=>((∃z6,f=.nx (e7 tN bits hN g sN (some (.ref wN)) z6))/\S'=S1/\w.find? (λx=>!(Aj H x).isSome)=none)∨∃x,w.find? (λx=>!(Aj H x).isSome)=some x/\f=.rt (.bl true)/\S'=S1.set hN (oDK D.int (B9 H x g)))
    ⟨⟨none,rfl⟩,rfl,λj hj=>zX hj (OC j)⟩ (by rintro i e S' ⟨_,rfl,_⟩;exact De w4)
    (by
     rintro i d e S' hd ⟨⟨z6,rfl⟩,rfl,wc⟩;rw[Ab]at hd
     cases hx:w[i]? with
     | none=>rw[hx]at hd;cases hd
     | some x=>
      rw[hx]at hd;cases hd;refine⟨e7 tN bits hN g sN (some (.ref wN)) (some (.int x)),S',rfl,?_⟩;have wL:mB (m2 (inA true) (AE 6) (AE 2)) (e7 tN bits hN g sN (some (.ref wN)) (some (.int x))) S'=.ok (!(Aj H x).isSome) S':=Uf (Dr rfl rfl (oi hh1 x))
      cases c:(Aj H x).isSome with
      | true=>
       rw[c]at wL;refine⟨_,S',(G0 wL).trans rfl,⟨_,rfl⟩,rfl,λj hj y hy=>?_⟩
       by_cases q:j=i
       ·subst q;rw[hx]at hy;cases hy;rw[c];rfl
       ·exact wc j (by omega) y hy
      | false=>
       rw[c]at wL;have hf:w.find? (λx=>!(Aj H x).isSome)=some x:=nO wc hx (by rw[c];rfl);rw[hf]at hz;obtain⟨H',e4,e5⟩:=Aw hz;obtain⟨hl,-⟩:=MP e4;have dp:=SV (mo:=AE 2) (mi:=AE 6) (mv:=AE 3) (e:=e7 tN bits hN g sN (some (.ref wN)) (some (.int x))) (k:=x) (v:=g) rfl rfl rfl hh1 hl
       exact⟨.rt (.bl true),_,(G0 wL).trans ((qX rfl).trans ((Bv dp).trans rfl)),.inr ⟨x,hf,rfl,rfl⟩⟩)
    (by
     rintro e S' ⟨⟨z6,rfl⟩,rfl,wc⟩;rw[AF]at wc
     exact .inl ⟨⟨z6,rfl⟩,rfl,nN wc⟩)
   have run:∀{S':Sto} {d:D},Y4 W (G2 W n) (JE 7 [.ref tN,.int bits,.ref hN,.int g,.ref sN]) S=.ok (.rt d) S'->G2 W (n+1) [.ref tN,.int bits,.ref hN,.int g,.ref sN] S=.ok d S':=λh=>NW h
   rcases q2 with⟨⟨z6,rfl⟩,rfl,hf⟩ | ⟨x,hf,rfl,rfl⟩
   ·rw[hf]at hz
    dsimp only at hz
    obtain⟨f,S3,p1,p2⟩:=Nq (v:=Ff (.ref wN)) (g:=tgN 6) (b:=bS2 (G2 W n)) (xs:=w.map D.int) (e:=e7 tN bits hN g sN (some (.ref wN)) z6) (S:=S2)
     (λi e S'=>(∃z6,e=e7 tN bits hN g sN (some (.ref wN)) z6)/\S'[wN]?=some (oL D.int w)/\K2 hN sN S S'/\∃Hc Qc,S'[hN]?=some (oDK D.int Hc)/\S'[sN]?=some (oDK D.bl Qc)/\(∀x a,Aj Hc x=some a->0<=a/\a < ξ.length)/\Om (IZ (Tk ξ) bits n) g (w.drop i) Hc Qc=some z)
     (λf S'=>K2 hN sN S S'/\S'[hN]?=some (oDK D.int z.2.1)/\S'[sN]?=some (oDK D.bl z.2.2)/\((f=.rt (.bl true)/\z.1=true)∨((∃z6,f=.nx (e7 tN bits hN g sN (some (.ref wN)) z6))/\z.1=false)))
     ⟨⟨z6,rfl⟩,w4,k1,H,Q,hh1,yD,hG,hz⟩ (by rintro i e S' ⟨_,h,_⟩;exact De h)
     (by
      rintro i d e S' hd ⟨⟨z6,rfl⟩,a1,a2,Hc,Qc,a3,a4,a5,a6⟩;rw[Ab]at hd
      cases hx:w[i]? with
      | none=>rw[hx]at hd;cases hd
      | some x=>
       rw[hx]at hd;cases hd;obtain⟨hi,ex⟩:=AC.mp hx;rw[El hi,ex]at a6;unfold Om at a6;refine⟨e7 tN bits hN g sN (some (.ref wN)) (some (.int x)),S',rfl,?_⟩;have wL:mB (m2 (inA true) (AE 6) (AE 4)) (e7 tN bits hN g sN (some (.ref wN)) (some (.int x))) S'=.ok (!(Aj Qc x).isSome) S':=Uf (Dr rfl rfl (oi a4 x))
       cases c:(Aj Qc x).isSome with
       | true=>
        rw[c]at wL;rw[qX c]at a6;exact⟨_,S',(G0 wL).trans rfl,⟨_,rfl⟩,a1,a2,Hc,Qc,a3,a4,a5,a6⟩
       | false=>
        rw[c]at wL;rw[qY (by rw[c];exact AK)]at a6;obtain⟨Q1,b1,a7⟩:=Aw a6;obtain⟨g2,b2,a8⟩:=Aw a7;obtain⟨z2,b3,a9⟩:=Aw a8;obtain⟨hl,rfl⟩:=MP b1
        clear a6 a7 a8
        have dp:=SV (enc:=D.bl) (mo:=AE 4) (mi:=AE 6) (mv:=mC (.bl true)) (e:=e7 tN bits hN g sN (some (.ref wN)) (some (.int x))) (k:=x) (v:=true) rfl rfl rfl a4 hl;have hsl:=BW a4
        have c3:(S'.set sN (oDK D.bl (B9 Qc x true)))[hN]?=some (oDK D.int Hc):=by rw[Ac (Bs wd)];exact a3
        have c4:(S'.set sN (oDK D.bl (B9 Qc x true)))[sN]?=some (oDK D.bl (B9 Qc x true)):=Ap hsl
        have c5:(S'.set sN (oDK D.bl (B9 Qc x true)))[tN]?=some (oL (eT D.int) ξ):=by rw[Ac (Bs t2)];exact a2.at ht t1 t2
        have c1:(S'.set sN (oDK D.bl (B9 Qc x true)))[wN]?=some (oL D.int w):=by rw[Ac (Bs ws)];exact a1
        have c2:=a2.sets (oDK D.bl (B9 Qc x true));generalize S'.set sN (oDK D.bl (B9 Qc x true))=S4 at dp c1 c2 c3 c4 c5;obtain⟨r1,r2⟩:=ih Hc g2 (B9 Qc x true) z2 b3 (a5 x g2 b2) a5;obtain⟨S5,r3,r4,r5,r6⟩:=r2 S4 tN hN sN c5 c3 c4 wd;have arg:AO (AE 0) (AO (AE 1) (AO (AE 2) (AO (m2 ixA (AE 2) (AE 6)) (AO (AE 4) BO)))) (e7 tN bits hN g sN (some (.ref wN)) (some (.int x))) S4=.ok [.ref tN,.int bits,.ref hN,.int g2,.ref sN] S4:=Cz rfl (Cz rfl (Cz rfl (Cz (Dr (x:=.ref hN) (y:=.int x) rfl rfl (vJ c3 b2)) (Cz rfl rfl))))
        have yR:FX (CB 5 (G2 W n) (AO (AE 0) (AO (AE 1) (AO (AE 2) (AO (m2 ixA (AE 2) (AE 6)) (AO (AE 4) BO)))))) (e7 tN bits hN g sN (some (.ref wN)) (some (.int x))) S4=.ok z2.1 S5:=by
         unfold FX;rw[(Mn (n:=5) arg rfl).trans r3];rfl
        have d1:=r6.at c1 wh ws;have d2:=c2.trans r6
        cases hb2:z2.1 with
        | true=>
         rw[hb2]at yR;rw[qX hb2]at a9;obtain⟨H',e4,e5⟩:=Aw a9;obtain⟨xU,rfl⟩:=MP e4;cases e5;have dp2:=SV (mo:=AE 2) (mi:=AE 6) (mv:=AE 3) (e:=e7 tN bits hN g sN (some (.ref wN)) (some (.int x))) (k:=x) (v:=g) rfl rfl rfl r4 xU;refine⟨.rt (.bl true),_,(G0 wL).trans ((qX rfl).trans ((Bv dp).trans ((G0 yR).trans ((qX rfl).trans ((Bv dp2).trans rfl))))),d2.seth _,Ap (BW r4),?_,.inl ⟨rfl,rfl⟩⟩;rw[Ac wd];exact r5
        | false=>
         rw[hb2]at yR;rw[qY (by rw[hb2];exact AK)]at a9
         exact⟨_,S5,(G0 wL).trans ((qX rfl).trans ((Bv dp).trans ((G0 yR).trans rfl))),⟨_,rfl⟩,d1,d2,z2.2.1,z2.2.2,r4,r5,r1,a9⟩)
     (by
      rintro e S' ⟨⟨z6,rfl⟩,a1,a2,Hc,Qc,a3,a4,a5,a6⟩;rw[AF,NE (AL _)]at a6;unfold Om at a6;cases a6
      exact⟨a2,a3,a4,.inr ⟨⟨z6,rfl⟩,rfl⟩⟩)
    obtain⟨p3,p4,p5,p6⟩:=p2;have l1:=(LB (g:=tgN 6) (b:=bS1) (it none S2 w4)).trans q1;have l2:=(LB (g:=tgN 6) (b:=bS2 (G2 W n)) (it z6 S2 w4)).trans p1
    rcases p6 with⟨rfl,p6⟩ | ⟨⟨z7,rfl⟩,p6⟩
    ·rw[p6]
     exact⟨S3,run ((Bv s5).trans ((Bv l1).trans (Qn l2))),p4,p5,p3⟩
    ·rw[p6]
     exact⟨S3,run ((Bv s5).trans ((Bv l1).trans ((Bv l2).trans rfl))),p4,p5,p3⟩
   ·rw[hf]at hz
    obtain⟨H',e4,e5⟩:=Aw hz;obtain⟨hl,rfl⟩:=MP e4;cases e5;have l1:=(LB (g:=tgN 6) (b:=bS1) (it none S1 w4)).trans q1;refine⟨_,run ((Bv s5).trans (Qn l1)),Ap (BW hh1),?_,k1.seth _⟩;rw[Ac wd];exact yD
abbrev e5(tN:Nat)(gs:List Int)(bits:Int)(hN:Nat)(z:Option D):Lo:=[sR tN,some (eT D.int gs),sI bits,sR hN,z]
abbrev rP:MT:=FX (m2 RH (m2 YC (AE 2) (AE 4)) (mC (.int 1)))
theorem uG(h:m e S=.ok (.bl b) S1):FX m e S=.ok b S1:=by
 unfold FX;rw[h];rfl
theorem uF(h:m e S=.ok (.int i) S1):FX m e S=.ok (i != 0) S1:=by
 unfold FX;rw[h];rfl
theorem ja(h:0<=g):rP (e5 tN gs bits hN (some (.int g))) S=.ok (hb bits g) S:=by
 have h1:m2 YC (AE 2) (AE 4) (e5 tN gs bits hN (some (.int g))) S=.ok (.int (bits / 2 ^ g.toNat)) S:=Dr rfl rfl (qX h);exact uF (Dr (f:=RH) (mb:=mC (.int 1)) (y:=.int 1) h1 rfl rfl)
abbrev bF1:MS:=sIf rP (Cm (AE 3) (AE 4) (AE 4)) sNx
abbrev vA(W:Wd)(n:Nat):ME:=CB 5 (G2 W n) (AO (AE 0) (AO (AE 2) (AO (AE 3) (AO (AE 4) (AO Jz BO)))))
abbrev bF2(W:Wd)(n:Nat):MS:=sIf (P3 (OX rP) (OX (FX (vA W n)))) (CS (mC (.bl false))) sNx
theorem nM(W:Wd)(hT:∀t∈ξ,t.length<=1000/\∀x∈t,0<=x)(hg:∀g∈gs,0<=g/\g < ξ.length)(wc:Vv (Tk ξ) bits 9 gs=some b)(ht:S[tN]?=some (oL (eT D.int) ξ)) :
  ∃S',UQ W [.ref tN,eT D.int gs,.int bits] S=.ok (.bl b) S'/\Keeps S S':=by
 unfold Vv at wc;obtain⟨Hf,hs,hr⟩:=Aw wc;have s3:CN 3 Jz (JE 5 [.ref tN,eT D.int gs,.int bits]) S=.ok (.nx (e5 tN gs bits S.length none)) (S++[.dK []]):=rfl;have h0:(S++[Ob.dK []])[S.length]?=some (oDK D.int []):=Ep _ _;have k0:=Keeps.app S [.dK []];have tl:=BW ht;generalize S++[Ob.dK []]=S0 at s3 h0 k0
 obtain⟨f,S1,q1,⟨z1,rfl⟩,q2,q3,q4⟩:=Nq (v:=Gx (gs.map D.int)) (g:=tgN 4) (b:=bF1) (xs:=gs.map D.int) (e:=e5 tN gs bits S.length none) (S:=S0)
  (λi e S'=>(∃z,e=e5 tN gs bits S.length z)/\Keeps S S'/\∃Hc,S'[S.length]?=some (oDK D.int Hc)/\(∀x a,Aj Hc x=some a->0<=a/\a < ξ.length)/\TK bits (gs.drop i) Hc=some Hf)
  (λf S'=>(∃z,f=.nx (e5 tN gs bits S.length z))/\Keeps S S'/\S'[S.length]?=some (oDK D.int Hf)/\∀x a,Aj Hf x=some a->0<=a/\a < ξ.length)
  ⟨⟨none,rfl⟩,k0,[],h0,λx a e=>(nomatch e),hs⟩ (λ_ _ _ _=>rfl)
  (by
   rintro i d e S' hd ⟨⟨z,rfl⟩,a1,Hc,a2,a3,a4⟩;rw[Ab]at hd
   cases hx:gs[i]? with
   | none=>rw[hx]at hd;cases hd
   | some g=>
    rw[hx]at hd;cases hd;have ϓ:=hg g (Aq hx);obtain⟨hi,ex⟩:=AC.mp hx;rw[El hi,ex]at a4;unfold TK at a4;refine⟨e5 tN gs bits S.length (some (.int g)),S',rfl,?_⟩;have wL:=ja (tN:=tN) (hN:=S.length) (gs:=gs) (bits:=bits) (S:=S') ϓ.1
    cases c:hb bits g with
    | true=>
     rw[c]at wL;rw[qX c]at a4;obtain⟨H',e1,e2⟩:=Aw a4;obtain⟨hl,rfl⟩:=MP e1;have dp:=SV (mo:=AE 3) (mi:=AE 4) (mv:=AE 4) (e:=e5 tN gs bits S.length (some (.int g))) (k:=g) (v:=g) rfl rfl rfl a2 hl;refine⟨_,_,(G0 wL).trans ((qX rfl).trans dp),⟨_,rfl⟩,a1.set (AL _) _,_,Ap (BW a2),λx a e=>?_,e2⟩;rw[Cu]at e;split at e
     ·cases e;exact ϓ
     ·exact a3 x a e
    | false=>
     rw[c]at wL;rw[qY (by rw[c];exact AK)]at a4
     exact⟨_,S',(G0 wL).trans rfl,⟨_,rfl⟩,a1,Hc,a2,a3,a4⟩)
  (by
   rintro e S' ⟨⟨z,rfl⟩,a1,Hc,a2,a3,a4⟩;rw[AF,NE (AL _)]at a4;cases a4
   exact⟨⟨z,rfl⟩,a1,a2,a3⟩)
 obtain⟨f,S2,p1,p2,p3⟩:=Nq (v:=Gx (gs.map D.int)) (g:=tgN 4) (b:=bF2 W 9) (xs:=gs.map D.int) (e:=e5 tN gs bits S.length z1) (S:=S1)
  (λi e S'=>(∃z,e=e5 tN gs bits S.length z)/\Keeps S S'/\∃Hc,S'[S.length]?=some (oDK D.int Hc)/\(∀x a,Aj Hc x=some a->0<=a/\a < ξ.length)/\Ti (Tk ξ) bits 9 (gs.drop i) Hc=some b)
  (λf S'=>Keeps S S'/\((f=.rt (.bl false)/\b=false)∨((∃z,f=.nx (e5 tN gs bits S.length z))/\b=true)))
  ⟨⟨z1,rfl⟩,q2,Hf,q3,q4,hr⟩ (λ_ _ _ _=>rfl)
  (by
   rintro i d e S' hd ⟨⟨z,rfl⟩,a1,Hc,a2,a3,a4⟩;rw[Ab]at hd
   cases hx:gs[i]? with
   | none=>rw[hx]at hd;cases hd
   | some g=>
    rw[hx]at hd;cases hd;have ϓ:=hg g (Aq hx);obtain⟨hi,ex⟩:=AC.mp hx;rw[El hi,ex]at a4;unfold Ti at a4;refine⟨e5 tN gs bits S.length (some (.int g)),S',rfl,?_⟩;have wL:=ja (tN:=tN) (hN:=S.length) (gs:=gs) (bits:=bits) (S:=S') ϓ.1
    cases c:hb bits g with
    | true=>
     rw[c]at wL;rw[qX c]at a4;exact⟨_,S',(G0 (cK (PB wL))).trans rfl,⟨_,rfl⟩,a1,Hc,a2,a3,a4⟩
    | false=>
     rw[c]at wL;rw[qY (by rw[c];exact AK)]at a4;obtain⟨w,e1,e2⟩:=Aw a4
     clear a4
     have hl:=BW a2;have b0:(S'++[Ob.dK []])[S'.length]?=some (oDK D.bl []):=Ep _ _;have kk:=Keeps.app S' [.dK []];have arg:AO (AE 0) (AO (AE 2) (AO (AE 3) (AO (AE 4) (AO Jz BO)))) (e5 tN gs bits S.length (some (.int g))) S'=.ok [.ref tN,.int bits,.ref S.length,.int g,.ref S'.length] (S'++[.dK []]):=rfl;generalize S'++[Ob.dK []]=S4 at b0 kk arg;obtain⟨r1,r2⟩:=dB W (bits:=bits) hT 9 Hc g [] w e1 ϓ a3;obtain⟨S5,r3,r4,r5,r6⟩:=r2 S4 tN S.length S'.length (kk.at (a1.at ht)) (kk.at a2) b0 (by omega);have yR:FX (vA W 9) (e5 tN gs bits S.length (some (.int g))) S'=.ok w.1 S5:=uG ((Mn (n:=5) arg rfl).trans r3)
     have kS:Keeps S S5:=⟨Am (Am a1.1 kk.1) r6.1,λj hj=>by
      have h4:j < S4.length:=AV hj (Am a1.1 kk.1)
      rw[r6.2 j h4 (by omega) (by have:=a1.1;omega),kk.2 j (AV hj a1.1),a1.2 j hj]⟩
     cases hw:w.1 with
     | true=>
      rw[hw]at yR;rw[qX hw]at e2;exact⟨_,S5,(G0 ((XT (PB wL)).trans (PB yR))).trans rfl,⟨_,rfl⟩,kS,w.2.1,r4,r1,e2⟩
     | false=>
      rw[hw]at yR;rw[qY (by rw[hw];exact AK)]at e2;cases e2
      exact⟨.rt (.bl false),S5,(G0 ((XT (PB wL)).trans (PB yR))).trans rfl,kS,.inl ⟨rfl,rfl⟩⟩)
  (by
   rintro e S' ⟨⟨z,rfl⟩,a1,Hc,a2,a3,a4⟩;rw[AF,NE (AL _)]at a4;cases a4
   exact⟨a1,.inr ⟨⟨z,rfl⟩,rfl⟩⟩)
 have it:∀z S',EE (AE 1) (e5 tN gs bits S.length z) S'=.ok (Gx (gs.map D.int)) S':=λz S'=>UJ (xs:=gs.map D.int) rfl
 have l1:=(LB (g:=tgN 4) (b:=bF1) (it none S0)).trans q1;have l2:=(LB (g:=tgN 4) (b:=bF2 W 9) (it z1 S1)).trans p1;refine⟨S2,NW (n:=5) (mb:=aX W) ?_,p2⟩;unfold aX
 rcases p3 with⟨rfl,rfl⟩ | ⟨⟨z,rfl⟩,rfl⟩
 ·exact(Bv s3).trans ((Bv l1).trans (Qn l2))
 ·exact(Bv s3).trans ((Bv l1).trans ((Bv l2).trans rfl))
open Classical in
def Qu(ξ:List (List Int))(gs:List Int)(bits:Int):Option Bool:=if (∀t∈ξ,t.length<=1000/\∀x∈t,0<=x)/\∀g∈gs,0<=g/\g < ξ.length then Vv (Tk ξ) bits 9 gs else none
theorem gF(W:Wd)(ξ:List (List Int))(gs:List Int)(bits:Int):VF (UQ W) [.z (oL (eT D.int) ξ),.v (eT D.int gs),.v (D.int bits)] (rV D.bl) (Qu ξ gs bits):=λv hv S ds ha=>by
 unfold Qu at hv;split at hv
 ·rename_i hc
  match ds,ha with
  | [d1,d2,d3],⟨⟨n,h1,h2⟩,h3,h4,_⟩=>
   cases h1;cases h3;cases h4;obtain⟨S',h5,h6⟩:=nM W hc.1 hc.2 hv h2;exact⟨_,S',h5,h6,rfl⟩
 ·cases hv
def Hg(BG:(List Int))(jq:Int):Option (Fw Int Unit):=
 BD (if (decide (jq < (BG.length:Int)))=true then(atI BG jq).bind λx6=>some (.rt x6)else some (.nx ())) λ_=>some (.rt (0:Int))
def Cd(BG:(List Int))(jq:Int):Option Int:=FW (Hg BG jq)
theorem HV(W:Wd)(BG:(List Int))(jq:Int):VF (E3 W) [.v (eF BG),.v (D.int jq)] (rV D.int) (Cd BG jq):=by
 refine EC (n:=2) (b:=KB W) (p:=Hg BG jq) (B:=λ_=>[]) ?_;show VS [.v (eF BG),.v (D.int jq)] _ _ _ _;unfold KB Hg;exact(Az (Ey (B:=(λ(_:Unit)=>[.v (eF BG),.v (D.int jq)])) (FC (ff (AH rfl) (bG (AH rfl)))) (DO (fj (AH rfl) (AH rfl))) (Ex (.refl _))) (λ_=>(DO (CO rfl))))
def MN(Ai:Int):Option (Fw (List (Int×Int)) Unit):=
 BD (((some []).bind KP).bind λx2=>some (.nx x2)) λv1=>BD (((some Ai).bind O5).bind λl20=>EV l20 v1 λ(s3:(List (Int×Int))) x4=>EA (λyt=>yt) ((Zy (x4+(1:Int)) Ai).bind λl17=>EV l17 s3 λ(xY:(List (Int×Int))) x11=>EA (λCs=>Cs) ((RG xY (x4,x11)).bind λl14=>some (.nx l14)))) λxO=>some (.rt xO)
def Hk(Ai:Int):Option (List (Int×Int)):=FW (MN Ai)
theorem Po(W:Wd)(Ai:Int):VF (Ja W) [.v (D.int Ai)] (rN (oL (eP D.int D.int))) (Hk Ai):=by
 refine EC (n:=4) (b:=Mr W) (p:=MN Ai) (B:=λ_=>[]) ?_;show VS [.v (D.int Ai),.u,.u,.u] _ _ _ _;unfold Mr MN;exact(Az (G7 (Ct (F9 HQ))) (λv1=>(Az (EJ (s0:=v1) (B:=(λ(s22:(List (Int×Int)))=>[.v (D.int Ai),.w 1 ((oL (eP D.int D.int)) s22),.u,.u])) (Ez (AH rfl)) D8 (.refl _) (λs3 x4=>(Cr (EJ (s0:=s3) (B:=(λ(s19:(List (Int×Int)))=>[.v (D.int Ai),.w 1 ((oL (eP D.int D.int)) s19),.v (D.int x4),.u])) (OH (HU (AH rfl) (CO rfl)) (AH rfl)) D8 (.refl _) (λxY x11=>(Cr (Sr rfl (JT (AH rfl) (AH rfl)) rfl) (λCs=>(.same (.same (.same (.drop .nil)))))))) (λyt=>(.same (.same (.drop (.same .nil)))))))) (λxO=>(SE rfl)))))
def He(Ai:Int)(FF:Int):Option (Fw (List (Int×Int)) Unit):=
 BD (if (decide (FF=(1:Int)))=true then(((some (Ai - (1:Int))).bind O5).bind λl12=>EO l12 (λx6=>some true) (λx6=>some (x6,(x6+(1:Int))))).bind λyS=>some (.rt yS)else some (.nx ())) λ_=>BD (if (decide (FF=(2:Int)))=true then((((some (Ai - (1:Int))).bind O5).bind λl28=>EO l28 (λxP=>some true) (λxP=>some (xP,(xP+(1:Int))))).bind λxZ=>((some (((0:Int),(Ai - (1:Int))) :: [])).bind KP).bind λzL=>Yv xZ zL).bind λϔ=>some (.rt ϔ)else some (.nx ())) λ_=>BD (if (decide (FF=(3:Int)))=true then(Hk Ai).bind λx47=>some (.rt x47)else some (.nx ())) λ_=>BD (if (decide (FF=(4:Int)))=true then((Zy (1:Int) Ai).bind λl58=>EO l58 (λD'=>some true) (λD'=>some ((0:Int),D'))).bind λx59=>some (.rt x59)else some (.nx ())) λ_=>((some []).bind KP).bind λx63=>some (.rt x63)
def Ef(Ai:Int)(FF:Int):Option (List (Int×Int)):=FW (He Ai FF)
theorem Pp(W:Wd)(Ai:Int)(FF:Int):VF (Hu W) [.v (D.int Ai),.v (D.int FF)] (rN (oL (eP D.int D.int))) (Ef Ai FF):=by
 refine EC (n:=2) (b:=Hz W) (p:=He Ai FF) (B:=λ_=>[]) ?_;show VS [.v (D.int Ai),.v (D.int FF)] _ _ _ _;unfold Hz He;exact(Az (Ey (B:=(λ(_:Unit)=>[.v (D.int Ai),.v (D.int FF)])) (FC (Ji DS Hm (AH rfl) (CO rfl))) (G8 (Ct (DD (VI.k (Ez (L6 (AH rfl) (CO rfl)))) (λx6=>Ga) (λx6=>(JT (AH rfl) (HU (AH rfl) (CO rfl))))))) (Ex (.refl _))) (λ_=>(Az (Ey (B:=(λ(_:Unit)=>[.v (D.int Ai),.v (D.int FF)])) (FC (Ji DS Hm (AH rfl) (CO rfl))) (G8 (kt (JN (Ct (DD (VI.k (Ez (L6 (AH rfl) (CO rfl)))) (λxP=>Ga) (λxP=>(JT (AH rfl) (HU (AH rfl) (CO rfl))))))) (JN (Ct (F9 (OG (JT (CO rfl) (L6 (AH rfl) (CO rfl))) HQ)))))) (Ex (.refl _))) (λ_=>(Az (Ey (B:=(λ(_:Unit)=>[.v (D.int Ai),.v (D.int FF)])) (FC (Ji DS Hm (AH rfl) (CO rfl))) (G8 (Bo (CQ (AH rfl) Bq) (λz46=>Po W z46.1) (λ_=>rfl) JO)) (Ex (.refl _))) (λ_=>(Az (Ey (B:=(λ(_:Unit)=>[.v (D.int Ai),.v (D.int FF)])) (FC (Ji DS Hm (AH rfl) (CO rfl))) (G8 (Ct (DD (VI.k (OH (CO rfl) (AH rfl))) (λD'=>Ga) (λD'=>(JT (CO rfl) (AH rfl)))))) (Ex (.refl _))) (λ_=>(G8 (Ct (F9 HQ)))))))))))
def Kb(BG:(List Int))(Io:Int)(Ai:Int):Option (Fw (List (Int×Int)) Unit):=
 BD ((Hk Ai).bind λx5=>some (.nx x5)) λv1=>BD (some (.nx [])) λv6=>BD (((((((Cd BG (0:Int)).bind λyS=>some (yS / 7)).bind λx14=>some (x14 % 6)).bind λϕ=>some (ϕ,())).bind λϗ=>some (Ai,ϗ)).bind λxj=>Ef xj.1 xj.2.1).bind λl26=>EV l26 v6 λ(wO:(List ((Int×Int)×Bool))) y8=>EA (λv22=>v22) ((HD wO y8 true).bind λl25=>some (.nx l25))) λs27=>BD ((((some (BG.length:Int)).bind λyd=>some (if (63:Int) < yd then(63:Int)else yd)).bind λzM=>Zy Io zM).bind λl55=>EV l55 s27 λ(yF:(List ((Int×Int)×Bool))) yG=>BD ((((atI BG yG).bind λϘ=>Z8 Ϙ (v1.length:Int)).bind λϙ=>atI v1 ϙ).bind λϚ=>some (.nx Ϛ)) λzi=>EA (λv51=>v51) ((if (!(Aj yF zi).isSome)=true then some true else(Aj yF zi).bind λϛ=>some (!ϛ)).bind λx52=>(HD yF zi x52).bind λl54=>some (.nx l54))) λs56=>(EO v1 (λxQ=>if ((Aj s56 xQ).isSome)=true then Aj s56 xQ else some false) (λxQ=>some xQ)).bind λx65=>some (.rt x65)
def Iu(BG:(List Int))(Io:Int)(Ai:Int):Option (List (Int×Int)):=FW (Kb BG Io Ai)
theorem X5(W:Wd)(BG:(List Int))(Io:Int)(Ai:Int):VF (Nu W) [.v (eF BG),.v (D.int Io),.v (D.int Ai)] (rN (oL (eP D.int D.int))) (Iu BG Io Ai):=by
 refine EC (n:=7) (b:=N6 W) (p:=Kb BG Io Ai) (B:=λ_=>[]) ?_;show VS [.v (eF BG),.v (D.int Io),.v (D.int Ai),.u,.u,.u,.u] _ _ _ _;unfold N6 Kb;exact(Az (KS (Bo (CQ (AH rfl) Bq) (λz4=>Po W z4.1) (λ_=>rfl) JO)) (λv1=>(Az (G7 fy) (λv6=>(Az (EJ (s0:=v6) (B:=(λ(s28:(List ((Int×Int)×Bool)))=>[.v (eF BG),.v (D.int Io),.v (D.int Ai),.y ((oL (eP D.int D.int)) v1),.w 4 ((oDP D.bl) s28),.u,.u])) (Ou (Bo (CQ (AH rfl) (CQ (Pk rfl (Pl rfl (Bo (CQ (AH rfl) (CQ (CO rfl) Bq)) (λz12=>HV W z12.1 z12.2.1) (λ_=>rfl) EZ))) Bq)) (λxj=>Pp W xj.1 xj.2.1) (λ_=>rfl) JO)) D8 (.refl _) (λwO y8=>(Cr (Xt rfl (AH rfl) (CO rfl) rfl) (λv22=>(.same (.same (.same (.same (.same (.drop (.same .nil))))))))))) (λs27=>(Az (EJ (s0:=s27) (B:=(λ(s57:(List ((Int×Int)×Bool)))=>[.v (eF BG),.v (D.int Io),.v (D.int Ai),.y ((oL (eP D.int D.int)) v1),.w 4 ((oDP D.bl) s57),.u,.u])) (OH (AH rfl) (kh (bG (AH rfl)) (CO rfl))) D8 (.refl _) (λyF yG=>(Az (Dd (Gi (Di rfl) (Zb (fj (AH rfl) (AH rfl)) (L7 (Di rfl))))) (λzi=>(Cr (Xt rfl (AH rfl) (fZ (fv (AH rfl) (HR rfl)) (kc (X0 (HR rfl) (AH rfl)))) rfl) (λv51=>(.same (.same (.same (.same (.same (.drop (.drop .nil))))))))))))) (λs56=>(G8 (Ct (DD (VI.k (bE rfl)) (λxQ=>(WW (FC (kn (AH rfl) (HR rfl))) (Sz (X0 (HR rfl) (AH rfl))))) (λxQ=>(AH rfl)))))))))))))
def Ie(BG:(List Int))(Bj:(List (Int×Int))):Option (Fw (List (Int×Int)) Unit):=
 BD (((((Cd BG (0:Int)).bind λx8=>some (x8 / 42)).bind λx9=>some (x9 % 2)).bind λx1=>some (decide (x1=(0:Int)))).bind λx11=>if x11=true then some (.rt Bj)else some (.nx ())) λ_=>(EO Bj.reverse (λxy=>some true) (λxy=>some (xy.2,xy.1))).bind λy8=>some (.rt y8)
def Ii(BG:(List Int))(Bj:(List (Int×Int))):Option (List (Int×Int)):=FW (Ie BG Bj)
theorem Us(W:Wd)(BG:(List Int))(Bj:(List (Int×Int))):VF (LD W) [.v (eF BG),.z ((oL (eP D.int D.int)) Bj)] (rN (oL (eP D.int D.int))) (Ii BG Bj):=by
 refine EC (n:=2) (b:=LN W) (p:=Ie BG Bj) (B:=λ_=>[]) ?_;show VS [.v (eF BG),.z ((oL (eP D.int D.int)) Bj)] _ _ _ _;unfold LN Ie;exact(Az (Ey (B:=(λ(_:Unit)=>[.v (eF BG),.z ((oL (eP D.int D.int)) Bj)])) (FC (Ji DS Hm (Pk rfl (Pl rfl (Bo (CQ (AH rfl) (CQ (CO rfl) Bq)) (λz7=>HV W z7.1 z7.2.1) (λ_=>rfl) EZ))) (CO rfl))) (G8 (Ct (kX (kW (DF rfl))))) (Ex (.refl _))) (λ_=>(G8 (Ct (DD (fV (DF rfl)) (λxy=>Ga) (λxy=>(JT (Za (AH rfl)) (WT (AH rfl)))))))))
def Kc(Bj:(List (Int×Int)))(Be:Int):Option (Fw (List Int) Unit):=
 BD (((some []).bind KP).bind λx2=>some (.nx x2)) λv1=>BD (EV Bj v1 λ(s3:(List Int)) x4=>EA (λzN=>zN) (if (decide (Be∈[x4.1,x4.2]))=true then EA (λv7=>v7) ((RG s3 ((x4.1+x4.2) - Be)).bind λl9=>some (.nx l9))else some (.nx s3))) λwO=>(QH wO (CI wO)).bind λx23=>some (.rt x23)
def Kf(Bj:(List (Int×Int)))(Be:Int):Option (List Int):=FW (Kc Bj Be)
theorem X6(W:Wd)(Bj:(List (Int×Int)))(Be:Int):VF (Nv W) [.z ((oL (eP D.int D.int)) Bj),.v (D.int Be)] (rN (oL D.int)) (Kf Bj Be):=by
 refine EC (n:=4) (b:=N7 W) (p:=Kc Bj Be) (B:=λ_=>[]) ?_;show VS [.z ((oL (eP D.int D.int)) Bj),.v (D.int Be),.u,.u] _ _ _ _;unfold N7 Kc;exact(Az (G7 (Ct (F9 HQ))) (λv1=>(Az (EJ (s0:=v1) (B:=(λ(xO:(List Int))=>[.z ((oL (eP D.int D.int)) Bj),.v (D.int Be),.w 2 ((oL D.int) xO),.u])) (WP rfl) D8 (.refl _) (λs3 x4=>(Cr (Ey (B:=(λ(yt:(List Int))=>[.z ((oL (eP D.int D.int)) Bj),.v (D.int Be),.w 2 ((oL D.int) yt),.v ((eP D.int D.int) x4)])) (FC (pZ DS (AH rfl) (AH rfl))) (Cr (Sr rfl (L6 (HU (WT (AH rfl)) (Za (AH rfl))) (AH rfl)) rfl) (λv7=>(.refl _))) (Ex (.refl _))) (λzN=>(.same (.same (.same (.drop .nil)))))))) (λwO=>(G8 (fY (HR rfl)))))))
def Fh(Br:(Nat×List (Int×Int)))(Be:Int):Option (Fw Unit Unit):=
 ((if decide ((0:Int)<=Be)=true then some (decide (Be < (Br.1:Int)))else some false).bind λx5=>some (!x5)).bind λx6=>if x6=true then none else some (.nx ())
def Hi(Br:(Nat×List (Int×Int)))(Be:Int):Option Unit:=mM (Fh Br Be)
theorem Pn(W:Wd)(Br:(Nat×List (Int×Int)))(Be:Int):VF (Hr W) [.z ((Hl W) Br),.v (D.int Be)] (rV eU) (Hi Br Be):=by
 refine pR (n:=2) (b:=Hy W) (p:=Fh Br Be) (B:=λ_=>[.z ((Hl W) Br),.v (D.int Be)]) ?_;show VS [.z ((Hl W) Br),.v (D.int Be)] _ _ _ _;unfold Hy Fh;exact(Ey (B:=(λ(_:Unit)=>[.z ((Hl W) Br),.v (D.int Be)])) (Ox (FC (X1 jV vb (CO rfl) (AH rfl) (Je (DF rfl))))) ZX (Ex (.refl _)))
def Wn(Br:(Nat×List (Int×Int)))(Be:Int):Option (Fw (List Int) Unit):=
 BD ((Hi Br Be).bind λ_=>some (.nx ())) λ_=>(atI (Qy Br.1 Br.2) Be).bind λx9=>some (.rt x9)
def Wq(Br:(Nat×List (Int×Int)))(Be:Int):Option (List Int):=FW (Wn Br Be)
theorem pq(W:Wd)(Br:(Nat×List (Int×Int)))(Be:Int):VF (aP W) [.z ((Hl W) Br),.v (D.int Be)] (rV (eT D.int)) (Wq Br Be):=by
 refine EC (n:=2) (b:=aW W) (p:=Wn Br Be) (B:=λ_=>[]) ?_;show VS [.z ((Hl W) Br),.v (D.int Be)] _ _ _ _;unfold aW Wn;exact(Az (kU (Bo (Jj (DF rfl) (CQ (AH rfl) Bq)) (λz5=>Pn W z5.1 z5.2.1) (λ_=>rfl) EZ)) (λ_=>(DO (Ow (kb (DF rfl)) (AH rfl)))))
def MM(Br:(Nat×List (Int×Int))):Option (Fw (List (List Int)) Unit):=
 (((some (Br.1:Int)).bind O5).bind λl18=>EO l18 (λx2=>some true) (λx2=>(((some (x2 :: [])).bind KP).bind λxy=>(Wq Br x2).bind λϕ=>Yv xy ϕ).bind λye=>QH ye (CI ye))).bind λxo=>some (.rt xo)
def MR(Br:(Nat×List (Int×Int))):Option (List (List Int)):=FW (MM Br)
theorem Zc(W:Wd)(Br:(Nat×List (Int×Int))):VF (Mf W) [.z ((Hl W) Br)] (rN (oL (eT D.int))) (MR Br):=by
 refine EC (n:=1) (b:=PL W) (p:=MM Br) (B:=λ_=>[]) ?_;show VS [.z ((Hl W) Br)] _ _ _ _;unfold PL MM;exact(G8 (Ct (DD (VI.k (Ez (Je (DF rfl)))) (λx2=>Ga) (λx2=>(IM (JN (Qg (bK (ZZ (OG (AH rfl) HQ)) (Bo (Jj (DF rfl) (CQ (AH rfl) Bq)) (λy9=>pq W y9.1 y9.2.1) (λ_=>rfl) EZ)))))))))
def OO(Ms:(List Int)):Option (Fw Int Unit):=
 BD (some (.nx (0:Int))) λv1=>BD (EV Ms v1 λ(s3:Int) x4=>EA (λv7=>v7) ((Oz (1:Int) x4).bind λx8=>some (.nx (Cg s3 x8)))) λxY=>some (.rt xY)
def HF(Ms:(List Int)):Option Int:=FW (OO Ms)
theorem cj(W:Wd)(Ms:(List Int)):VF (Q5 W) [.v ((eT D.int) Ms)] (rV D.int) (HF Ms):=by
 refine EC (n:=3) (b:=RF W) (p:=OO Ms) (B:=λ_=>[]) ?_;show VS [.v ((eT D.int) Ms),.u,.u] _ _ _ _;unfold RF OO;exact(Az (Dd (CO rfl)) (λv1=>(Az (EJ (s0:=v1) (B:=(λ(zO:Int)=>[.v ((eT D.int) Ms),.v (D.int zO),.u])) (NM (AH rfl)) D8 (.refl _) (λs3 x4=>(Cr (Qe rfl (Ov (CO rfl) (AH rfl))) (λv7=>(.same (.same (.drop .nil))))))) (λxY=>(DO (AH rfl))))))
def ON(Mt:Int):Option (Fw (List Int) Unit):=
 BD (((some []).bind KP).bind λx2=>some (.nx x2)) λv1=>BD (some (.nx Mt)) λv3=>BD (whF (λ(s5:(List Int)×Int)=>some (s5.2 != 0)) (λ(s5:(List Int)×Int)=>BD ((RG s5.1 ((Du (BH s5.2 (-s5.2)):Int) - (1:Int))).bind λzP=>some (.nx zP)) λv8=>EA (λv21=>(v8,v21)) (some (.nx (BH s5.2 (s5.2 - (1:Int)))))) wN (v1,v3)) λs6=>some (.rt s6.1)
def IT(Mt:Int):Option (List Int):=FW (ON Mt)
theorem OJ(W:Wd)(Mt:Int):VF (Jg W) [.v (D.int Mt)] (rN (oL D.int)) (IT Mt):=by
 refine EC (n:=3) (b:=RE W) (p:=ON Mt) (B:=λ_=>[]) ?_;show VS [.v (D.int Mt),.u,.u] _ _ _ _;unfold RE ON;exact(Az (G7 (Ct (F9 HQ))) (λv1=>(Az (Dd (AH rfl)) (λv3=>(Az (Sq (s0:=(v1,v3)) (B:=(λ(xA:(List Int)×Int)=>[.v (D.int Mt),.w 1 ((oL D.int) xA.1),.v (D.int xA.2)])) (.refl _) (λs5=>(WV (AH rfl))) (λs5=>(Az (Sr rfl (L6 (kx (OI (AH rfl) (fb (AH rfl)))) (CO rfl)) rfl) (λv8=>(Cr (Qe rfl (L6 (AH rfl) (CO rfl))) (λv21=>(.refl _))))))) (λs6=>(SE rfl)))))))
def Ka(Bk:(List Int))(Dx:Int)(Be:Int):Option (Fw (List Int) Unit):=
 (EO Bk (λx1=>some true) (λx1=>if (decide (x1=Dx))=true then some Be else some x1)).bind λx6=>some (.rt x6)
def Ke(Bk:(List Int))(Dx:Int)(Be:Int):Option (List Int):=FW (Ka Bk Dx Be)
theorem X3(W:Wd)(Bk:(List Int))(Dx:Int)(Be:Int):VF (Nt W) [.v ((eT D.int) Bk),.v (D.int Dx),.v (D.int Be)] (rV (eT D.int)) (Ke Bk Dx Be):=by
 refine EC (n:=3) (b:=N3 W) (p:=Ka Bk Dx Be) (B:=λ_=>[]) ?_;show VS [.v ((eT D.int) Bk),.v (D.int Dx),.v (D.int Be)] _ _ _ _;unfold N3 Ka;exact(DO (IM (JN (Ct (DD (VI.k (NM (AH rfl))) (λx1=>Ga) (λx1=>(WS (FC (Ji DS Hm (AH rfl) (AH rfl))) (AH rfl) (AH rfl) EZ)))))))
def Qr(Ai:Int)(Eb:Int):Option (Fw (List (List Int)) Unit):=
 BD (((((some []).bind KP).bind λx2=>some (x2 :: [])).bind KP).bind λx4=>some (.nx x4)) λv1=>BD (((some Eb).bind O5).bind λl46=>EV l46 v1 λ(s5:(List (List Int))) x6=>BD (((some []).bind KP).bind λx8=>some (.nx x8)) λv7=>BD (EV s5 v7 λ(s9:(List (List Int))) wM=>BD ((if (!wM.isEmpty)=true then(atI wM (-(1:Int))).bind λye=>some (ye+(1:Int))else some (0:Int)).bind λxB=>some (.nx xB)) λv11=>EA (λs40=>s40) ((Zy v11 (((Ai - Eb)+x6)+(1:Int))).bind λl39=>EV l39 s9 λ(zj:(List (List Int))) Ϝ=>EA (λϝ=>ϝ) ((((some (Ϝ :: [])).bind KP).bind λϔ=>Yv wM ϔ).bind λzM=>(RG zj zM).bind λϞ=>some (.nx Ϟ)))) λϟ=>EA (λ_=>ϟ) (some (.nx ()))) λs47=>some (.rt s47)
def Qt(Ai:Int)(Eb:Int):Option (List (List Int)):=FW (Qr Ai Eb)
theorem ci(W:Wd)(Ai:Int)(Eb:Int):VF (Q4 W) [.v (D.int Ai),.v (D.int Eb)] (rN (oL (eT D.int))) (Qt Ai Eb):=by
 refine EC (n:=8) (b:=RD W) (p:=Qr Ai Eb) (B:=λ_=>[]) ?_;show VS [.v (D.int Ai),.v (D.int Eb),.u,.u,.u,.u,.u,.u] _ _ _ _;unfold RD Qr;exact(Az (KS (Ct (F9 (OG (ZZ HQ) HQ)))) (λv1=>(Az (EJ (s0:=v1) (B:=(λ(s48:(List (List Int)))=>[.v (D.int Ai),.v (D.int Eb),.y ((oL (eT D.int)) s48),.u,.u,.u,.u,.u])) (Ez (AH rfl)) D8 (.refl _) (λs5 x6=>(Az (G7 (Ct (F9 HQ))) (λv7=>(Az (EJ (s0:=v7) (B:=(λ(s44:(List (List Int)))=>[.v (D.int Ai),.v (D.int Eb),.y ((oL (eT D.int)) s5),.v (D.int x6),.w 4 ((oL (eT D.int)) s44),.u,.u,.u])) (bE rfl) D8 (.refl _) (λs9 wM=>(Az (Dd (WS (kz (AH rfl)) (HU (Ow (AH rfl) (fb (CO rfl))) (CO rfl)) (CO rfl) EZ)) (λv11=>(Cr (EJ (s0:=s9) (B:=(λ(s41:(List (List Int)))=>[.v (D.int Ai),.v (D.int Eb),.y ((oL (eT D.int)) s5),.v (D.int x6),.w 4 ((oL (eT D.int)) s41),.v ((eT D.int) wM),.v (D.int v11),.u])) (OH (AH rfl) (HU (HU (L6 (AH rfl) (AH rfl)) (AH rfl)) (CO rfl))) D8 (.refl _) (λzj Ϝ=>(Cr (Sr rfl (bK (AH rfl) (ZZ (OG (AH rfl) HQ))) rfl) (λϝ=>(.same (.same (.same (.same (.same (.same (.same (.drop .nil)))))))))))) (λs40=>(.same (.same (.same (.same (.same (.drop (.drop (.same .nil)))))))))))))) (λϟ=>(Cr (pO 4 rfl rfl (cc rfl)) (λ_=>(.same (.same (.same (.drop (.drop (.same (.same (.same .nil)))))))))))))))) (λs47=>(kJ rfl)))))
def IR(Ai:Int)(Eb:Int):Option (Fw Int Unit):=
 BD (some (.nx (1:Int))) λv1=>BD (((some Eb).bind O5).bind λl16=>EV l16 v1 λ(s3:Int) x4=>EA (λv5=>v5) (((rL s3 (Ai - x4)).bind λyS=>jC yS (x4+(1:Int))).bind λxy=>some (.nx xy))) λzN=>some (.rt zN)
def Ld(Ai:Int)(Eb:Int):Option Int:=FW (IR Ai Eb)
theorem Qh(W:Wd)(Ai:Int)(Eb:Int):VF (IV W) [.v (D.int Ai),.v (D.int Eb)] (rV D.int) (Ld Ai Eb):=by
 refine EC (n:=4) (b:=IW W) (p:=IR Ai Eb) (B:=λ_=>[]) ?_;show VS [.v (D.int Ai),.v (D.int Eb),.u,.u] _ _ _ _;unfold IW IR;exact(Az (Dd (CO rfl)) (λv1=>(Az (EJ (s0:=v1) (B:=(λ(yt:Int)=>[.v (D.int Ai),.v (D.int Eb),.v (D.int yt),.u])) (Ez (AH rfl)) D8 (.refl _) (λs3 x4=>(Cr (Dd (kj (pV (AH rfl) (L6 (AH rfl) (AH rfl))) (HU (AH rfl) (CO rfl)))) (λv5=>(.same (.same (.same (.drop .nil)))))))) (λzN=>(DO (AH rfl))))))
def O7(Br:(Nat×List (Int×Int)))(BP:Int):Option (Fw Int Unit):=
 BD (((if decide ((1:Int)<=BP)=true then some (decide (BP<=(Br.1:Int)))else some false).bind λx5=>some (!x5)).bind λx6=>if x6=true then none else some (.nx ())) λ_=>(Ld (Br.1:Int) BP).bind λxy=>some (.rt xy)
def Tn(Br:(Nat×List (Int×Int)))(BP:Int):Option Int:=FW (O7 Br BP)
theorem Zd(W:Wd)(Br:(Nat×List (Int×Int)))(BP:Int):VF (PK W) [.z ((Hl W) Br),.v (D.int BP)] (rV D.int) (Tn Br BP):=by
 refine EC (n:=2) (b:=PM W) (p:=O7 Br BP) (B:=λ_=>[]) ?_;show VS [.z ((Hl W) Br),.v (D.int BP)] _ _ _ _;unfold PM O7;exact(Az (Ey (B:=(λ(_:Unit)=>[.z ((Hl W) Br),.v (D.int BP)])) (Ox (FC (X1 jV jV (CO rfl) (AH rfl) (Je (DF rfl))))) ZX (Ex (.refl _))) (λ_=>(DO (Bo (CQ (Je (DF rfl)) (CQ (AH rfl) Bq)) (λy9=>Qh W y9.1 y9.2.1) (λ_=>rfl) EZ))))
def NX(Br:(Nat×List (Int×Int)))(BP:Int):Option (Fw (List (List Int)) Unit):=
 BD (((Tn Br BP).bind λx1=>some (decide ((400:Int) < x1))).bind λx8=>if x8=true then none else some (.nx ())) λ_=>(Qt (Br.1:Int) BP).bind λye=>some (.rt ye)
def GD(Br:(Nat×List (Int×Int)))(BP:Int):Option (List (List Int)):=FW (NX Br BP)
theorem X4(W:Wd)(Br:(Nat×List (Int×Int)))(BP:Int):VF (Km W) [.z ((Hl W) Br),.v (D.int BP)] (rN (oL (eT D.int))) (GD Br BP):=by
 refine EC (n:=2) (b:=N4 W) (p:=NX Br BP) (B:=λ_=>[]) ?_;show VS [.z ((Hl W) Br),.v (D.int BP)] _ _ _ _;unfold N4 NX;exact(Az (Ey (B:=(λ(_:Unit)=>[.z ((Hl W) Br),.v (D.int BP)])) (FC (uB (Bo (Jj (DF rfl) (CQ (AH rfl) Bq)) (λz7=>Zd W z7.1 z7.2.1) (λ_=>rfl) EZ) (CO rfl))) ZX (Ex (.refl _))) (λ_=>(G8 (Bo (CQ (Je (DF rfl)) (CQ (AH rfl) Bq)) (λG'=>ci W G'.1 G'.2.1) (λ_=>rfl) JO))))
def JV(DZ:(List (List Int)))(Dx:Int)(KG:(List Int))(Bg:(List Int)):Option (Fw (Option (Int×(List Int))) Unit):=
 BD ((atI DZ Dx).bind λl40=>EV l40 () λ(_:Unit) x4=>BD ((Oz (1:Int) x4).bind λx8=>some (.nx x8)) λv5=>BD ((EO Bg (λwM=>some ((BH wM v5) != 0)) (λwM=>some (CD wM v5))).bind λye=>some (.nx ye)) λv9=>EA (λ_=>()) (EV (DJ v9) () λ(_:Unit) xB=>EA (λ_=>()) ((Qu DZ KG xB.2).bind λx34=>if x34=true then some (.rt (some (x4,(HE v9 (some xB.1) none))))else some (.nx ())))) λ_=>some (.rt none)
def JX(DZ:(List (List Int)))(Dx:Int)(KG:(List Int))(Bg:(List Int)):Option (Option (Int×(List Int))):=FW (JV DZ Dx KG Bg)
theorem WY(W:Wd)(DZ:(List (List Int)))(Dx:Int)(KG:(List Int))(Bg:(List Int)):VF (Mh W) [.z ((oL (eT D.int)) DZ),.v (D.int Dx),.v ((eT D.int) KG),.z ((oL D.int) Bg)] (rOP D.int (oL D.int)) (JX DZ Dx KG Bg):=by
 refine EC (n:=9) (b:=Mp W) (p:=JV DZ Dx KG Bg) (B:=λ_=>[]) ?_;show VS [.z ((oL (eT D.int)) DZ),.v (D.int Dx),.v ((eT D.int) KG),.z ((oL D.int) Bg),.u,.u,.u,.u,.u] _ _ _ _;unfold Mp JV;exact(Az (EJ (s0:=()) (B:=(λ(_:Unit)=>[.z ((oL (eT D.int)) DZ),.v (D.int Dx),.v ((eT D.int) KG),.z ((oL D.int) Bg),.u,.u,.u,.u,.u])) (NM (Gi (DF rfl) (AH rfl))) D8 (.refl _) (λ_ x4=>(Az (Dd (Ov (CO rfl) (AH rfl))) (λv5=>(Az (KS (Ct (DD (VI.k (WP rfl)) (λwM=>(WV (OI (AH rfl) (AH rfl)))) (λwM=>(ku (AH rfl) (AH rfl)))))) (λv9=>(Cr (EJ (s0:=()) (B:=(λ(_:Unit)=>[.z ((oL (eT D.int)) DZ),.v (D.int Dx),.v ((eT D.int) KG),.z ((oL D.int) Bg),.v (D.int x4),.v (D.int v5),.y ((oL D.int) v9),.u,.u])) (WQ rfl) SD (.refl _) (λ_ xB=>(Cr (Ey (B:=(λ(_:Unit)=>[.z ((oL (eT D.int)) DZ),.v (D.int Dx),.v ((eT D.int) KG),.z ((oL D.int) Bg),.v (D.int x4),.v (D.int v5),.y ((oL D.int) v9),.v (D.int xB.1),.v (D.int xB.2)])) (Sz (Bo (Jj (DF rfl) (CQ (AH rfl) (CQ (AH rfl) Bq))) (λyT=>gF W yT.1 yT.2.1 yT.2.2.1) (λ_=>rfl) EZ)) (kK (AH rfl) (ko (Di rfl) (SF (AH rfl)) SG)) (Ex (.refl _))) (λ_=>(.same (.same (.same (.same (.same (.same (.same (.drop (.drop .nil))))))))))))) (λ_=>(.same (.same (.same (.same (.drop (.drop (.drop (.same (.same .nil))))))))))))))))) (λ_=>kL))
def JW(DZ:(List (List Int)))(BP:(List Int))(Bg:(List Int)):Option (Fw (Option (List Int)) Unit):=
 BD (((some []).bind KP).bind λx2=>some (.nx x2)) λv1=>BD (some (.nx ())) λ_=>BD (EV (N1 BP) (v1,Bg) λ(s5:(List Int)×(List Int)) x6=>EA (λyu=>(yu.1,yu.2)) (((some (DZ,(x6.2,((HE BP (some x6.1) none),(s5.2,()))))).bind λxj=>JX xj.1 xj.2.1 xj.2.2.1 xj.2.2.2.1).bind λxB=>match xB with | none=>some (.rt none) | some y8=>(RG s5.1 y8.1).bind λl22=>some (.nx (l22,y8.2)))) λϠ=>((some Ϡ.1).bind λx27=>some (some x27)).bind λxg=>some (.rt xg)
def JY(DZ:(List (List Int)))(BP:(List Int))(Bg:(List Int)):Option (Option (List Int)):=FW (JW DZ BP Bg)
theorem WZ(W:Wd)(DZ:(List (List Int)))(BP:(List Int))(Bg:(List Int)):VF (Mi W) [.z ((oL (eT D.int)) DZ),.v ((eT D.int) BP),.z ((oL D.int) Bg)] (rV (eO (eT D.int))) (JY DZ BP Bg):=by
 refine EC (n:=8) (b:=Mq W) (p:=JW DZ BP Bg) (B:=λ_=>[]) ?_;show VS [.z ((oL (eT D.int)) DZ),.v ((eT D.int) BP),.z ((oL D.int) Bg),.u,.u,.u,.u,.u] _ _ _ _;unfold Mq JW;exact(Az (G7 (Ct (F9 HQ))) (λv1=>(Az (fS rfl) (λ_=>(Az (EJ (s0:=(v1,Bg)) (B:=(λ(s26:(List Int)×(List Int))=>[.z ((oL (eT D.int)) DZ),.v ((eT D.int) BP),.z ((oL D.int) Bg),.w 3 ((oL D.int) s26.1),.z ((oL D.int) s26.2),.u,.u,.u])) (fW (AH rfl)) SD (.refl _) (λs5 x6=>(Cr (kH (i:=3) (j:=4) (k:=7) rfl rfl (by decide) (by decide) (by decide) (Bo (Jj (DF rfl) (CQ (AH rfl) (CQ (bJ (AH rfl) (SF (AH rfl)) SG) (Jj (DF rfl) Bq)))) (λxj=>WY W xj.1 xj.2.1 xj.2.2.1 xj.2.2.2.1) (λ_=>rfl) qP) rfl) (λyu=>(.same (.same (.same (.same (.same (.drop (.drop (.same .nil)))))))))))) (λϠ=>(DO (bF (IM (HR rfl))))))))))
structure Fp where
 ev:List (List Int)
 kd:Str
 tk:List (List Int)
 nu:List (List Int×Int)
 hv:List Int
 pb:List Int
abbrev fdF(a b c h k m:Nat)(kd:Str):List (Str×D):=[("everything",.ref a),("kind",.str kd),("takes",.ref b),("numbers",.ref c),("having",.ref h),("place_bits",.ref k),("known",.ref m)]
def Y8(W:Wd)(f:Fp)(L:Nat->Option Ob)(q m:Nat):Prop:=∃a b c h k,L q=some (.ins W.Field (fdF a b c h k m f.kd))/\L a=some (oL (eT D.int) f.ev)/\L b=some (oL (eT D.int) f.tk)/\L c=some (oDR D.int f.nu)/\L h=some (oL D.int f.hv)/\L k=some (oL D.int f.pb)
def Gm(W:Wd)(f:Fp)(L:Nat->Option Ob)(d:D):Prop:=∃q m,d=.ref q/\Y8 W f L q m
section
variable{W:Wd}{f:Fp}{P P':Pq}{C:AW}{x:Str}{d:D}{o:Ob}
theorem AtO.of(h:∀L d,P L d->P' L d)(z:AtO P' C x o):AtO P C x o:=λL d q=>z L d (h L d q)
theorem AtN.of(h:∀L d,P L d->P' L d)(z:AtN P' C x):AtN P C x:=λL d q=>z L d (h L d q)
theorem b6:AtV (Gm W f) W.Field "kind" (D.str f.kd):=λL d ⟨q,m,e,a,b,c,h,k,g,_⟩=>⟨q,_,e,g,rfl⟩
theorem FQ:AtO (Gm W f) W.Field "everything" (oL (eT D.int) f.ev):=λL d ⟨q,m,e,a,b,c,h,k,g,g1,_⟩=>⟨q,_,a,e,g,rfl,g1⟩
theorem QF:AtO (Gm W f) W.Field "takes" (oL (eT D.int) f.tk):=λL d ⟨q,m,e,a,b,c,h,k,g,g1,g2,_⟩=>⟨q,_,b,e,g,rfl,g2⟩
theorem aO:AtO (Gm W f) W.Field "numbers" (oDR D.int f.nu):=λL d ⟨q,m,e,a,b,c,h,k,g,g1,g2,g3,_⟩=>⟨q,_,c,e,g,rfl,g3⟩
theorem dr:AtO (Gm W f) W.Field "having" (oL D.int f.hv):=λL d ⟨q,m,e,a,b,c,h,k,g,g1,g2,g3,g4,_⟩=>⟨q,_,h,e,g,rfl,g4⟩
theorem Oo:AtO (Gm W f) W.Field "place_bits" (oL D.int f.pb):=λL d ⟨q,m,e,a,b,c,h,k,g,g1,g2,g3,g4,g5⟩=>⟨q,_,k,e,g,rfl,g5⟩
theorem i8(hx:∀a b c h k m kd,(fdF a b c h k m kd).lookup x=none):AtN (Gm W f) W.Field x:=λL d ⟨q,m,e,a,b,c,h,k,g,_⟩=>⟨q,_,e,g,hx ..⟩
end
def Ih(BQ:Fp)(Al:Int):Option (Fw (List Int) Unit):=
 BD ((atI BQ.ev Al).bind λx4=>some (.nx x4)) λv1=>(((some (BQ.tk.length:Int)).bind O5).bind λl9=>EO l9 (λx6=>some (!decide (x6∈v1))) (λx6=>some x6)).bind λwM=>some (.rt wM)
def FP(BQ:Fp)(Al:Int):Option (List Int):=FW (Ih BQ Al)
theorem Oi(W:Wd)(BQ:Fp)(Al:Int):VF (Im W) [.q (Gm W BQ),.v (D.int Al)] (rN (oL D.int)) (FP BQ Al):=by
 refine EC (n:=3) (b:=LP W) (p:=Ih BQ Al) (B:=λ_=>[]) ?_;show VS [.q (Gm W BQ),.v (D.int Al),.u] _ _ _ _;unfold LP Ih;exact(Az (Dd (Gi (FB FQ rfl) (AH rfl))) (λv1=>(G8 (Ct (DD (VI.k (Ez (L7 (FB QF rfl)))) (λx6=>(FC (SH DS (AH rfl) (AH rfl)))) (λx6=>(AH rfl)))))))
def ER(BQ:Fp)(Al:Int):Option (Fw Int Unit):=
 BD ((atI BQ.ev Al).bind λx4=>some (.nx x4)) λv1=>BD (some (.nx (0:Int))) λv5=>BD (EV v1 v5 λ(s7:Int) x8=>EA (λs33=>s33) ((atI BQ.tk x8).bind λyU=>EV yU s7 λ(zO:Int) xR=>EA (λzj=>zj) (if (!decide (xR∈v1))=true then EA (λϡ=>ϡ) (((((Ke v1 x8 xR).bind λxP=>QH xP (CI xP)).bind λwR=>Aj BQ.nu wR).bind λx26=>Oz (1:Int) x26).bind λxg=>some (.nx (Cg zO xg)))else some (.nx zO)))) λs36=>some (.rt s36)
def ET(BQ:Fp)(Al:Int):Option Int:=FW (ER BQ Al)
theorem IG(W:Wd)(BQ:Fp)(Al:Int):VF (Da W) [.q (Gm W BQ),.v (D.int Al)] (rV D.int) (ET BQ Al):=by
 refine EC (n:=6) (b:=FY W) (p:=ER BQ Al) (B:=λ_=>[]) ?_;show VS [.q (Gm W BQ),.v (D.int Al),.u,.u,.u,.u] _ _ _ _;unfold FY ER;exact(Az (Dd (Gi (FB FQ rfl) (AH rfl))) (λv1=>(Az (Dd (CO rfl)) (λv5=>(Az (EJ (s0:=v5) (B:=(λ(s37:Int)=>[.q (Gm W BQ),.v (D.int Al),.v ((eT D.int) v1),.v (D.int s37),.u,.u])) (NM (AH rfl)) D8 (.refl _) (λs7 x8=>(Cr (EJ (s0:=s7) (B:=(λ(yF:Int)=>[.q (Gm W BQ),.v (D.int Al),.v ((eT D.int) v1),.v (D.int yF),.v (D.int x8),.u])) (NM (Gi (FB QF rfl) (AH rfl))) D8 (.refl _) (λzO xR=>(Cr (Ey (B:=(λ(s31:Int)=>[.q (Gm W BQ),.v (D.int Al),.v ((eT D.int) v1),.v (D.int s31),.v (D.int x8),.v (D.int xR)])) (FC (SH DS (AH rfl) (AH rfl))) (Cr (Qe rfl (Ov (CO rfl) (Xz (FB aO rfl) (IM (JN (Qg (Bo (CQ (AH rfl) (CQ (AH rfl) (CQ (AH rfl) Bq))) (λz21=>X3 W z21.1 z21.2.1 z21.2.2.1) (λ_=>rfl) EZ))))))) (λϡ=>(.refl _))) (Ex (.refl _))) (λzj=>(.same (.same (.same (.same (.same (.drop .nil)))))))))) (λs33=>(.same (.same (.same (.same (.drop (.same .nil)))))))))) (λs36=>(DO (AH rfl))))))))
def ES(BQ:Fp)(Al:Int):Option (Fw Int Unit):=
 BD ((atI BQ.ev Al).bind λx4=>some (.nx x4)) λv1=>BD (some (.nx (0:Int))) λv5=>BD (EV (DJ BQ.pb) v5 λ(s8:Int) x9=>EA (λs22=>s22) ((Qu BQ.tk v1 x9.2).bind λy8=>if y8=true then EA (λv19=>v19) ((Oz (1:Int) x9.1).bind λxB=>some (.nx (Cg s8 xB)))else some (.nx s8))) λϠ=>some (.rt Ϡ)
def EU(BQ:Fp)(Al:Int):Option Int:=FW (ES BQ Al)
theorem IH(W:Wd)(BQ:Fp)(Al:Int):VF (Db W) [.q (Gm W BQ),.v (D.int Al)] (rV D.int) (EU BQ Al):=by
 refine EC (n:=6) (b:=FZ W) (p:=ES BQ Al) (B:=λ_=>[]) ?_;show VS [.q (Gm W BQ),.v (D.int Al),.u,.u,.u,.u] _ _ _ _;unfold FZ ES;exact(Az (Dd (Gi (FB FQ rfl) (AH rfl))) (λv1=>(Az (Dd (CO rfl)) (λv5=>(Az (EJ (s0:=v5) (B:=(λ(s26:Int)=>[.q (Gm W BQ),.v (D.int Al),.v ((eT D.int) v1),.v (D.int s26),.u,.u])) (ka Oo rfl) SD (.refl _) (λs8 x9=>(Cr (Ey (B:=(λ(xA:Int)=>[.q (Gm W BQ),.v (D.int Al),.v ((eT D.int) v1),.v (D.int xA),.v (D.int x9.1),.v (D.int x9.2)])) (Sz (Bo (Jj (FB QF rfl) (CQ (AH rfl) (CQ (AH rfl) Bq))) (λG'=>gF W G'.1 G'.2.1 G'.2.2.1) (λ_=>rfl) EZ)) (Cr (Qe rfl (Ov (CO rfl) (AH rfl))) (λv19=>(.refl _))) (Ex (.refl _))) (λs22=>(.same (.same (.same (.same (.drop (.drop .nil)))))))))) (λϠ=>(DO (AH rfl))))))))
def Ee(BQ:Fp)(Al:Int)(Bc:Int)(Bg:Int):Option (Fw (Option (List Int)) Unit):=
 BD ((atI BQ.ev Al).bind λx4=>some (.nx x4)) λv1=>BD (if (decide (BQ.kd=("all" : Str)))=true then((((((IT Bg).bind λl13=>EO l13 (λwM=>some true) (λwM=>atI BQ.pb wM)).bind λϕ=>some (ϕ,())).bind λϗ=>some (v1,ϗ)).bind λxo=>some (BQ.tk,xo)).bind λzQ=>JY zQ.1 zQ.2.1 zQ.2.2.1).bind λy8=>some (.rt y8)else some (.nx ())) λ_=>BD (((some []).bind KP).bind λx26=>some (.nx x26)) λv25=>BD ((IT Bg).bind λl42=>EV l42 v25 λ(zj:(List (List Int))) Ϝ=>EA (λϝ=>ϝ) ((EO v1 (λyG=>some true) (λyG=>((atI BQ.ev Ϝ).bind λzL=>some (decide (yG∈zL))).bind λϘ=>if Ϙ=true then some yG else some Bc)).bind λzM=>(RG zj zM).bind λϞ=>some (.nx Ϟ))) λϟ=>(((some ϟ).bind Y3).bind λx45=>some (some x45)).bind λx46=>some (.rt x46)
def Eg(BQ:Fp)(Al:Int)(Bc:Int)(Bg:Int):Option (Option (List Int)):=FW (Ee BQ Al Bc Bg)
theorem NO(W:Wd)(BQ:Fp)(Al:Int)(Bc:Int)(Bg:Int):VF (GM W) [.q (Gm W BQ),.v (D.int Al),.v (D.int Bc),.v (D.int Bg)] (rV (eO (eT D.int))) (Eg BQ Al Bc Bg):=by
 refine EC (n:=7) (b:=GP W) (p:=Ee BQ Al Bc Bg) (B:=λ_=>[]) ?_;show VS [.q (Gm W BQ),.v (D.int Al),.v (D.int Bc),.v (D.int Bg),.u,.u,.u] _ _ _ _;unfold GP Ee;exact(Az (Dd (Gi (FB FQ rfl) (AH rfl))) (λv1=>(Az (Ey (B:=(λ(_:Unit)=>[.q (Gm W BQ),.v (D.int Al),.v (D.int Bc),.v (D.int Bg),.v ((eT D.int) v1),.u,.u])) (FC (Ji XE Z6 (gB b6 rfl) (CO rfl))) (DO (Bo (Jj (FB QF rfl) (CQ (AH rfl) (Jj (JN (Ct (DD (VI.k (Ou (Bo (CQ (AH rfl) Bq) (λz9=>OJ W z9.1) (λ_=>rfl) JO))) (λwM=>Ga) (λwM=>(Gi (FB Oo rfl) (AH rfl)))))) Bq))) (λzQ=>WZ W zQ.1 zQ.2.1 zQ.2.2.1) (λ_=>rfl) EZ)) (Ex (.refl _))) (λ_=>(Az (G7 (Ct (F9 HQ))) (λv25=>(Az (EJ (s0:=v25) (B:=(λ(s44:(List (List Int)))=>[.q (Gm W BQ),.v (D.int Al),.v (D.int Bc),.v (D.int Bg),.v ((eT D.int) v1),.w 5 ((oL (eT D.int)) s44),.u])) (Ou (Bo (CQ (AH rfl) Bq) (λz29=>OJ W z29.1) (λ_=>rfl) JO)) D8 (.refl _) (λzj Ϝ=>(Cr (Sr rfl (IM (JN (Ct (DD (VI.k (NM (AH rfl))) (λyG=>Ga) (λyG=>(WS (FC (fm DS (AH rfl) (Gi (FB FQ rfl) (AH rfl)))) (AH rfl) (AH rfl) EZ)))))) rfl) (λϝ=>(.same (.same (.same (.same (.same (.same (.drop .nil))))))))))) (λϟ=>(DO (bF (kg (HR rfl))))))))))))
def MU(f:Fp)(n:Int):Option Int:=if decide (f.kd = "one")=true then ET f n else EU f n
def Dv(W:Wd)(f:Fp)(L:Nat->Option Ob)(d:D):Prop:=∃q m lk,d=.ref q/\Y8 W f L q m/\L m=some (.mem lk)/\∀n z:Int,0<=n->n < 1000->MU f n=some z->lk (.inl n)=z
section
variable{W:Wd}{f:Fp}{x:Str}{L L':Nat->Option Ob}{qn m:Nat}
theorem Dv.q:∀L d,Dv W f L d->Gm W f L d:=λL d ⟨q,m,lk,e,h,_⟩=>⟨q,m,e,h⟩
theorem LA:AtO (Dv W f) W.Field "everything" (oL (eT D.int) f.ev):=AtO.of Dv.q FQ
theorem du:AtO (Dv W f) W.Field "having" (oL D.int f.hv):=AtO.of Dv.q dr
theorem Vu(hx:∀a b c h k m kd,(fdF a b c h k m kd).lookup x=none):AtN (Dv W f) W.Field x:=AtN.of Dv.q (i8 hx)
theorem Y8.mono(h:∀n o,L n=some o->L' n=some o):Y8 W f L qn m->Y8 W f L' qn m:=λ⟨a,b,c,d,k,g0,g1,g2,g3,g4,g5⟩=>⟨a,b,c,d,k,h _ _ g0,h _ _ g1,h _ _ g2,h _ _ g3,h _ _ g4,h _ _ g5⟩
end
abbrev aE(W:Wd):ME:=W3 (mB (m2 (eqD false) (Dj W.Field "kind" (AE 0)) (mC (.str "one")))) (Ki W.Field "linked_by_one" 2 (Da W) (AE 0) (AO (AE 1) BO)) (Ki W.Field "linked_by_all" 2 (Db W) (AE 0) (AO (AE 1) BO))
theorem fg(W:Wd)(f:Fp)(n:Int):VE [.q (Gm W f),.v (D.int n)] (aE W) (rV D.int) (MU f n):=
 WS (FC (Ji XE Z6 (gB b6 rfl) (CO rfl)))
  (KU (Pf:=Gm W) (Pg:=Gm W) (i8 λ_ _ _ _ _ _ _=>rfl) (λ_ _ h=>h) rfl (CQ (AH rfl) Bq) (λz=>IG W f z.1) (λ_=>rfl) EZ)
  (KU (Pf:=Gm W) (Pg:=Gm W) (i8 λ_ _ _ _ _ _ _=>rfl) (λ_ _ h=>h) rfl (CQ (AH rfl) Bq) (λz=>IH W f z.1) (λ_=>rfl) EZ) EZ
def GF(f:Fp)(n:Int):Option Int:=if 0<=n/\n < 1000 then MU f n else none
theorem k9{κ α:Type}[DecidableEq κ]{l:List (κ×α)}{k:κ}{v:α}(h:Aj l k=some v):(k,v)∈l:=by
 unfold Aj at h
 cases hf:l.find? λkv=>decide (kv.1=k)with
 | none=>rw[hf]at h;cases h
 | some x=>
  rw[hf]at h;cases h
  have h1:x.1=k:=by have:=kC hf;exact of_decide_eq_true this
  subst h1;exact WG hf
theorem aG{W:Wd}{f:Fp}{n z:Int}{S:Sto}{q m:Nat}{lk:Key->Int}(Κ:0<=n)(Χ:n < 1000)(hz:MU f n=some z)(hl:lk (.inl n)=z)(hC:Y8 W f (λk=>S[k]?) q m)(hm:S[m]?=some (.mem lk)):ox (JJ W) [.ref q,.int n] S m lk z:=by
 intro f' hk;obtain⟨a,b,c,h,k,g0,g1,g2,g3,g4,g5⟩:=hC
 have ne:∀j o,S[j]?=some o->o≠Ob.mem lk->j≠m:=λj o h1 h2 e=>by
  subst e;rw[hm]at h1;cases h1;exact h2 rfl
 have zk:(S.set m (.dK f'))[m]?=some (.dK f'):=Ap (BW hm)
 have J':∀j o,S[j]?=some o->o≠Ob.mem lk->(S.set m (.dK f'))[j]?=some o:=λj o h1 h2=>by rw[Ac (Bs (ne j o h1 h2))];exact h1
 have yE:=J' q _ g0 (λz=>nomatch z);have C1:Y8 W f (λk=>(S.set m (.dK f'))[k]?) q m:=⟨a,b,c,h,k,yE,J' a _ g1 (λz=>nomatch z),J' b _ g2 (λz=>nomatch z),J' c _ g3 (λz=>nomatch z),J' h _ g4 (λz=>nomatch z),J' k _ g5 (λz=>nomatch z)⟩
 have st:∀j,j < S.length->j≠m->(S.set m (.dK f'))[j]?=S[j]?:=λj _ hj=>Ac (Bs hj)
 generalize hS1:S.set m (.dK f')=S1 at zk yE C1 st
 have fk:∀S2:Sto,S2[q]?=some (.ins W.Field (fdF a b c h k m f.kd))->Dj W.Field "known" (AE 0) [sR q,sI n] S2=.ok (.ref m) S2:=λS2 h2=>LC (n:=q) (by rfl) h2 rfl
 have sq:∀(S2:Sto) l,S2[m]?=some (.dK l)->Gj (.ref m) S2=none:=λS2 l h2=>by unfold Gj;dsimp only;rw[h2];try rfl
 have dg:∀(S2:Sto) l,S2[m]?=some (.dK l)->NA (.ref m) (.int n) S2=some (Aj l (.inl n)):=λS2 l h2=>by unfold NA;dsimp only;rw[h2];try rfl
 have wL:mB (m2 (inA true) (AE 1) (Dj W.Field "known" (AE 0))) [sR q,sI n] S1=.ok (!(Aj f' (.inl n)).isSome) S1:=
  Uf (Dr (x:=.int n) (S1:=S1) (by rfl) (fk S1 yE) (RB (sq S1 f' zk) (dg S1 f' zk) true))
 cases hv:Aj f' (.inl n)with
 | some d=>
  have hd:d=.int z:=by rw[<-hl];exact(hk.2 _ (k9 hv)).2
  subst hd;rw[hv]at wL;refine⟨S1,f',?_,zk,hk,st⟩;refine _root_.M.NW ?_;unfold KC;refine IX (Bv (e1:=[sR q,sI n]) (S1:=S1) (IX (G0 wL) rfl)) ?_;exact K6 (Dr (fk S1 yE) (y:=.int n) (by rfl) (RA (sq S1 f' zk) (by rw[dg S1 f' zk,hv])))
 | none=>
  rw[hv]at wL;have hQ:M2 S1 [.q (Gm W f),.v (D.int n)] [.ref q,.int n]:=⟨λL hL=>⟨q,m,rfl,C1.mono hL⟩,rfl,trivial⟩;obtain⟨d,S2,hE,kS,rfl⟩:=fg W f n z hz S1 _ _ S1 (Vs.start (n:=2) hQ);have w8:=kS.at zk;have hq2:=kS.at yE
  have hlen:f'.length < sizeLine:=by
   have h1:=IU hk.1 (k:=W2) λx hx=>by
    obtain⟨y,hy,rfl⟩:=Av.mp hx;exact(hk.2 y hy).1
   rw[AF]at h1
   have h2:W2.length=1000:=by unfold W2;rw[AF,fF]
   rw[h2]at h1;exact Yj (As h1 (by decide))
  have nk:Dg n∉f'.map (·.1):=λhx=>by
   have:=(DP f' (.inl n)).mpr hx;rw[hv]at this;cases this
  have pe:B9 f' (.inl n) (D.int z)=f'++[(.inl n,D.int z)]:=by
   unfold B9;rw[qY];intro c;obtain⟨y,hy,h2⟩:=Gr.mp c;exact nk (Av.mpr ⟨y,hy,of_decide_eq_true h2⟩)
  have hk2:oA lk (f'++[(.inl n,D.int z)]):=by
   refine⟨?_,λx hx=>?_⟩
   ·rw[CU]
    exact Er.mpr ⟨hk.1,(Bd.mpr ⟨Iy,EX⟩),λx hx y hy=>by
     rw[AU.mp hy];intro e;subst e
     exact nk hx⟩
   ·rcases A0.mp hx with h1 | h1
    ·exact hk.2 x h1
    ·rw[AU.mp h1]
     refine⟨?_,by rw[hl]⟩;unfold W2;exact Av.mpr ⟨n.toNat,Od.mpr (by omega),by show Dg ((n.toNat:Nat):Int)=_;rw[Au Κ]⟩
  have xX:Cm (Dj W.Field "known" (AE 0)) (AE 1) (aE W) [sR q,sI n] S1=oN [sR q,sI n] (S2.set m (.dK (f'++[(.inl n,D.int z)]))):=by
   unfold Cm;rw[show aE W [sR q,sI n] S1=.ok (.int z) S2 from hE];dsimp only[Res.lift];rw[fk S2 hq2];dsimp only;rw[show AE 1 [sR q,sI n] S2=.ok (.int n) S2 from rfl];dsimp only
   rw[show RC (.ref m) (.int n) (.int z) S2=some (S2.set m (.dK (f'++[(.inl n,D.int z)]))) by
    unfold RC;dsimp only;rw[w8];show(if f'.length < sizeLine then some (S2.set m (.dK (B9 f' (Dg n) (D.int z))))else none)=_
    rw[qX hlen,pe]]
  have hm3:(S2.set m (.dK (f'++[(.inl n,D.int z)])))[m]?=some (.dK (f'++[(.inl n,D.int z)])):=Ap (BW w8)
  have zJ:(S2.set m (.dK (f'++[(.inl n,D.int z)])))[q]?=some (.ins W.Field (fdF a b c h k m f.kd)):=by
   rw[Ac]
   ·exact hq2
   ·intro e
    subst e;rw[zk]at yE;cases yE
  have yH:∀j,j < S.length->j≠m->(S2.set m (.dK (f'++[(.inl n,D.int z)])))[j]?=S[j]?:=λj hj wd=>by
   rw[Ac (Bs wd),kS.2 j (by rw[<-hS1,D5];exact hj)];exact st j hj wd
  refine⟨_,f'++[(.inl n,D.int z)],?_,hm3,hk2,yH⟩;refine NW ?_;unfold KC;refine IX (Bv (e1:=[sR q,sI n]) (IX (G0 wL) xX)) ?_;refine K6 (Dr (fk _ zJ) (y:=.int n) (by rfl) (RA (sq _ _ hm3) ?_));rw[dg _ _ hm3,<-pe,Cu,qX rfl]
theorem TB(W:Wd)(f:Fp)(n:Int):VF (Hv W) [.q (Dv W f),.v (D.int n)] (rV D.int) (GF f n):=λz hz S ds ha=>by
 match ds,ha with
 | [d,x],⟨h1,h2,_⟩=>
  cases h2
  obtain⟨q,m,lk,rfl,hC,hm,hlk⟩:=h1 (λk=>S[k]?) λ_ _ h=>h
  unfold GF at hz;split at hz
  ·rename_i hn
   have key:=aG hn.1 hn.2 hz (hlk n z hn.1 hn.2 hz) hC hm;refine⟨.int z,S,?_,Keeps.refl S,rfl⟩;unfold Hv n8
   rw[show Vn "known" [.ref q,.int n] S=some m by
    obtain⟨a,b,c,h,k,g0,_⟩:=hC;unfold Vn;dsimp only;rw[show S[q]?=_ from g0]
    rfl]
   dsimp only;rw[show S[m]?=_ from hm];dsimp only;obtain⟨S0,k0,e0,_⟩:=key [] ⟨EX,λ_ hx=>nomatch hx⟩;rw[e0];dsimp only;rw[qX key]
  ·cases hz
def nuS(l:List (List Int×Int))(x:Int×List Int):List (List Int×Int):=B9 l x.2 x.1
def hvP(k:Int)(h:List Int)(p:Int):List Int:=h.set p.toNat (Cg (h.getD p.toNat 0) (1 * 2 ^ k.toNat))
def hvS(h:List Int)(x:Int×List Int):List Int:=x.2.foldl (hvP x.1) h
def nuF(ev:List (List Int)):List (List Int×Int):=(DJ ev).foldl nuS []
def hv0(n:Nat):List Int:=(DW 0 n).map λ_=>0
def hvF(n:Nat)(ev:List (List Int)):List Int:=(DJ ev).foldl hvS (hv0 n)
def OP(w:Nat×List (Int×Int))(g:Int)(kd:Str):Option Fp:=
 (GD w g).bind λev=>(MR w).bind λtk=>(EO ev (λ_=>some true) HF).bind λpb=>
  if ev.length<=1000/\w.1<=1000/\∀r∈ev,∀x∈r,0<=x/\x < (w.1:Int)then some ⟨ev,kd,tk,nuF ev,hvF w.1 ev,pb⟩else none
structure Fc(W:Wd)(S1:Sto)(fs:List (Str×D))(T:Sto):Prop where
 kp:Keeps S1 T
 at':T[S1.length]?=some (.ins W.Field fs)
section
variable{W:Wd}{S1 T T':Sto}{fs:List (Str×D)}{x:Str}{d:D}{e:Lo}{m:ME}{j:Nat}{o:Ob}
theorem Fc.put(h:Fc W S1 fs T)(k:Keeps T T'):Fc W S1 (KO x d fs) (T'.set S1.length (.ins W.Field (KO x d fs))):=⟨(h.kp.trans k).set (AL _) _,Ap (BW (k.at h.at'))⟩
theorem Fc.set(h:Fc W S1 fs T)(hj:S1.length < j):Fc W S1 fs (T.set j o):=⟨h.kp.set (NI hj) _,by rw[Ac (Et hj)];exact h.at'⟩
theorem Fc.step(h:Fc W S1 fs T)(he:e[0]?=some (some (.ref S1.length)))(hm:m e T=.ok d T')(k:Keeps T T')(hl:fs.length < 1000):KZ W.Field x (AE 0) m e T=.ok (.nx e) (T'.set S1.length (.ins W.Field (KO x d fs))):=SJ hm (IN he) (k.at h.at') hl
theorem Fg(h:T[j]?=some o)(hq:q < j):(T.set q o')[j]?=some o:=by rw[Ac (BF hq)];exact h
theorem Vs.all(h:∀(i:Nat) (a:Sl),A[i]?=some a->∃x,e[i]?=some x/\a.ok T (Lm T) T x):Vs T A e (Lm T) T:=by
 refine⟨Keeps.refl T,λn o q=>?_,λn i q=>?_,λn hn=>by unfold Lm;rw[CC hn],h⟩
 ·unfold Lm at q
  split at q
  ·rename_i o' ho;cases q;exact ho
  ·cases q
 ·unfold Lm at q
  split at q <;> cases q
theorem aa(h:T[j]?=some o):Lm T j=.fz o:=by unfold Lm;rw[h]
theorem nh(ho:mo e T=.ok (.ref n) T)(hi:mi e T=.ok (.int p) T)(hv:mv e T=.ok (.int y) T)(hn:T[n]?=some (.lst xs))(hp:0<=p)(hx:xs[p.toNat]?=some (.int z)):YJ g mo mi mv e T=.ok (.nx e) (T.set n (.lst (xs.set p.toNat (.int (g z y))))):=by
 have ha:atL (.ref n) T=some (n,xs):=by unfold atL;dsimp only;rw[hn]
 unfold YJ;rw[ho];dsimp only[Res.lift];rw[hi];dsimp only;rw[ha];dsimp only;rw[qX hp,hx];dsimp only;rw[hv];dsimp only;rw[ha];dsimp only;rw[qX (AC.mp hx).1]
end
theorem W7(k:Int):∀(r h:List Int),(r.foldl (hvP k) h).length=h.length
 | [],h=>rfl
 | p :: r,h=>by
  show(r.foldl (hvP k) (hvP k h p)).length=_;rw[W7 k r];exact D5
theorem ii:∀(l:List (Int×List Int)) (h:List Int),(l.foldl hvS h).length=h.length
 | [],h=>rfl
 | x :: l,h=>by
  show(l.foldl hvS (hvS h x)).length=_;rw[ii l];exact W7 _ _ _
theorem iD:∀(l:List (Int×List Int)) (h:List (List Int×Int)),(l.foldl nuS h).length<=h.length+l.length
 | [],h=>AL _
 | x :: l,h=>by
  have h1:=iD l (nuS h x)
  have h2:(nuS h x).length<=h.length+1:=by
   unfold nuS B9;split
   ·rw[AF];exact JS _
   ·rw[Ag];exact AL _
  show(l.foldl nuS (nuS h x)).length<=_;rw[At];omega
theorem eA(ev:List α)(i:Nat):(DJ ev)[i]?=(ev[i]?).map λr=>((i:Int),r):=by
 unfold DJ;rw[Ab,Es]
 cases ev[i]? <;> simp
abbrev eF7(q wn:Nat)(g:Int)(kd:Str)(a b c:Option D):Lo:=[sR q,sR wn,sI g,some (.str kd),a,b,c]
abbrev nlA(W:Wd):MS:=YJ (λa b=>Cg a b) (Dj W.Field "having" (AE 0)) (AE 6) (m2 Ql (mC (.int 1)) (AE 4))
abbrev nlB(W:Wd):MS:=BE (Cm (Dj W.Field "numbers" (AE 0)) (AE 5) (AE 4)) (FJ (EE (AE 5)) (tgN 6) (nlA W))
abbrev nlG:MG:=Jk 2 (Df (tgN 4) (Df (tgN 5) KY))
abbrev eF8(q wn:Nat)(g:Int)(kd:Str)(i:Nat)(r:List Int)(z:Option D):Lo:=eF7 q wn g kd (some (.int (i:Int))) (some (eT D.int r)) z
theorem Yd(W:Wd)(hF:Fc W S1 fs T)(fa:fs.lookup ("everything" : Str)=some (.ref a)) (fc:fs.lookup ("numbers" : Str)=some (.ref c)) (fh:fs.lookup ("having" : Str)=some (.ref h)) (ha:S1.length < a) (hac:a < c) (yb:c < h) (Ta:T[a]?=some (oL (eT D.int) ev)) (Tc:T[c]?=some (oDR D.int ([]:List (List Int×Int)))) (Th:T[h]?=some (oL D.int (hv0 n))) (hev:ev.length<=1000) (hr:∀r∈ev,∀x∈r,0<=x/\x < (n:Int)) :
  ∃e4 e5 e6 T',FJ (J1 (Dj W.Field "everything" (AE 0))) nlG (nlB W) (eF7 S1.length wn g kd none none none) T=.ok (.nx (eF7 S1.length wn g kd e4 e5 e6)) T' /\
   Fc W S1 fs T'/\T'[c]?=some (oDR D.int (nuF ev))/\T'[h]?=some (oL D.int (hvF n ev))/\∀j,j≠c->j≠h->T'[j]?=T[j]?:=by
 have hi:J1 (Dj W.Field "everything" (AE 0)) (eF7 S1.length wn g kd none none none) T=.ok (Of (Ff (.ref a))) T:=by
  unfold J1;rw[LC (C:=W.Field) (f:="everything") (m:=AE 0) (n:=S1.length) (by rfl) hF.at' fa];dsimp only[Res.bind];rw[De Ta]
 have Ϣ:(hv0 n).length=n:=by unfold hv0;rw[AF,CJ]
 obtain⟨f,T',h1,h2⟩:=Nq (v:=Of (Ff (.ref a))) (g:=nlG) (b:=nlB W) (xs:=(DJ ev).map (eP D.int (eT D.int))) (e:=eF7 S1.length wn g kd none none none) (S:=T)
  (λi e S=>(∃e4 e5 e6,e=eF7 S1.length wn g kd e4 e5 e6)/\Fc W S1 fs S/\S[c]?=some (oDR D.int (((DJ ev).take i).foldl nuS []))/\S[h]?=some (oL D.int (((DJ ev).take i).foldl hvS (hv0 n)))/\∀j,j≠c->j≠h->S[j]?=T[j]?)
  (λf S=>∃e4 e5 e6,f=.nx (eF7 S1.length wn g kd e4 e5 e6)/\Fc W S1 fs S/\S[c]?=some (oDR D.int (nuF ev))/\S[h]?=some (oL D.int (hvF n ev))/\∀j,j≠c->j≠h->S[j]?=T[j]?)
  ⟨⟨_,_,_,rfl⟩,hF,Tc,Th,λ_ _ _=>rfl⟩
  (λi e S hI=>by
   obtain⟨_,_,_,_,h5⟩:=hI;unfold Of;rw[De (xs:=ev.map (eT D.int)) (show S[a]?=_ from(h5 a (by omega) (by omega)).trans Ta)]
   exact congrArg some (Q9 ev))
  (λi d e S hd hI=>by
   obtain⟨⟨e4,e5,e6,rfl⟩,hS,Sc,Sh,So⟩:=hI;rw[Ab]at hd;obtain⟨⟨k,r⟩,hx,rfl⟩:=FH.mp hd;have yN:=hx;rw[eA]at yN;obtain⟨r0,hr',hr2⟩:=FH.mp yN;cases hr2;have hrm:r∈ev:=Aq hr';have yB:i < ev.length:=(AC.mp hr').1
   have tk:(DJ ev).take (i+1)=(DJ ev).take i++[((i:Int),r)]:=by
    rw[Fu,hx];rfl
   refine⟨eF8 S1.length wn g kd i r e6,S,rfl,?_⟩
   have hp:Cm (Dj W.Field "numbers" (AE 0)) (AE 5) (AE 4) (eF8 S1.length wn g kd i r e6) S=.ok (.nx (eF8 S1.length wn g kd i r e6)) (S.set c (oDR D.int (B9 (((DJ ev).take i).foldl nuS []) r (i:Int)))):=by
    unfold Cm;rw[show AE 4 (eF8 S1.length wn g kd i r e6) S=.ok (.int (i:Int)) S from rfl];dsimp only[Res.lift];rw[LC (C:=W.Field) (f:="numbers") (m:=AE 0) (n:=S1.length) (by rfl) hS.at' fc];dsimp only;rw[show AE 5 (eF8 S1.length wn g kd i r e6) S=.ok (eT D.int r) S from rfl];dsimp only
    rw[jL (enc:=D.int) _ r (i:Int) S c Sc (by
     have:=iD ((DJ ev).take i) [];rw[DI]at this;show(((DJ ev).take i).foldl nuS []).length < _;have h0:([]:List (List Int×Int)).length=0:=rfl
     omega)]
   have hS2:Fc W S1 fs (S.set c (oDR D.int (B9 (((DJ ev).take i).foldl nuS []) r (i:Int)))):=hS.set (by omega);have Sh2:(S.set c (oDR D.int (B9 (((DJ ev).take i).foldl nuS []) r (i:Int))))[h]?=some (oL D.int (((DJ ev).take i).foldl hvS (hv0 n))):=Fg Sh yb;have Sc2:(S.set c (oDR D.int (B9 (((DJ ev).take i).foldl nuS []) r (i:Int))))[c]?=some (oDR D.int (B9 (((DJ ev).take i).foldl nuS []) r (i:Int))):=Ap (BW Sc)
   have So2:∀j,j≠c->j≠h->(S.set c (oDR D.int (B9 (((DJ ev).take i).foldl nuS []) r (i:Int))))[j]?=T[j]?:=λj h1 h2=>by rw[Ac (Bs h1)];exact So j h1 h2
   generalize S.set c (oDR D.int (B9 (((DJ ev).take i).foldl nuS []) r (i:Int)))=S2 at hp hS2 Sh2 Sc2 So2;generalize hH:((DJ ev).take i).foldl hvS (hv0 n)=H at Sh2
   have hHl:H.length=n:=by rw[<-hH,ii,Ϣ]
   obtain⟨f,S3,q1,q2⟩:=Nq (v:=Ff (eT D.int r)) (g:=tgN 6) (b:=nlA W) (xs:=r.map D.int) (e:=eF8 S1.length wn g kd i r e6) (S:=S2)
    (λj e S=>(∃z,e=eF8 S1.length wn g kd i r z)/\Fc W S1 fs S/\S[h]?=some (oL D.int ((r.take j).foldl (hvP (i:Int)) H))/\∀j,j≠h->S[j]?=S2[j]?)
    (λf S=>∃z,f=.nx (eF8 S1.length wn g kd i r z)/\Fc W S1 fs S/\S[h]?=some (oL D.int (r.foldl (hvP (i:Int)) H))/\∀j,j≠h->S[j]?=S2[j]?)
    ⟨⟨_,rfl⟩,hS2,Sh2,λ_ _=>rfl⟩ (λ_ _ _ _=>rfl)
    (λj d e S hd hJ=>by
     obtain⟨⟨z,rfl⟩,hS3,Sh3,So3⟩:=hJ;rw[Ab]at hd;obtain⟨p,hp,rfl⟩:=FH.mp hd;have hpr:=hr r hrm p (Aq hp);refine⟨eF8 S1.length wn g kd i r (some (.int p)),S,rfl,?_⟩
     have hlp:p.toNat < ((r.take j).foldl (hvP (i:Int)) H).length:=by rw[W7,hHl];omega
     have hsh:m2 Ql (mC (.int 1)) (AE 4) (eF8 S1.length wn g kd i r (some (.int p))) S=.ok (.int (1 * 2 ^ (i:Int).toNat)) S:=by
      refine Dr (x:=.int 1) (y:=.int (i:Int)) rfl rfl ?_;unfold Ql L2.intOp;dsimp only;rw[qX (show jl 1 (i:Int)from⟨by omega,by omega,by decide⟩)]
     have ha:=nh (g:=λa b=>Cg a b) (mo:=Dj W.Field "having" (AE 0)) (mi:=AE 6) (p:=p) (z:=((r.take j).foldl (hvP (i:Int)) H).getD p.toNat 0) (LC (C:=W.Field) (f:="having") (m:=AE 0) (n:=S1.length) (e:=eF8 S1.length wn g kd i r (some (.int p))) (by rfl) hS3.at' fh) (by rfl) hsh Sh3 hpr.1 (by
      rw[Ab,EY,Aa hlp]
      rfl)
     refine⟨_,_,ha,⟨_,rfl⟩,hS3.set (by omega),?_,λk hk=>by rw[Ac (Bs hk)];exact So3 k hk⟩;rw[Ap (BW Sh3),Fu,hp];show some (Ob.lst _)=some (Ob.lst _);rw[show(some p).toList=[p]from rfl,IF,List.foldl_cons,VV];unfold hvP
     rw[List.map_set])
    (λe S hJ=>by
     obtain⟨⟨z,rfl⟩,hS3,Sh3,So3⟩:=hJ;rw[AF,Ix]at Sh3
     exact⟨z,rfl,hS3,Sh3,So3⟩)
   obtain⟨z,rfl,hS4,Sh4,So4⟩:=q2;refine⟨_,S3,(Bv hp).trans (IX (LB (v:=Ff (eT D.int r)) (S1:=S2) (by rfl)) q1),⟨_,_,_,rfl⟩,hS4,?_,?_,λj h1 h2=>(So4 j h2).trans (So2 j h1 h2)⟩
   ·rw[So4 c (by omega),Sc2,tk,IF]
    rfl
   ·rw[Sh4,tk,IF,hH]
    rfl)
  (λe S hI=>by
   obtain⟨⟨e4,e5,e6,rfl⟩,hS,Sc,Sh,So⟩:=hI;rw[AF,Ix]at Sc Sh
   exact⟨e4,e5,e6,rfl,hS,Sc,Sh,So⟩)
 obtain⟨e4,e5,e6,rfl,h3⟩:=h2;exact⟨e4,e5,e6,T',(LB hi).trans h1,h3⟩
abbrev y1(a:Nat):List (Str×D):=KO "everything" (.ref a) []
abbrev y2(a:Nat)(kd:Str):List (Str×D):=KO "kind" (.str kd) (y1 a)
abbrev y3(a:Nat)(kd:Str)(b:Nat):List (Str×D):=KO "takes" (.ref b) (y2 a kd)
abbrev y4(a:Nat)(kd:Str)(b c:Nat):List (Str×D):=KO "numbers" (.ref c) (y3 a kd b)
abbrev y5(a:Nat)(kd:Str)(b c h:Nat):List (Str×D):=KO "having" (.ref h) (y4 a kd b c)
abbrev y6(a:Nat)(kd:Str)(b c h k:Nat):List (Str×D):=KO "place_bits" (.ref k) (y5 a kd b c h)
abbrev y7(a:Nat)(kd:Str)(b c h k m:Nat):List (Str×D):=KO "known" (.ref m) (y6 a kd b c h k)
abbrev eF9(S1:Sto)(wn:Nat)(g:Int)(kd:Str):Lo:=eF7 S1.length wn g kd none none none
theorem jB(W:Wd)(hp:OP w g kd=some f)(hw:S1[wn]?=some (Hl W w)) :
  ∃S',Hw W [.ref S1.length,.ref wn,.int g,.str kd] (S1++[.ins W.Field []])=.ok .non S'/\Keeps S1 S'/\∀L:Nat->Option Ob,(∀n o,S1.length<=n->S'[n]?=some o->L n=some o)->Dv W f L (.ref S1.length):=by
 unfold OP at hp;obtain⟨ev,hev,hp⟩:=Aw hp;obtain⟨tk,htk,hp⟩:=Aw hp;obtain⟨pb,hpb,hp⟩:=Aw hp;split at hp
 case isFalse=>cases hp
 rename_i hg;obtain⟨hg1,hg2,hg3⟩:=hg;cases hp;have F0:Fc W S1 [] (S1++[.ins W.Field []]):=⟨Keeps.app _ _,Ep _ _⟩
 have l0:(S1++[Ob.ins W.Field []]).length=S1.length+1:=by rw[Ag];rfl
 generalize S1++[Ob.ins W.Field []]=T0 at F0 l0;obtain⟨d,U1,c1,k1,a,rfl,ha,hA⟩:=X4 W w g ev hev T0 [.ref wn,.int g] ⟨⟨wn,rfl,F0.kp.at hw⟩,rfl,trivial⟩;have m1:CB 2 (Km W) (AO (AE 1) (AO (AE 2) BO)) (eF9 S1 wn g kd) T0=.ok (.ref a) U1:=(Mn (ds:=[.ref wn,.int g]) (S1:=T0) rfl rfl).trans c1;have s1:=F0.step (x:="everything") (e:=eF9 S1 wn g kd) rfl m1 k1 (by decide);have F1:=F0.put (x:="everything") (d:=.ref a) k1
 have qa:S1.length < a:=by omega
 have A1:(U1.set S1.length (.ins W.Field (y1 a)))[a]?=some (oL (eT D.int) ev):=Fg hA qa;generalize U1.set S1.length (.ins W.Field (y1 a))=T1 at s1 F1 A1;have s2:=F1.step (x:="kind") (m:=AE 3) (e:=eF9 S1 wn g kd) (d:=.str kd) rfl rfl (Keeps.refl T1) (As (AL 1) (by decide));have F2:=F1.put (x:="kind") (d:=.str kd) (Keeps.refl T1);have A2:(T1.set S1.length (.ins W.Field (y2 a kd)))[a]?=some (oL (eT D.int) ev):=Fg A1 qa;generalize T1.set S1.length (.ins W.Field (y2 a kd))=T2 at s2 F2 A2;obtain⟨d,U3,c3,k3,b,rfl,hb,hB⟩:=Zc W w tk htk T2 [.ref wn] ⟨⟨wn,rfl,F2.kp.at hw⟩,trivial⟩;have ab:a < b:=AV (BW A2) hb;have m3:CB 1 (Mf W) (AO (AE 1) BO) (eF9 S1 wn g kd) T2=.ok (.ref b) U3:=(Mn (ds:=[.ref wn]) (S1:=T2) rfl rfl).trans c3;have s3:=F2.step (x:="takes") (e:=eF9 S1 wn g kd) rfl m3 k3 (As (AL 2) (by decide));have F3:=F2.put (x:="takes") (d:=.ref b) k3;have A3:(U3.set S1.length (.ins W.Field (y3 a kd b)))[a]?=some (oL (eT D.int) ev):=Fg (k3.at A2) qa;have B3:(U3.set S1.length (.ins W.Field (y3 a kd b)))[b]?=some (oL (eT D.int) tk):=Fg hB (by omega);generalize U3.set S1.length (.ins W.Field (y3 a kd b))=T3 at s3 F3 A3 B3;have bc:b < T3.length:=BW B3;have m4:Nj (eF9 S1 wn g kd) T3=.ok (.ref T3.length) (T3++[oDR D.int ([]:List (List Int×Int))]):=rfl;have k4:=Keeps.app T3 [oDR D.int ([]:List (List Int×Int))];have s4:=F3.step (x:="numbers") (e:=eF9 S1 wn g kd) rfl m4 k4 (As (AL 3) (by decide));have F4:=F3.put (x:="numbers") (d:=.ref T3.length) k4;have C3:(T3++[oDR D.int ([]:List (List Int×Int))])[T3.length]?=some (oDR D.int ([]:List (List Int×Int))):=Ep _ _;generalize hc:T3.length=c at bc s4 F4 C3;generalize T3++[oDR D.int ([]:List (List Int×Int))]=U4 at k4 s4 F4 C3;have A4:=Fg (o':=.ins W.Field (y4 a kd b c)) (k4.at A3) qa;have B4:=Fg (o':=.ins W.Field (y4 a kd b c)) (k4.at B3) (show S1.length < b by omega);have C4:=Fg (o':=.ins W.Field (y4 a kd b c)) C3 (show S1.length < c by omega);generalize U4.set S1.length (.ins W.Field (y4 a kd b c))=T4 at s4 F4 A4 B4 C4
 have v5:((((some w).bind λx2=>some (x2.1:Int)).bind O5).bind λl=>EO l (λ_=>some true) (λ_=>some (0:Int)))=some (hv0 w.1):=by
  show((O5 (w.1:Int)).bind λl=>EO l (λ_=>some true) (λ_=>some (0:Int)))=_;rw[OM (by omega) (by omega)];show EO (DW 0 (w.1:Int).toNat) _ _=_;rw[Ak,FR (f:=λ_=>(0:Int)) (by rw[CJ];omega) λ_ _=>rfl];rfl
 obtain⟨d,U5,m5,k5,h,rfl,hh,hH⟩:=(Ct (DD (VI.k (Ez (Je (DF (A:=[.u,.z (Hl W w),.u,.u,.u,.u,.u]) (i:=1) rfl)))) (λ_=>Ga) (λ_=>CO (enc:=D.int) (v:=0) (d:=.int 0) rfl))) _ v5 T4 (eF9 S1 wn g kd) _ T4 (Vs.all λi x hx=>by
  match i,hx with
  | 0,hx=>cases hx;exact⟨_,rfl,trivial⟩
  | 1,hx=>cases hx;exact⟨_,rfl,wn,rfl,aa (F4.kp.at hw)⟩
  | 2,hx=>cases hx;exact⟨_,rfl,trivial⟩
  | 3,hx=>cases hx;exact⟨_,rfl,trivial⟩
  | 4,hx=>cases hx;exact⟨_,rfl,trivial⟩
  | 5,hx=>cases hx;exact⟨_,rfl,trivial⟩
  | 6,hx=>cases hx;exact⟨_,rfl,trivial⟩
  | n+7,hx=>cases hx)
 have s5:=F4.step (x:="having") (e:=eF9 S1 wn g kd) rfl m5 k5 (As (AL 4) (by decide));have F5:=F4.put (x:="having") (d:=.ref h) k5;have ch:c < h:=AV (BW C4) hh;have A5:=Fg (o':=.ins W.Field (y5 a kd b c h)) (k5.at A4) qa;have B5:=Fg (o':=.ins W.Field (y5 a kd b c h)) (k5.at B4) (show S1.length < b by omega);have C5:=Fg (o':=.ins W.Field (y5 a kd b c h)) (k5.at C4) (show S1.length < c by omega);have H5:=Fg (o':=.ins W.Field (y5 a kd b c h)) hH (show S1.length < h by omega);generalize U5.set S1.length (.ins W.Field (y5 a kd b c h))=T5 at s5 F5 A5 B5 C5 H5;obtain⟨e4,e5,e6,T6,s6,F6,C6,H6,O6⟩:=Yd W (wn:=wn) (g:=g) (kd:=kd) (n:=w.1) F5 rfl rfl rfl qa (by omega) ch A5 C5 H5 hg1 hg3;have A6:=(O6 a (by omega) (by omega)).trans A5;have B6:=(O6 b (by omega) (by omega)).trans B5;have v7:((some ev).bind λl=>EO l (λ_=>some true) (λx=>((some x).bind λx=>(some ()).bind λy=>some (x,y)).bind λz=>HF z.1))=some pb:=hpb
 obtain⟨d,U7,m7,k7,k,rfl,hk,hK⟩:=(Ct (DD (VI.k (pQ (A:=[.q (λL d=>∃q fs n,d=.ref q/\L q=some (.ins W.Field fs)/\fs.lookup ("everything" : Str)=some (.ref n)/\L n=some (oL (eT D.int) ev)),.u,.u,.u,.u,.u,.u]) (i:=0) (l:=ev) (enc:=eT D.int) (C:=W.Field) (x:="everything") (λL d h=>h) rfl)) (λ_=>Ga) (λx=>Bo (CQ (AH (i:=0) rfl) Bq) (λz=>cj W z.1) (λ_=>rfl) EZ))) _ v7 T6 (eF7 S1.length wn g kd e4 e5 e6) _ T6 (Vs.all λi x hx=>by
  match i,hx with
  | 0,hx=>cases hx;exact⟨_,rfl,.ref S1.length,rfl,λL hL=>⟨S1.length,_,a,rfl,hL _ _ (aa F6.at'),rfl,hL _ _ (aa A6)⟩⟩
  | 1,hx=>cases hx;exact⟨_,rfl,trivial⟩
  | 2,hx=>cases hx;exact⟨_,rfl,trivial⟩
  | 3,hx=>cases hx;exact⟨_,rfl,trivial⟩
  | 4,hx=>cases hx;exact⟨_,rfl,trivial⟩
  | 5,hx=>cases hx;exact⟨_,rfl,trivial⟩
  | 6,hx=>cases hx;exact⟨_,rfl,trivial⟩
  | n+7,hx=>cases hx)
 have s7:=F6.step (x:="place_bits") (e:=eF7 S1.length wn g kd e4 e5 e6) rfl m7 k7 (As (AL 5) (by decide));have F7:=F6.put (x:="place_bits") (d:=.ref k) k7;have xn:h < k:=AV (BW H6) hk
 have cell:∀{j:Nat} {o:Ob},U7[j]?=some o->S1.length < j->(U7.set S1.length (.ins W.Field (y6 a kd b c h k)))[j]?=some o:=λh1 h2=>Fg h1 h2
 have A7:=cell (k7.at A6) qa;have B7:=cell (k7.at B6) (by omega);have C7:=cell (k7.at C6) (by omega);have H7:=cell (k7.at H6) (by omega);have K7:=cell hK (by omega);generalize U7.set S1.length (.ins W.Field (y6 a kd b c h k))=T7 at s7 F7 A7 B7 C7 H7 K7
 clear cell
 have m8:Jz (eF7 S1.length wn g kd e4 e5 e6) T7=.ok (.ref T7.length) (T7++[.dK []]):=rfl;have k8:=Keeps.app T7 [Ob.dK []];have s8:=F7.step (x:="known") (e:=eF7 S1.length wn g kd e4 e5 e6) rfl m8 k8 (As (AL 6) (by decide));have F8:=F7.put (x:="known") (d:=.ref T7.length) k8;have M7:(T7++[Ob.dK []])[T7.length]?=some (.dK []):=Ep _ _;have km:k < T7.length:=BW K7;generalize T7.length=m at s8 F8 M7 km;generalize T7++[Ob.dK []]=U8 at k8 s8 F8 M7
 have cell:∀{j:Nat} {o:Ob},U8[j]?=some o->S1.length < j->(U8.set S1.length (.ins W.Field (y7 a kd b c h k m)))[j]?=some o:=λh1 h2=>Fg h1 h2
 have A8:=cell (k8.at A7) qa;have B8:=cell (k8.at B7) (by omega);have C8:=cell (k8.at C7) (by omega);have H8:=cell (k8.at H7) (by omega);have K8:=cell (k8.at K7) (by omega);have M8:=cell M7 (by omega);generalize U8.set S1.length (.ins W.Field (y7 a kd b c h k m))=T8 at s8 F8 A8 B8 C8 H8 K8 M8
 clear cell
 have Q8:T8[S1.length]?=some (.ins W.Field (fdF a b c h k m kd)):=F8.at'
 have run:LG W [.ref S1.length,.ref wn,.int g,.str kd] T0=.ok .non T8:=by
  refine Zx (e:=eF7 S1.length wn g kd e4 e5 e6) ?_;unfold QM;show(BE _ _) (eF9 S1 wn g kd) T0=_;rw[Bv s1,Bv s2,Bv s3,Bv s4,Bv s5,Bv s6,Bv s7];exact s8
 have C:Y8 W ⟨ev,kd,tk,nuF ev,hvF w.1 ev,pb⟩ (λk=>T8[k]?) S1.length m:=⟨a,b,c,h,k,Q8,A8,B8,C8,H8,K8⟩
 have lkOk:∀n z:Int,0<=n->n < 1000->MU ⟨ev,kd,tk,nuF ev,hvF w.1 ev,pb⟩ n=some z->LM W [.ref S1.length,.ref wn,.int g,.str kd] T8 (.inl n)=z:=λn z _ _ hz=>by
  have hQ:M2 T8 [.q (Gm W ⟨ev,kd,tk,nuF ev,hvF w.1 ev,pb⟩),.v (D.int n)] [.ref S1.length,.int n]:=⟨λL hL=>⟨_,m,rfl,C.mono hL⟩,rfl,trivial⟩;unfold LM;dsimp only;rw[show sQ "kind" S1.length T8=some kd by unfold sQ;rw[Q8];rfl];unfold MU at hz;dsimp only at hz
  by_cases ck:kd = "one"
  ·rw[wX ck,qX rfl]at hz
   obtain⟨d,S',h1,_,rfl⟩:=IG W _ n z hz T8 _ hQ;rw[qX (congrArg some ck),h1];rfl
  ·rw[wY ck,qY AK]at hz
   obtain⟨d,S',h1,_,rfl⟩:=IH W _ n z hz T8 _ hQ;rw[qY (λe=>ck (Bl e)),h1];rfl
 refine⟨T8.set m (.mem (LM W [.ref S1.length,.ref wn,.int g,.str kd] T8)),?_,F8.kp.set (by omega) _,λL hL=>⟨S1.length,m,_,rfl,?_,hL m _ (by omega) (Ap (BW M8)),lkOk⟩⟩
 ·unfold Hw mZ
  rw[run];dsimp only
  rw[show Vn "known" [.ref S1.length,.ref wn,.int g,.str kd] T8=some m by
   unfold Vn;dsimp only;rw[Q8]
   rfl]
  dsimp only;rw[M8]
 ·have up:∀{j:Nat} {o:Ob},T8[j]?=some o->S1.length<=j->j < m->L j=some o:=λh1 h2 h3=>hL _ _ h2 (by rw[Ac (Et h3)];exact h1)
  exact⟨a,b,c,h,k,up Q8 (AL _) (by omega),up A8 (by omega) (by omega),up B8 (by omega) (by omega),up C8 (by omega) (by omega),up H8 (by omega) (by omega),up K8 (by omega) (by omega)⟩
theorem gC{W:Wd}{A:List Sl}{ml:ML}{p:Option ((Nat×List (Int×Int))×Int×Str×Unit)}(ha:VA A ml p (λz=>[.z (Hl W z.1),.v (D.int z.2.1),.v (D.str z.2.2.1)])):VE A (RT W.Field 4 (Hw W) ml) (rQ (Dv W)) (p.bind λz=>OP z.1 z.2.1 z.2.2.1):=λf hv S0 e F S hs=>by
 obtain⟨z,h1,h2⟩:=Aw hv;obtain⟨ds,S1,h3,h4,h5⟩:=ha z h1 S0 e F S hs
 match ds,h5 with
 | [d1,d2,d3],⟨⟨wn,q1,hw⟩,q2,q3,_⟩=>
  cases q1;cases q2;cases q3;obtain⟨S',r1,r2,r3⟩:=jB W h2 hw;exact⟨_,S',bb h3 rfl r1,h4.trans r2,λL hL=>r3 L λn o hn=>hL n o (Am h4.1 hn)⟩
def Hh(BQ:Fp)(Al:Int)(Bc:Int):Option (Fw Int Unit):=
 ((GF BQ (Al,()).1).bind λx6=>(atI BQ.hv Bc).bind λx7=>some (BH x6 x7)).bind λx8=>some (.rt x8)
def E1(BQ:Fp)(Al:Int)(Bc:Int):Option Int:=FW (Hh BQ Al Bc)
theorem NP(W:Wd)(BQ:Fp)(Al:Int)(Bc:Int):VF (Hx W) [.q (Dv W BQ),.v (D.int Al),.v (D.int Bc)] (rV D.int) (E1 BQ Al Bc):=by
 refine EC (n:=3) (b:=KD W) (p:=Hh BQ Al Bc) (B:=λ_=>[]) ?_;show VS [.q (Dv W BQ),.v (D.int Al),.v (D.int Bc)] _ _ _ _;unfold KD Hh;exact(DO (OI (KU (Pf:=Dv W) (Pg:=Dv W) (Vu λ_ _ _ _ _ _ _=>rfl) (λ_ _ h=>h) rfl (CQ (AH rfl) Bq) (λz3=>TB W BQ z3.1) (λ_=>rfl) EZ) (Gi (FB du rfl) (AH rfl))))
def Ib(BK:Fp)(KH:Int):Option (Fw (List (Int×Int)) Unit):=
 BD (some (.nx [])) λv1=>BD ((IT KH).bind λϞ=>EV Ϟ v1 λ(s6:(List (Int×Int))) x7=>BD (((FP BK (x7,()).1).bind λl22=>EO l22 (λxR=>(((some (x7,(xR,()))).bind λxj=>E1 BK xj.1 xj.2.1).bind λxB=>some (BH xB KH)).bind λyS=>some (decide (yS=(0:Int)))) (λxR=>some xR)).bind λx23=>some (.nx x23)) λv8=>EA (λs32=>s32) (if (!v8.isEmpty)=true then EA (λϡ=>ϡ) ((atI v8 (0:Int)).bind λxg=>(HD s6 x7 xg).bind λl30=>some (.nx l30))else some (.nx s6))) λs35=>some (.rt s35)
def En(BK:Fp)(KH:Int):Option (List (Int×Int)):=FW (Ib BK KH)
theorem Og(W:Wd)(BK:Fp)(KH:Int):VF (Ik W) [.q (Dv W BK),.v (D.int KH)] (rN (oDK D.int)) (En BK KH):=by
 refine EC (n:=5) (b:=LK W) (p:=Ib BK KH) (B:=λ_=>[]) ?_;show VS [.q (Dv W BK),.v (D.int KH),.u,.u,.u] _ _ _ _;unfold LK Ib;exact(Az (G7 Xy) (λv1=>(Az (EJ (s0:=v1) (B:=(λ(s36:(List (Int×Int)))=>[.q (Dv W BK),.v (D.int KH),.w 2 ((oDK D.int) s36),.u,.u])) (Ou (Bo (CQ (AH rfl) Bq) (λz5=>OJ W z5.1) (λ_=>rfl) JO)) D8 (.refl _) (λs6 x7=>(Az (KS (Ct (DD (VI.k (Ou (KU (Pf:=Dv W) (Pg:=Gm W) (Vu λ_ _ _ _ _ _ _=>rfl) Dv.q rfl (CQ (AH rfl) Bq) (λz11=>Oi W BK z11.1) (λ_=>rfl) JO))) (λxR=>(FC (Ji DS Hm (OI (KU (Pf:=Dv W) (Pg:=Dv W) (Vu λ_ _ _ _ _ _ _=>rfl) (λ_ _ h=>h) rfl (CQ (AH rfl) (CQ (AH rfl) Bq)) (λxj=>NP W BK xj.1 xj.2.1) (λ_=>rfl) EZ) (AH rfl)) (CO rfl)))) (λxR=>(AH rfl))))) (λv8=>(Cr (Ey (B:=(λ(s33:(List (Int×Int)))=>[.q (Dv W BK),.v (D.int KH),.w 2 ((oDK D.int) s33),.v (D.int x7),.y ((oL D.int) v8)])) (k6 (Di rfl)) (Cr (Xu rfl (AH rfl) (Gi (Di rfl) (CO rfl)) rfl) (λϡ=>(.refl _))) (Ex (.refl _))) (λs32=>(.same (.same (.same (.drop (.drop .nil))))))))))) (λs35=>(SE rfl)))))
def Pw(BK:Fp):Option (Fw (List (Int×(Int×Int))) Unit):=
 BD (some (.nx [])) λv1=>BD (((Oz (1:Int) (BK.ev.length:Int)).bind λx8=>some (x8 - (1:Int))).bind λwM=>some (.nx wM)) λv3=>BD (some (.nx (1:Int))) λv11=>BD ((En BK v3).bind λxo=>some (.nx xo)) λv13=>BD (whF (λ(wO:(List (Int×(Int×Int)))×Int×Int×(List (Int×Int)))=>some (!wO.2.2.2.isEmpty)) (λ(wO:(List (Int×(Int×Int)))×Int×Int×(List (Int×Int)))=>BD (EV (wO.2.2.2.map (·.1)) (wO.1,wO.2.1) λ(xA:(List (Int×(Int×Int)))×Int) wR=>BD (((Aj wO.2.2.2 wR).bind λxg=>some (wO.2.2.1,xg)).bind λyd=>(HD xA.1 wR yd).bind λyU=>some (.nx yU)) λxC=>EA (λzm=>(xC,zm)) ((Oz (1:Int) wR).bind λxZ=>some (.nx (CD xA.2 xZ)))) λyf=>BD (some (.nx (wO.2.2.1+(1:Int)))) λMy=>EA (λM'=>(yf.1,yf.2,My,M')) ((En BK yf.2).bind λyV=>some (.nx yV))) wN (v1,v3,v11,v13)) λxO=>some (.rt xO.1)
def Pz(BK:Fp):Option (List (Int×(Int×Int))):=FW (Pw BK)
theorem gH(W:Wd)(BK:Fp):VF (UR W) [.q (Dv W BK)] (rN (oDK (eP D.int D.int))) (Pz BK):=by
 refine EC (n:=6) (b:=Ua W) (p:=Pw BK) (B:=λ_=>[]) ?_;show VS [.q (Dv W BK),.u,.u,.u,.u,.u] _ _ _ _;unfold Ua Pw;exact(Az (G7 Xy) (λv1=>(Az (Dd (L6 (Ov (CO rfl) (L7 (FB LA rfl))) (CO rfl))) (λv3=>(Az (Dd (CO rfl)) (λv11=>(Az (G7 (Bo (cg (Pf:=Dv W) (Pg:=Dv W) (λ_ _ h=>h) rfl (CQ (AH rfl) Bq)) (λzo=>Og W zo.1 zo.2.1) (λ_=>rfl) JO)) (λv13=>(Az (Sq (s0:=(v1,v3,v11,v13)) (B:=(λ(s49:(List (Int×(Int×Int)))×Int×Int×(List (Int×Int)))=>[.q (Dv W BK),.w 1 ((oDK (eP D.int D.int)) s49.1),.v (D.int s49.2.1),.v (D.int s49.2.2.1),.w 4 ((oDK D.int) s49.2.2.2),.u])) (.refl _) (λwO=>(gD (HR rfl))) (λwO=>(Az (uA 4 rfl rfl (EJ (s0:=(wO.1,wO.2.1)) (B:=(λ(s39:(List (Int×(Int×Int)))×Int)=>[.q (Dv W BK),.w 1 ((oDK (eP D.int D.int)) s39.1),.v (D.int s39.2),.v (D.int wO.2.2.1),.y ((oFK D.int) wO.2.2.2),.u])) (pP rfl) D8 (.refl _) (λxA wR=>(Az (Xu rfl (AH rfl) (JT (AH rfl) (cf (Di rfl) (AH rfl))) rfl) (λxC=>(Cr (Qe rfl (Ov (CO rfl) (AH rfl))) (λzm=>(.same (.same (.same (.same (.same (.drop .nil))))))))))))) (λyf=>(Az (Qe rfl (CO rfl)) (λMy=>(Cr (G7 (Bo (cg (Pf:=Dv W) (Pg:=Dv W) (λ_ _ h=>h) rfl (CQ (AH rfl) Bq)) (λϣ=>Og W ϣ.1 ϣ.2.1) (λ_=>rfl) JO)) (λM'=>(.refl _))))))))) (λxO=>(SE rfl)))))))))))
def Ha(BK:Fp)(N9:(List (Int×(Int×Int)))):Option (Fw Int Unit):=
 ((((some (BK.ev.length:Int)).bind O5).bind λl7=>EO l7 (λx2=>some (!(Aj N9 x2).isSome)) (λx2=>Oz (1:Int) x2)).bind λx8=>some (TF x8)).bind λx9=>some (.rt x9)
def Hj(BK:Fp)(N9:(List (Int×(Int×Int)))):Option Int:=FW (Ha BK N9)
theorem S8(W:Wd)(BK:Fp)(N9:(List (Int×(Int×Int)))):VF (J5 W) [.q (Dv W BK),.z ((oDK (eP D.int D.int)) N9)] (rV D.int) (Hj BK N9):=by
 refine EC (n:=2) (b:=J9 W) (p:=Ha BK N9) (B:=λ_=>[]) ?_;show VS [.q (Dv W BK),.z ((oDK (eP D.int D.int)) N9)] _ _ _ _;unfold J9 Ha;exact(DO (fX (JN (Ct (DD (VI.k (Ez (L7 (FB LA rfl)))) (λx2=>(FC (Xx (AH rfl) (DF rfl)))) (λx2=>(Ov (CO rfl) (AH rfl))))))))
def Hd(BK:Fp)(Al:Int)(Bc:Int)(GR:Int):Option (Fw (Option (List Int)) Unit):=
 (((((((some (Al,(Bc,()))).bind λz5=>E1 BK z5.1 z5.2.1).bind λx6=>some (BH x6 GR)).bind λwM=>some (wM,())).bind λxR=>some (Bc,xR)).bind λyS=>some (Al,yS)).bind λy9=>Eg BK y9.1 y9.2.1 y9.2.2.1).bind λxy=>some (.rt xy)
def E0(BK:Fp)(Al:Int)(Bc:Int)(GR:Int):Option (Option (List Int)):=FW (Hd BK Al Bc GR)
theorem S9(W:Wd)(BK:Fp)(Al:Int)(Bc:Int)(GR:Int):VF (J6 W) [.q (Dv W BK),.v (D.int Al),.v (D.int Bc),.v (D.int GR)] (rV (eO (eT D.int))) (E0 BK Al Bc GR):=by
 refine EC (n:=4) (b:=KA W) (p:=Hd BK Al Bc GR) (B:=λ_=>[]) ?_;show VS [.q (Dv W BK),.v (D.int Al),.v (D.int Bc),.v (D.int GR)] _ _ _ _;unfold KA Hd;exact(DO (KU (Pf:=Dv W) (Pg:=Gm W) (Vu λ_ _ _ _ _ _ _=>rfl) Dv.q rfl (CQ (AH rfl) (CQ (AH rfl) (CQ (OI (KU (Pf:=Dv W) (Pg:=Dv W) (Vu λ_ _ _ _ _ _ _=>rfl) (λ_ _ h=>h) rfl (CQ (AH rfl) (CQ (AH rfl) Bq)) (λz5=>NP W BK z5.1 z5.2.1) (λ_=>rfl) EZ) (AH rfl)) Bq))) (λy9=>NO W BK y9.1 y9.2.1 y9.2.2.1) (λ_=>rfl) EZ))
def JU(BK:Fp)(Al:Int)(GR:Int):Option (Fw (List (Int×(Option (List Int)))) Unit):=
 ((FP BK (Al,()).1).bind λl16=>EO l16 (λx4=>some true) (λx4=>(E0 BK Al x4 GR).bind λxy=>some (x4,xy))).bind λye=>some (.rt ye)
def FD(BK:Fp)(Al:Int)(GR:Int):Option (List (Int×(Option (List Int)))):=FW (JU BK Al GR)
theorem WX(W:Wd)(BK:Fp)(Al:Int)(GR:Int):VF (Mg W) [.q (Dv W BK),.v (D.int Al),.v (D.int GR)] (rV (eT (eP D.int (eO (eT D.int))))) (FD BK Al GR):=by
 refine EC (n:=3) (b:=Mo W) (p:=JU BK Al GR) (B:=λ_=>[]) ?_;show VS [.q (Dv W BK),.v (D.int Al),.v (D.int GR)] _ _ _ _;unfold Mo JU;exact(DO (IM (JN (Ct (DD (VI.k (Ou (KU (Pf:=Dv W) (Pg:=Gm W) (Vu λ_ _ _ _ _ _ _=>rfl) Dv.q rfl (CQ (AH rfl) Bq) (λz3=>Oi W BK z3.1) (λ_=>rfl) JO))) (λx4=>Ga) (λx4=>(JT (AH rfl) (Bo (cg (Pf:=Dv W) (Pg:=Dv W) (λ_ _ h=>h) rfl (CQ (AH rfl) (CQ (AH rfl) (CQ (AH rfl) Bq)))) (λU'=>S9 W U'.1 U'.2.1 U'.2.2.1 U'.2.2.2.1) (λ_=>rfl) EZ))))))))
def Ia(Br:(Nat×List (Int×Int)))(BP:Int)(CW:Str):Option (Fw (Option (List ((List Int)×(List (Int×(Option (List Int))))))) Unit):=
 BD (((some (Br,(BP,(CW,())))).bind λz8=>OP z8.1 z8.2.1 z8.2.2.1).bind λx9=>some (.nx x9)) λv1=>BD (((((Pz v1).bind λxy=>some (xy,())).bind λye=>some (v1,ye)).bind λzo=>Hj zo.1 zo.2.1).bind λxo=>some (.nx xo)) λv10=>BD (if (decide (v10=(0:Int)))=true then some (.rt none)else some (.nx ())) λ_=>((IT v10).bind λl40=>EO l40 (λxg=>some true) (λxg=>(atI v1.ev xg).bind λϔ=>(FD v1 xg v10).bind λx39=>some (ϔ,x39))).bind λx41=>some (.rt (some x41))
def ED(Br:(Nat×List (Int×Int)))(BP:Int)(CW:Str):Option (Option (List ((List Int)×(List (Int×(Option (List Int))))))):=FW (Ia Br BP CW)
theorem Ku(W:Wd)(Br:(Nat×List (Int×Int)))(BP:Int)(CW:Str):VF (G3 W) [.z ((Hl W) Br),.v (D.int BP),.v (D.str CW)] (rOL (oL (eP (eT D.int) (eT (eP D.int (eO (eT D.int))))))) (ED Br BP CW):=by
 refine EC (n:=5) (b:=LJ W) (p:=Ia Br BP CW) (B:=λ_=>[]) ?_;show VS [.z ((Hl W) Br),.v (D.int BP),.v (D.str CW),.u,.u] _ _ _ _;unfold LJ Ia;exact(Az (kI (gC (Jj (DF rfl) (CQ (AH rfl) (CQ (AH rfl) Bq))))) (λv1=>(Az (Dd (Bo (cg (Pf:=Dv W) (Pg:=Dv W) (λ_ _ h=>h) rfl (Jj (JN (Bo (cg (Pf:=Dv W) (Pg:=Dv W) (λ_ _ h=>h) rfl Bq) (λU'=>gH W U'.1) (λ_=>rfl) JO)) Bq)) (λzo=>S8 W zo.1 zo.2.1) (λ_=>rfl) EZ)) (λv10=>(Az (Ey (B:=(λ(_:Unit)=>[.z ((Hl W) Br),.v (D.int BP),.v (D.str CW),.q (Dv W v1),.v (D.int v10)])) (FC (Ji DS Hm (AH rfl) (CO rfl))) fQ (Ex (.refl _))) (λ_=>(kM (Ct (DD (VI.k (Ou (Bo (CQ (AH rfl) Bq) (λyT=>OJ W yT.1) (λ_=>rfl) JO))) (λxg=>Ga) (λxg=>(JT (Gi (FB LA rfl) (AH rfl)) (Bo (cg (Pf:=Dv W) (Pg:=Dv W) (λ_ _ h=>h) rfl (CQ (AH rfl) (CQ (AH rfl) Bq))) (λz37=>WX W z37.1 z37.2.1 z37.2.2.1) (λ_=>rfl) EZ))))))))))))
open PySem L2
theorem iE(h:x.1 < x.2):nrm x=x:=by
 unfold nrm;rw[qY (by lia),qX (by omega)]
theorem iF(x:Int×Int):nrm (x.2,x.1)=nrm x:=by
 unfold nrm;dsimp only
 congr 1
 ·split <;> split <;> lia
 ·split <;> split <;> lia
theorem gb(h:l.Perm l'):Ps l=Ps l':=Vb ((Jm l).trans (h.trans (Jm l').symm)) (TN l) (TN l')
theorem lB(h:(ps.map nrm).Perm (qs.map nrm)):Iq ps=Iq qs:=by
 unfold Iq L9;have:=h.map Wm;rw[BL,BL]at this;rw[show(λx=>Wm (nrm x))=Wm∘nrm from rfl,gb this]
theorem GU.of(h:(ps.map nrm).Perm (qs.map nrm))(f:GU p qs):GU p ps:=by
 refine⟨λx hx=>?_,h.nodup_iff.mpr f.2⟩;obtain⟨y,hy,e⟩:=Av.mp (h.mem_iff.mp (cV hx));have:=f.1 y hy;unfold Fit at this ⊢;rw[<-e];exact this
def nr(ts:List (Int×Int))(x:Nat):List Int:=CI (DR ts x)
theorem Z5:z∈nr ts x↔((x:Int),z)∈ts∨(z,(x:Int))∈ts:=by
 unfold nr;rw[(EK _).mem_iff];unfold DR;rw[List.mem_flatMap]
 constructor
 ·rintro⟨t,ht,h⟩
  rcases A0.mp h with h | h
  ·split at h
   ·rename_i e
    rw[AU.mp h,<-e];exact .inl ht
   ·cases h
  ·split at h
   ·rename_i e
    rw[AU.mp h,<-e];exact .inr ht
   ·cases h
 ·rintro(h | h)
  ·exact⟨_,h,BN _ (by simp)⟩
  ·exact⟨_,h,BU _ (by simp)⟩
open PySem L2 L4
theorem iH{o:Nat}{us:List (Int×Int)}{g:Int}(h0:0<=g)(h1:g < o):atI (Qy o us) g=some (nr us g.toNat):=by
 refine KF h0 ?_;unfold Qy;rw[Ab,EB (by omega)];rfl
theorem rK{o:Nat}{us:List (Int×Int)}{g:Int}(h0:0<=g)(h1:g < o):Wq (o,us) g=some (nr us g.toNat):=by
 unfold Wq Wn Hi Fh;simp only[AD];rw[wX h0,qX rfl,wX h1];simp only[AD];show FW (BD (((mM (some (Fw.nx ()))).bind λ_=>some (.nx ()))) λ_=>_)=_;simp only[mL,AD,BI];rw[iH h0 h1];rfl
theorem Bz:x∈CI l↔x∈l:=(EK l).mem_iff
theorem XN(ns:List Int)(k:Nat):Cd ns (k:Int)=some (ns.getD k 0):=by
 unfold Cd Hg
 by_cases c:k < ns.length
 ·rw[wX (show(k:Int) < (ns.length:Int) by omega),qX rfl,KF (x:=ns[k]) (by omega) (by rw[Ak];exact Aa c)]
  simp only[AD,jc,bW];rw[EY,Aa c];rfl
 ·rw[wY (show ¬(k:Int) < (ns.length:Int) by omega),qY AK]
  simp only[BI,bW];rw[EY,CC (by omega)];rfl
def prs(o:Nat):List (Int×Int):=(Hk o).getD []
theorem Vi:∀o:Nat,o < 8->Hk o=some (prs o)/\(∀x∈prs o,0<=x.1/\x.1 < x.2/\x.2 < o)/\(prs o).Nodup/\(prs o).length<=21/\(2<=o->prs o≠[])/\∀y:Nat,y < 7->((prs o).filter λx=>decide ((y:Int)∈[x.1,x.2])).length<=6:=by decide +kernel
theorem dy:∀o:Nat,o < 8->∀s:Nat,s < 6->∃fs,Ef o s=some fs/\fs.length<=21:=by
 have h:∀o:Nat,o < 8->∀s:Nat,s < 6->(match Ef o s with | some fs=>decide (fs.length<=21) | none=>false)=true:=by decide +kernel
 intro o ho s hs;have:=h o ho s hs
 cases q:Ef o s with
 | none=>rw[q]at this;cases this
 | some fs=>rw[q]at this;exact⟨fs,rfl,of_decide_eq_true this⟩
theorem NY[DecidableEq κ](f':List (κ×β))(k:κ)(v:β):(B9 f' k v).length<=f'.length+1:=by
 unfold B9;split
 ·rw[AF];omega
 ·rw[Ag];simp
theorem pz(ns:List Int)(yi:ns.length<=63)(f:Nat)(hf:f<=1000){o:Nat}(h2:2<=o)(ho:o < 8):∃P,Iu ns f o=some ((prs o).filter P):=by
 obtain⟨e1,-,-,hl,wd,-⟩:=Vi o ho;obtain⟨fs,e2,hfs⟩:=dy o ho (ns.getD 0 0 / 7 % 6).toNat (by omega);rw[Au (by omega)]at e2;unfold Iu Kb;simp only[AD];rw[e1,show Cd ns 0=some (ns.getD 0 0)from XN ns 0];simp only[AD,BI];rw[e2];simp only[AD]
 obtain⟨s1,e3,l1⟩:=SU (ρ:=List (Int×Int)) (l:=fs) (s0:=([]:List ((Int×Int)×Bool))) (q:=λwO y8=>EA (λv22=>v22) ((HD wO y8 true).bind λl25=>some (.nx l25))) (λpre s=>s.length<=pre.length) (AL _) (by
  intro pre x s hx hp hs;have:=hp.length_le;rw[Ag,Ay]at this;refine⟨B9 s x true,?_,?_⟩
  ·rw[show HD s x true=some (B9 s x true)from qX (by omega)]
   rfl
  ·rw[Ag,Ay]
   exact Am (NY _ _ _) (by omega))
 rw[e3];simp only[BI];rw[lU (by omega) (by omega) (by split <;> omega) (by split <;> omega)];simp only[AD]
 have wI:0 < ((prs o).length:Int):=by have:=G6.mpr (wd h2);omega
 obtain⟨s2,e4,-⟩:=SU (ρ:=List (Int×Int)) (l:=DW (f:Int) ((if (63:Int) < (ns.length:Int)then(63:Int)else(ns.length:Int)) - (f:Int)).toNat) (s0:=s1) (q:=λyF yG=>BD (((atI ns yG).bind λϘ=>Z8 Ϙ ((prs o).length:Int)).bind (λϙ=>atI (prs o) ϙ) |>.bind λϚ=>some (.nx Ϛ)) λzi=>EA (λv51=>v51) ((if (!(Aj yF zi).isSome)=true then some true else(Aj yF zi).bind λϛ=>some (!ϛ)).bind λx52=>(HD yF zi x52).bind λl54=>some (.nx l54))) (λpre s=>s.length<=21+pre.length) (Am l1 hfs) (by
  intro pre x s hx hp hs;have Ϥ:=hp.length_le;rw[Ag,Ay,CJ]at Ϥ;obtain⟨Φ,hx2⟩:=Ce.mp hx;obtain⟨y,ey,-⟩:=aY (l:=ns) (i:=x) (by omega) (by split at hx2 <;> omega);rw[ey];simp only[AD];rw[W1 wI];simp only[AD];obtain⟨t,et,-⟩:=SW (l:=prs o) y (wd h2);rw[et];simp only[AD,BI]
  have hb:∃b,(if (!(Aj s t).isSome)=true then some true else(Aj s t).bind λϛ=>some (!ϛ))=some b:=by
   cases Aj s t with
   | none=>exact⟨true,rfl⟩
   | some b=>exact⟨!b,rfl⟩
  obtain⟨b,hb⟩:=hb;rw[hb];simp only[AD];refine⟨B9 s t b,?_,?_⟩
  ·rw[show HD s t b=some (B9 s t b)from qX (by split at Ϥ <;> omega)]
   rfl
  ·rw[Ag,Ay]
   exact Am (NY _ _ _) (by omega))
 refine⟨λx=>match Aj s2 x with | some b=>b | none=>false,?_⟩;have e4':=e4;simp only[Option.bind_assoc,AD]at e4' ⊢;rw[e4'];simp only[BI]
 rw[J8 (P:=λx=>match Aj s2 x with | some b=>b | none=>false) (by omega) (by
  intro x _
  cases Aj s2 x with
  | none=>rfl
  | some b=>rfl)]
 rfl
structure PN(o:Nat)(ts:List (Int×Int)):Prop where
 rg:∀x∈ts,0<=x.1/\x.1 < x.2/\x.2 < o
 nd:ts.Nodup
 ln:ts.length<=21
 dg:∀y:Nat,y < 7->(ts.filter λx=>decide ((y:Int)∈[x.1,x.2])).length<=6
theorem lD(ho:o < 8)(P:Int×Int->Bool):PN o ((prs o).filter P):=by
 obtain⟨-,h1,h2,h3,-,h4⟩:=Vi o ho;refine⟨λx hx=>h1 x (BJ.mp hx).1,h2.filter _,Am (Dh _ _) h3,λy hy=>?_⟩;refine Am ?_ (h4 y hy);exact(wE _ List.filter_sublist).length_le
theorem il(ns:List Int)(hl:ts.length<=1000):∃hs,Ii ns ts=some hs/\(hs=ts∨hs=ts.reverse.map λx=>(x.2,x.1)):=by
 unfold Ii Ie;rw[show Cd ns 0=some (ns.getD 0 0)from XN ns 0];simp only[AD]
 by_cases c:ns.getD 0 0 / 42 % 2=0
 ·rw[wX c,qX rfl]
  exact⟨ts,rfl,.inl rfl⟩
 ·rw[wY c,qY AK]
  simp only[BI];rw[FR (f:=λx:Int×Int=>(x.2,x.1)) (by rw[PZ];omega) λx _=>rfl];exact⟨_,rfl,.inr rfl⟩
theorem PN.nrm(h:PN o ts):ts.map nrm=ts:=by
 conv=>rhs;rw[<-Sj ts]
 exact DV λx hx=>iE (h.rg x hx).2.1
theorem PN.fit(h:PN o ts):GU o ts:=by
 refine⟨λx hx=>?_,by rw[h.nrm];exact h.nd⟩;have:=h.rg x hx;unfold Fit;rw[iE this.2.1];omega
theorem PN.mem(h:PN o ts):t∈Iq ts↔t∈ts:=by
 rw[(Qj ts).mem_iff,h.nrm]
theorem PN.web(h:PN o ts)(h1:1<=o)(ho:o<=60)(e:hs=ts∨hs=ts.reverse.map λx=>(x.2,x.1)):fP (o:Int) hs=some (o,Iq ts):=by
 have pm:(hs.map M.nrm).Perm (ts.map M.nrm):=by
  rcases e with rfl | rfl
  ·exact List.Perm.refl _
  ·rw[BL,show(M.nrm∘λx:Int×Int=>(x.2,x.1))=M.nrm from funext λx=>iF x,jp]
   exact List.reverse_perm _
 have hl:hs.length=ts.length:=by have:=pm.length_eq;rwa [AF,AF]at this
 unfold fP;rw[qX ⟨by omega,by omega,GU.of pm h.fit,by rw[hl];have:=h.ln;omega⟩,lB pm,Ak]
def lnr(ts:List (Int×Int))(y:Int):List Int:=(ts.filter λx=>decide (y∈[x.1,x.2])).map λx=>x.1+x.2 - y
theorem mq(hl:ts.length<=63)(y:Int):Kf ts y=some (CI (lnr ts y)):=by
 unfold Kf Kc;simp only[AD,nQ (show([]:List Int).length<=1000000 by decide),BI]
 obtain⟨s,e,rfl⟩:=SU (ρ:=List Int) (l:=ts) (s0:=([]:List Int)) (q:=λs3 x4=>EA (λzN=>zN) (if decide (y∈[x4.1,x4.2])=true then EA (λv7=>v7) ((RG s3 (x4.1+x4.2 - y)).bind λl9=>some (.nx l9))else some (.nx s3))) (λpre s=>s=lnr pre y) rfl (by
  rintro pre x s hx hp rfl;have wI:=hp.length_le;rw[Ag,Ay]at wI
  have hle:(lnr pre y).length<=pre.length:=by unfold lnr;rw[AF];exact Dh _ _
  have es:lnr (pre++[x]) y=if decide (y∈[x.1,x.2])=true then lnr pre y++[x.1+x.2 - y]else lnr pre y:=by
   unfold lnr;rw[RX];split
   ·rw[CU];rfl
   ·rfl
  rw[es]
  cases c:decide (y∈[x.1,x.2])with
  | true=>
   rw[qX rfl,qX rfl,SX (by omega)];exact⟨_,rfl,rfl⟩
  | false=>exact⟨_,rfl,rfl⟩)
 rw[e];simp only[BI]
 rw[QG (by have:(lnr ts y).length<=ts.length:=by(unfold lnr;rw[AF];exact Dh _ _)
           omega)]
 rfl
theorem mm:z∈lnr ts y↔(y,z)∈ts∨(z,y)∈ts:=by
 unfold lnr;rw[Av]
 constructor
 ·rintro⟨x,hx,rfl⟩
  obtain⟨h1,h2⟩:=BJ.mp hx;have h2:=of_decide_eq_true h2
  rcases AZ.mp h2 with h | h
  ·left
   rw[show(y,x.1+x.2 - y)=x from au h (by show x.1+x.2 - y=x.2;omega)];exact h1
  ·right
   have h:=AU.mp h;rw[show(x.1+x.2 - y,y)=x from au (by show x.1+x.2 - y=x.1;omega) h];exact h1
 ·rintro(h | h)
  ·exact⟨_,BJ.mpr ⟨h,wX (by simp)⟩,by show y+z - y=z;omega⟩
  ·exact⟨_,BJ.mpr ⟨h,wX (by simp)⟩,by show z+y - y=z;omega⟩
theorem PN.near(h:PN o ts)(h0:0<=g)(z:Int):z∈nr (Iq ts) g.toNat↔z∈CI (lnr ts g):=by
 rw[Z5,Bz,mm,h.mem,h.mem,Au h0]
theorem hX:∀n:Nat,n < 128->∀x:Nat,x < 7->Cg (n:Int) (1 * 2 ^ x)=((n ||| 2 ^ x:Nat):Int)/\(n ||| 2 ^ x) < 128/\∀y:Nat,y < 7->(n ||| 2 ^ x).testBit y=(n.testBit y||decide (x=y)):=by decide +kernel
theorem dA:∀x:Nat,x < 8->Oz 1 (x:Int)=some (1 * 2 ^ x):=by decide +kernel
theorem se(h:∀x∈l,0<=x/\x < 7):Ok (HF l) λr=>∃n:Nat,r=n/\n < 128/\∀y:Nat,y < 7->(n.testBit y=true↔(y:Int)∈l):=by
 unfold HF OO;simp only[AD,BI];refine OkF.out (OkF.seq (OkF.for (λpre (s:Int)=>∃n:Nat,s=n/\n < 128/\∀y:Nat,y < 7->(n.testBit y=true↔(y:Int)∈pre)) ⟨0,rfl,by decide,λy _=>by simp⟩ ?_) ?_)
 ·rintro pre x s hx hp ⟨n,rfl,hn,wc⟩
  obtain⟨x0,x7⟩:=h x hx
  obtain⟨k,rfl⟩:∃k:Nat,x=k:=⟨x.toNat,by omega⟩
  rw[dA k (by omega)];obtain⟨o1,o2,o3⟩:=hX n hn k (by omega);refine .nx ⟨n ||| 2 ^ k,o1,o2,λy hy=>?_⟩;rw[o3 y hy,Jd,wc y hy,A0,AU,decide_eq_true_eq];refine⟨λq=>q.elim .inl λq=>.inr (by rw[q]),λq=>q.elim .inl λq=>.inr (by omega)⟩
 ·rintro s ⟨n,rfl,h1,h2⟩
  exact .rt ⟨n,rfl,h1,h2⟩
def Tg(us:List (Int×Int))(g:Int):List Int:=CI ([g]++nr us g.toNat)
def tkl(o:Nat)(us:List (Int×Int)):List (List Int):=(DW 0 o).map (Tg us)
theorem gN{o:Nat}{us:List (Int×Int)}{g:Int}(h0:0<=g)(h1:g < o):atI (tkl o us) g=some (Tg us g):=by
 refine KF h0 ?_;unfold tkl DW;rw[Ab,Ab,EB (by omega)];show some (Tg us (0+(g.toNat:Int)))=_;rw[show(0:Int)+(g.toNat:Int)=g by omega]
theorem gP{o:Nat}{us:List (Int×Int)}{g:Int}(h0:0<=g)(h1:g < o):Tk (tkl o us) g=Tg us g:=by
 unfold Tk;rw[gN h0 h1];rfl
structure IA(o:Nat)(us:List (Int×Int)):Prop where
 sm:o < 8
 len:∀g:Int,0<=g->g < o->(nr us g.toNat).length<=6
 rg:∀g:Int,0<=g->g < o->∀x∈nr us g.toNat,0<=x/\x < o/\x≠g
 nd:∀g:Int,0<=g->g < o->(nr us g.toNat).Nodup
section
variable{o:Nat}{us:List (Int×Int)}
theorem Mv:x∈Tg us g↔x=g∨x∈nr us g.toNat:=by
 unfold Tg;rw[Bz];simp
theorem IA.tg(h:IA o us){g:Int}(h0:0<=g)(h1:g < o):(Tg us g).length<=7/\(∀x∈Tg us g,0<=x/\x < o)/\(Tg us g).Pairwise (· < ·):=by
 refine⟨?_,λx hx=>?_,?_⟩
 ·unfold Tg
  rw[(EK _).length_eq,Ag,Ay];have:=h.len g h0 h1;omega
 ·rcases Mv.mp hx with rfl | hx
  ·exact⟨h0,h1⟩
  ·exact⟨(h.rg g h0 h1 x hx).1,(h.rg g h0 h1 x hx).2.1⟩
 ·have nd:(Tg us g).Nodup:=by
   unfold Tg;rw[(EK _).nodup_iff];show(g :: nr us g.toNat).Nodup;rw[Bd];exact⟨λz=>(h.rg g h0 h1 g z).2.2 rfl,h.nd g h0 h1⟩
  have:=(TM ([g]++nr us g.toNat))
  exact(VW this nd).imp λ⟨a,b⟩=>by omega
theorem lE(h:IA o us):MR (o,us)=some (tkl o us):=by
 unfold MR MM;simp only[AD];rw[OM (by omega) (by have:=h.sm;omega),Ak];simp only[AD]
 rw[FR (f:=Tg us) (by rw[CJ];have:=h.sm;omega) λx hx=>by
  obtain⟨x0,x1⟩:=Ce.mp hx;rw[rK x0 (by omega),few1];simp only[AD];have hx6:=h.len x x0 (by omega);rw[nT (by rw[Ay];omega)];simp only[AD];rw[QG (by rw[Ag,Ay];omega)]
  rfl]
 rfl
theorem NK(f:Int->Int):∀l:List Int,l.zip (l.map f)=l.map λg=>(g,f g)
 | []=>rfl
 | x :: l=>by rw[BC,FL,NK f l];rfl
theorem bA{a b:List Int}{x y z:Int}(hn:b.Nodup)(h1:(x,z)∈a.zip b)(h2:(y,z)∈a.zip b):x=y:=by
 obtain⟨i,hi,e1⟩:=CZ h1;obtain⟨j,hj,e2⟩:=CZ h2;rw[HK]at hi hj;rw[Iz]at e1 e2;have f1:=(Xi e1);have f2:=(Xi e2);have:i=j:=(SB hn).mp (f1.2.trans f2.2.symm);subst this;exact f1.1.symm.trans f2.1
end
open PySem L2 L4
open Srt (ltL)
theorem Yi:∀a:List Int,ltL a a=false
 | []=>rfl
 | x :: a=>by unfold ltL;rw[qX rfl];exact Yi a
section
variable{o:Nat}{us:List (Int×Int)}
def jj(us:List (Int×Int))(gs:List Int)(c:Int)(r:List Int):Prop:=r.length=gs.length/\r.Nodup/\(∀y∈gs.zip r,y.2∈Tg us y.1)/\c∈r
theorem eB{gs:List Int}{pre:List (Int×Int)}{x:Int×Int}(h:pre++[x] <+: N1 gs):∃g,gs[pre.length]?=some g/\x=(((pre.length+1:Nat):Int),g):=by
 obtain⟨r,hr⟩:=h;have h1:=congrArg (λz=>z[pre.length]?) hr;simp only[Fv,Bf (AL _),tq]at h1;rw[show([x]++r)[0]?=some x from rfl]at h1;unfold N1 at h1;rw[Ab,Es]at h1
 cases q:gs[pre.length]? with
 | none=>rw[q]at h1;cases h1
 | some g=>rw[q]at h1;simp at h1;exact⟨g,rfl,by rw[h1];simp⟩
theorem OF{gs a b:List Int}(h:a.length<=gs.length)(y:Int×Int):y∈gs.zip (a++b)↔y∈gs.zip a∨y∈(gs.drop a.length).zip b:=by
 have h1:gs.zip (a++b)=(gs.take a.length).zip a++(gs.drop a.length).zip b:=by
  conv=>lhs;rw[<-ZT a.length gs]
  exact j7 (by rw[DI];omega)
 have h2:gs.zip a=(gs.take a.length).zip a:=by
  have:gs.zip (a++[])=(gs.take a.length).zip a++(gs.drop a.length).zip []:=by
   conv=>lhs;rw[<-ZT a.length gs]
   exact j7 (by rw[DI];omega)
  rw[CG,HN,CG]at this;exact this
 rw[h1,h2,A0]
theorem jj.rg(h:IA o us){gs r:List Int}{c:Int}(hg:∀g∈gs,0<=g/\g < o)(hr:jj us gs c r):∀x∈r,0<=x/\x < o:=λx hx=>by
 obtain⟨i,hi,rfl⟩:=CZ hx
 have zf:i < gs.length:=by rw[<-hr.1];exact hi
 have m:(gs[i],r[i])∈gs.zip r:=by
  have:(gs.zip r)[i]'(by rw[HK];omega)=(gs[i],r[i]):=Iz;rw[<-this];exact Do _
 have:=hg gs[i] (Do _);exact(h.tg this.1 this.2).2.1 _ (hr.2.2.1 _ m)
end
theorem nv:∀n:Nat,n < 128->∀x:Nat,x < 7->(BH (n:Int) (1 * 2 ^ x) != 0)=n.testBit x:=by decide +kernel
theorem WK:∀n:Nat,n < 128->∀x:Nat,x < 7->CD (n:Int) (1 * 2 ^ x)=((n ^^^ 2 ^ x:Nat):Int)/\(n ^^^ 2 ^ x) < 128/\∀y:Nat,y < 7->(n ^^^ 2 ^ x).testBit y=(n.testBit y != decide (x=y)):=by decide +kernel
theorem rq:∀n:Nat,n < 128->∀x:Nat,x < 7->hb (n:Int) (x:Int)=n.testBit x:=by decide +kernel
abbrev bit(n:Nat)(x:Int):Prop:=n.testBit x.toNat=true
def InS(us:List (Int×Int))(gs:List Int)(P:Int->Prop)(r:List Int):Prop:=r.length=gs.length/\r.Nodup/\(∀y∈gs.zip r,y.2∈Tg us y.1)/\∀x∈r,P x
def Pre(us:List (Int×Int))(gs:List Int)(P:Int->Prop)(t:List Int):Prop:=t.Nodup/\(∀y∈gs.zip t,y.2∈Tg us y.1)/\∀x∈t,P x
section
variable{o:Nat}{us:List (Int×Int)}{gs rest:List Int}{P Q:Int->Prop}{g:Int}{n:Nat}
theorem InS.rg(h:IA o us)(hg:∀g∈gs,0<=g/\g < o)(hr:InS us gs P r):∀x∈r,0<=x/\x < o:=λx hx=>by
 obtain⟨i,hi,rfl⟩:=CZ hx;have hl:=hr.1
 have m:(gs[i]'(by omega),r[i])∈gs.zip r:=by
  have:(gs.zip r)[i]'(by rw[HK];omega)=(gs[i]'(by omega),r[i]):=Iz;rw[<-this];exact Do _
 have g':=hg _ (Do (show i < gs.length by omega));exact(h.tg g'.1 g'.2).2.1 _ (hr.2.2.1 _ m)
theorem InS.imp(hr:InS us gs P r)(i:∀x∈r,P x->Q x):InS us gs Q r:=⟨hr.1,hr.2.1,hr.2.2.1,λx hx=>i x hx (hr.2.2.2 x hx)⟩
theorem InS.cut(ht:t.length<=gs.length):InS us gs P (t++l)↔Pre us gs P t/\InS us (gs.drop t.length) (λx=>P x/\x∉t) l:=by
 unfold InS Pre;rw[Er,Ag,E6]
 constructor
 ·rintro⟨a,⟨b1,b2,b3⟩,c,d⟩
  exact⟨⟨b1,λy hy=>c y ((OF ht y).mpr (.inl hy)),λx hx=>d x (BN _ hx)⟩,by omega,b2,λy hy=>c y ((OF ht y).mpr (.inr hy)),λx hx=>⟨d x (BU _ hx),λz=>b3 x z x hx rfl⟩⟩
 ·rintro⟨⟨a1,a2,a3⟩,b,c,d,e⟩
  refine⟨by omega,⟨a1,c,λx hx y hy q=>(e y hy).2 (q▸hx)⟩,λy hy=>?_,λx hx=>?_⟩
  ·rcases(OF ht y).mp hy with q | q
   ·exact a2 y q
   ·exact d y q
  ·rcases A0.mp hx with q | q
   ·exact a3 x q
   ·exact(e x q).1
theorem bC(hn:n < 128)(hx:0<=x/\x < 7)(hy:0<=y/\y < 7):bit (n ^^^ 2 ^ x.toNat) y↔n.testBit y.toNat≠decide (x=y):=by
 unfold bit;rw[(WK n hn x.toNat (by omega)).2.2 y.toNat (by omega)]
 have:(x.toNat=y.toNat)↔x=y:=by omega
 simp only[bne_iff_ne,this]
theorem InS.cons(h:IA o us)(hn:n < 128)(hg:0<=g/\g < o)(hr:∀g∈rest,0<=g/\g < o):InS us (g :: rest) (bit n) (x :: l)↔x∈Tg us g/\bit n x/\InS us rest (bit (n ^^^ 2 ^ x.toNat)) l:=by
 have sm:=h.sm;have key:=InS.cut (us:=us) (gs:=g :: rest) (P:=bit n) (t:=[x]) (l:=l) (by simp);rw[List.singleton_append]at key;rw[key];have hd:(g :: rest).drop [x].length=rest:=rfl;rw[hd]
 constructor
 ·rintro⟨⟨-,a,b⟩,c⟩
  have xt:=a (g,x) (by simp);have xr:=(h.tg hg.1 hg.2).2.1 x xt;have rg:=c.rg h hr;refine⟨xt,b x (by simp),c.imp λy hy ⟨p1,p2⟩=>?_⟩;have yr:=rg y hy;rw[bC hn (by omega) (by omega),p1,wY (λe=>p2 (by rw[e];simp))]
  decide
 ·rintro⟨a,b,c⟩
  have xr:=(h.tg hg.1 hg.2).2.1 x a;have rg:=c.rg h hr;refine⟨⟨by simp,λy hy=>?_,λy hy=>by rw[AU.mp hy];exact b⟩,c.imp λy hy q=>?_⟩
  ·rw[FL,HN,AU]at hy
   rw[hy];exact a
  ·have yr:=rg y hy
   rw[bC hn (by omega) (by omega)]at q
   by_cases e:x=y
   ·subst e
    rw[b]at q;simp at q
   ·rw[wY e]at q
    exact⟨by simpa using q,λz=>e (AU.mp z).symm⟩
theorem qL(h:IA o us)(hn:n < 128)(hr:∀g∈rest,0<=g/\g < o)(xE:rest.Nodup):Sdr (Tk (tkl o us)) (n:Int) rest↔∃r,InS us rest (bit n) r:=by
 have sm:=h.sm
 have hw:∀g∈rest,∀x,x∈w0 (Tk (tkl o us)) (n:Int) g↔x∈Tg us g/\bit n x:=λg hg x=>by
  unfold w0;rw[BJ,gP (hr g hg).1 (hr g hg).2]
  refine and_congr_right λa=>?_
  have:=(h.tg (hr g hg).1 (hr g hg).2).2.1 x a
  obtain⟨k,rfl⟩:∃k:Nat,x=k:=⟨x.toNat,by omega⟩
  unfold bit;rw[rq n hn k (by omega),Ak]
 constructor
 ·rintro⟨f,f1,f2⟩
  refine⟨rest.map f,AF _,?_,λy hy=>?_,λx hx=>?_⟩
  ·unfold JA
   rw[Ca]
   exact xE.imp_of_mem λ{a b} ha wc ne e=>ne (f2 a ha b wc e)
  ·rw[NK]at hy
   obtain⟨g,hg,rfl⟩:=Av.mp hy;exact((hw g hg _).mp (f1 g hg)).1
  ·obtain⟨g,hg,rfl⟩:=Av.mp hx
   exact((hw g hg _).mp (f1 g hg)).2
 ·rintro⟨l,l1,ln,l3,l4⟩
  have ex:∀a:Int,∃z:Int,a∈rest->(a,z)∈rest.zip l:=λa=>by
   by_cases q:a∈rest
   ·obtain⟨i,hi,e⟩:=CZ q
    refine⟨l[i]'(by omega),λ_=>?_⟩
    have:(rest.zip l)[i]'(by rw[HK];omega)=(a,l[i]'(by omega)):=by rw[Iz,e]
    rw[<-this];exact Do _
   ·exact⟨0,λz=>zX z q⟩
  have hs:=λa=>EG (ex a)
  refine⟨λa=>DA (ex a),λg hg=>(hw g hg _).mpr ⟨l3 _ (hs g hg),l4 _ (Jc (hs g hg)).2⟩,λa ha b wc e=>?_⟩;have e:DA (ex a)=DA (ex b):=e;have h1:=hs a ha;rw[e]at h1;exact bA ln h1 (hs b wc)
theorem jA(h:IA o us)(hn:n < 128)(hr:∀g∈rest,0<=g/\g < o)(xE:rest.Nodup):Ok (Qu (tkl o us) rest (n:Int)) λb=>b=true↔∃r,InS us rest (bit n) r:=by
 have sm:=h.sm
 have hlen:((tkl o us).length:Int)=o:=by unfold tkl;rw[AF,CJ]
 have hT:(∀t∈tkl o us,t.length<=1000/\∀x∈t,0<=x)/\∀g∈rest,0<=g/\g < ((tkl o us).length:Int):=by
  refine⟨λt htm=>?_,λg hg=>by rw[hlen];exact hr g hg⟩;obtain⟨g,hg,rfl⟩:=Av.mp htm;obtain⟨g0,g1⟩:=Ce.mp hg;have:=h.tg g0 (by omega);exact⟨by omega,λx hx=>(this.2.1 x hx).1⟩
 have fs:=dv (T:=Tk (tkl o us)) (bits:=(n:Int)) (U:=DW 0 o) (Gd:=λg=>0<=g/\g < o) (n:=9) (gs:=rest) (λg hg x hx=>by
  rw[gP hg.1 hg.2]at hx;have:=(h.tg hg.1 hg.2).2.1 x hx
  exact Ce.mpr ⟨this.1,by omega⟩) (by rw[CJ];omega) (by rw[CJ];omega) (λg hg=>⟨hr g hg,by rw[gP (hr g hg).1 (hr g hg).2];exact Mv.mpr (.inl rfl)⟩) xE
 have pf:Qu (tkl o us) rest (n:Int)=Vv (Tk (tkl o us)) (n:Int) 9 rest:=qX hT;rw[pf]
 exact fs.imp λb hb=>hb.trans (qL h hn hr xE)
end
theorem Tv:z∈DR us x↔((x:Int),z)∈us∨(z,(x:Int))∈us:=by
 rw[<-Z5];exact Bz.symm
theorem Vl:∀{us:List (Int×Int)},us.Nodup->(∀t∈us,t.1 < t.2)->(DR us x).Nodup
 | [],_,_=>EX
 | t :: us,h,h1=>by
  have ih:=Vl (x:=x) (Bd.mp h).2 λs hs=>h1 s (AS _ hs)
  have nt:=(Bd.mp h).1;have lt:=h1 t AT
  have e:DR (t :: us) x=((if t.1=(x:Int)then[t.2]else[])++(if t.2=(x:Int)then[t.1]else[]))++DR us x:=by
   unfold DR;rw[fH]
  rw[e]
  have lt':∀a b:Int,(a,b)∈us->a < b:=λa b hm=>h1 _ (AS _ hm)
  by_cases c1:t.1=(x:Int)
  ·rw[qX c1,qY (by omega),CG]
   show(t.2 :: DR us x).Nodup;rw[Bd];refine⟨λz=>?_,ih⟩
   rcases Tv.mp z with z | z
   ·rw[<-c1]at z;exact nt z
   ·have:=lt' _ _ z;omega
  ·rw[qY c1,kA]
   by_cases c2:t.2=(x:Int)
   ·rw[qX c2]
    show(t.1 :: DR us x).Nodup;rw[Bd];refine⟨λz=>?_,ih⟩
    rcases Tv.mp z with z | z
    ·have:=lt' _ _ z;omega
    ·rw[<-c2]at z;exact nt z
   ·rw[qY c2];exact ih
section
variable{o:Nat}{ts:List (Int×Int)}
theorem PN.ties(h:PN o ts)(ho:o < 8):IA o (Iq ts):=by
 have rg:∀g:Int,0<=g->g < o->∀x∈nr (Iq ts) g.toNat,0<=x/\x < o/\x≠g:=λg h0 h1 x hx=>by
  rw[Z5,h.mem,h.mem,Au h0]at hx
  rcases hx with hx | hx
  ·have:0<=g/\g < x/\x < o:=h.rg _ hx;omega
  ·have:0<=x/\x < g/\g < o:=h.rg _ hx;omega
 have nd:∀g:Int,0<=g->g < o->(nr (Iq ts) g.toNat).Nodup:=λg _ _=>by
  refine(EK _).nodup_iff.mpr (Vl ?_ λt ht=>?_)
  ·rw[(Qj ts).nodup_iff,h.nrm];exact h.nd
  ·exact(h.rg t (h.mem.mp ht)).2.1
 refine⟨ho,λg h0 h1=>?_,rg,nd⟩;have n2:(g :: nr (Iq ts) g.toNat).Nodup:=Bd.mpr ⟨λz=>(rg g h0 h1 g z).2.2 rfl,nd g h0 h1⟩
 have:=IU (k:=DW 0 o) n2 λx hx=>by
  rw[Ce]
  rcases AZ.mp hx with rfl | hx
  ·omega
  ·have:=rg g h0 h1 x hx;omega
 rw[CJ,At]at this;omega
end
end M
namespace L4
theorem WM{ρ σ:Type}{c:σ->Option Bool}{q:σ->Option (Fw ρ σ)}(I:σ->Prop)(μ:σ->Nat)(h:∀s,I s->c s=some false∨(c s=some true/\∃s',q s=some (.nx s')/\I s'/\μ s' < μ s)) :
  ∀(n:Nat) (s:σ),I s->μ s < n->∃s',whF c q n s=some (.nx s')/\I s'/\c s'=some false
 | 0,s,_,hn=>zX hn (OC _)
 | n+1,s,hI,hn=>by
  unfold whF
  rcases h s hI with hc | ⟨hc,s',hq,h2,h3⟩
  ·rw[hc]
   exact⟨s,rfl,hI,hc⟩
  ·rw[hc]
   simp only[AD,if_true];rw[hq];exact WM I μ h n s' h2 (by lia)
end L4
namespace M
open PySem L2 L4
theorem QO(a b:Nat):BH (a:Int) (b:Int)=((a &&& b:Nat):Int):=by
 unfold BH;rw[wX (Kt a),wX (Kt b)];rfl
theorem Wr(a b:Nat):Cg (a:Int) (b:Int)=((a ||| b:Nat):Int):=by
 unfold Cg BH fM;rw[wY (show ¬0<=-(a:Int) - 1 by omega),wY (show ¬0<=-(b:Int) - 1 by omega)];show -(-((((-(-(a:Int) - 1) - 1).toNat ||| (-(-(b:Int) - 1) - 1).toNat:Nat):Nat):Int) - 1) - 1=_;rw[show(-(-(a:Int) - 1) - 1).toNat=a by omega,show(-(-(b:Int) - 1) - 1).toNat=b by omega];omega
theorem hV:∀a b:Nat,(a ||| b)=(a ^^^ b)+(a &&& b):=by
 intro a
 induction a using oH with
 | ind a ih=>
  intro b
  by_cases h:a=0
  ·subst h
   simp
  ·have e:=ih (a / 2) (by omega) (b / 2)
   have h1:=Nat.or_div_two (a:=a) (b:=b);have h2:=Nat.xor_div_two (a:=a) (b:=b);have h3:=Um (a:=a) (b:=b);have m1:(a ||| b) % 2=(a % 2 ||| b % 2):=Nat.or_mod_two_pow (a:=a) (b:=b) (n:=1);have m2:(a ^^^ b) % 2=(a % 2 ^^^ b % 2):=Nat.xor_mod_two_pow (a:=a) (b:=b) (n:=1);have m3:(a &&& b) % 2=(a % 2 &&& b % 2):=Ph (a:=a) (b:=b) (n:=1)
   rcases Ks a with ha | ha <;> rcases Ks b with hb | hb <;> rw[ha,hb]at m1 m2 m3 <;> simp only[Nat.reduceOr,Nat.reduceXor,Nat.reduceAnd]at m1 m2 m3 <;> omega
theorem bB(a b:Nat):CD (a:Int) (b:Int)=((a ^^^ b:Nat):Int):=by
 unfold CD;rw[Wr,QO,hV];omega
theorem bi:∀b:Nat,0 < b->∃i:Nat,b.testBit i=true/\(∀j,j < i->b.testBit j=false)/\b=(b &&& (b - 1))+2 ^ i/\∀j,(b &&& (b - 1)).testBit j=(b.testBit j&&!decide (i=j)):=by
 intro b
 induction b using oH with
 | ind b ih=>
  intro hb
  rcases Ks b with h | h
  ·obtain⟨i,h1,h2,h3,h4⟩:=ih (b / 2) (by omega) (by omega)
   have d:=Um (a:=b) (b:=b - 1);rw[show(b - 1) / 2=b / 2 - 1 by omega]at d;have m3:(b &&& (b - 1)) % 2=(b % 2 &&& (b - 1) % 2):=Ph (a:=b) (b:=b - 1) (n:=1);rw[h]at m3;simp at m3;refine⟨i+1,by rw[Gv];exact h1,λj hj=>?_,?_,λj=>?_⟩
   ·cases j with
    | zero=>rw[Gu];exact wY (by omega)
    | succ j=>rw[Gv];exact h2 j (by omega)
   ·rw[ZS];omega
   ·cases j with
    | zero=>
     rw[Gu,Gu,wY (show ¬(b &&& (b - 1)) % 2=1 by omega),wY (show ¬b % 2=1 by omega)];rfl
    | succ j=>
     rw[Gv,Gv,d,h4 j]
     congr 2
     exact decide_eq_decide.mpr (by omega)
  ·have d:=Um (a:=b) (b:=b - 1)
   rw[show(b - 1) / 2=b / 2 by omega,Nat.and_self]at d;have m3:(b &&& (b - 1)) % 2=(b % 2 &&& (b - 1) % 2):=Ph (a:=b) (b:=b - 1) (n:=1);rw[h,show(b - 1) % 2=0 by omega]at m3;simp at m3;refine⟨0,by rw[Gu];exact wX h,λj hj=>zX hj (OC _),by rw[Nat.pow_zero];omega,λj=>?_⟩
   cases j with
   | zero=>
    rw[Gu,Gu,wY (show ¬(b &&& (b - 1)) % 2=1 by omega),wX h];rfl
   | succ j=>
    rw[Gv,Gv,d];simp
theorem dW{b i:Nat}(h:b=(b &&& (b - 1))+2 ^ i)(hb:0 < b):BH (b:Int) (-(b:Int))=((2 ^ i:Nat):Int):=by
 unfold BH fM;rw[wX (Kt b),wY (show ¬0<=-(b:Int) by omega)];show(b:Int) - ((((b:Int).toNat &&& (- -(b:Int) - 1).toNat:Nat)):Int)=_;rw[show(- -(b:Int) - 1).toNat=b - 1 by omega,Ak];omega
theorem jY(i:Nat):Du ((2 ^ i:Nat):Int)=i+1:=by
 unfold Du;have h:(2 ^ i:Nat)≠0:=Et (oG i);rw[qY (by rw[beq_iff_eq];omega),Int.natAbs_natCast,Nat.log2_two_pow]
def Bm(b:Nat)(l:List Int):Prop:=l.Pairwise (· < ·)/\∀x:Int,x∈l↔0<=x/\b.testBit x.toNat=true
theorem Qz{b N:Nat}(hb:b < 2 ^ N)(hN:N<=1000):Ok (IT (b:Int)) (Bm b):=by
 unfold IT ON;simp only[AD,nR,BI]
 obtain⟨⟨t,l⟩,e,hI,hc⟩:=WM (ρ:=List Int) (c:=λs:List Int×Int=>some (s.2 != 0)) (q:=λs:List Int×Int=>BD ((RG s.1 ((Du (BH s.2 (-s.2)):Int) - 1)).bind λl=>some (.nx l)) λv=>EA (λw=>(v,w)) (some (.nx (BH s.2 (s.2 - 1)))))
  (λs=>∃c:Nat,s.2=c/\s.1.Pairwise (· < ·)/\(∀x∈s.1,0<=x/\x < N/\b.testBit x.toNat=true/\∀j:Nat,c.testBit j=true->x < j)/\(∀j:Nat,b.testBit j=true->(j:Int)∈s.1∨c.testBit j=true)/\(∀j:Nat,c.testBit j=true->b.testBit j=true))
  (λs=>N - s.1.length) (λs ⟨c,hc,h1,h2,h3,h4⟩=>by
   by_cases c0:c=0
   ·left
    rw[hc,c0];rfl
   ·right
    obtain⟨i,q1,q2,q3,q4⟩:=bi c (by omega)
    have hi:i < N:=by
     have:=h4 i q1
     refine j6 λhle=>?_
     have h0:b.testBit i=false:=ZR (AV hb (cT (by decide) hle));rw[h0]at this;cases this
    have hlen:s.1.length < N:=by
     have xE:(s.1++[(i:Int)]).Nodup:=by
      refine Er.mpr ⟨h1.imp λh=>by omega,by simp,λx hx y hy=>?_⟩;rw[AU.mp hy];have:=(h2 x hx).2.2.2 i q1;omega
     have:=IU (k:=DW 0 N) xE λx hx=>by
      rw[Ce]
      rcases A0.mp hx with hx | hx
      ·have:=h2 x hx;omega
      ·rw[AU.mp hx];omega
     rw[CJ,Ag,Ay]at this;exact this
    refine⟨by rw[hc];exact congrArg some (bne_iff_ne.mpr (by omega)),(s.1++[(i:Int)],((c &&& (c - 1):Nat):Int)),?_,⟨_,rfl,?_,λx hx=>?_,λj hj=>?_,λj hj=>?_⟩,?_⟩
    ·rw[hc,dW q3 (by omega),jY,SX (by omega),show(c:Int) - 1=((c - 1:Nat):Int) by omega,QO]
     simp only[AD,BI,md];rw[show((i+1:Nat):Int) - 1=(i:Int) by omega]
    ·refine Gg.mpr ⟨h1,Xj _ _,λx hx y hy=>?_⟩
     rw[AU.mp hy];exact(h2 x hx).2.2.2 i q1
    ·rcases A0.mp hx with hx | hx
     ·obtain⟨a1,a2,a3,a4⟩:=h2 x hx
      refine⟨a1,a2,a3,λj hj=>a4 j ?_⟩;rw[q4 j,Ck]at hj;exact hj.1
     ·rw[AU.mp hx]
      refine⟨by omega,by omega,by rw[Ak];exact h4 i q1,λj hj=>?_⟩;rw[q4 j,Ck]at hj
      have wd:i≠j:=by simpa using hj.2
      have:¬j < i:=λz=>by rw[q2 j z]at hj;exact zX hj.1 AK
      omega
    ·rcases h3 j hj with h | h
     ·exact .inl (BN _ h)
     ·by_cases e:i=j
      ·subst e;exact .inl (by simp)
      ·right
       rw[q4 j,h,wY e];rfl
    ·rw[q4 j,Ck]at hj
     exact h4 j hj.1
    ·show N - (s.1++[(i:Int)]).length < N - s.1.length
     rw[Ag,Ay]
     omega) wN ([],(b:Int)) ⟨b,rfl,.nil,λ_ h=>(nomatch h),λj hj=>.inr hj,λ_ h=>h⟩ (by show N - 0 < wN;unfold wN;omega)
 refine⟨t,?_,?_⟩
 ·rw[e]
  rfl
 ·obtain⟨c,wV,h1,h2,h3,h4⟩:=hI
  have c0:c=0:=by
   have hc:=Bl hc
   have:(c:Int)=0:=by rw[<-wV];simpa using hc
   omega
  subst c0;refine⟨h1,λx=>⟨λhx=>⟨(h2 x hx).1,(h2 x hx).2.2.1⟩,λ⟨x0,hx⟩=>?_⟩⟩
  rcases h3 x.toNat hx with h | h
  ·rwa [Au x0]at h
  ·simp at h
open PySem L2 L4
open Srt (ltL)
theorem Lc:∀{l k:List Int},l.Pairwise (· < ·)->k.Pairwise (· < ·)->(∀x,x∈l↔x∈k)->l=k
 | [],[],_,_,_=>rfl
 | [],y :: k,_,_,h=>zX ((h y).mpr (AT ..)) Iy
 | x :: l,[],_,_,h=>zX ((h x).mp (AT ..)) Iy
 | x :: l,y :: k,hl,hk,h=>by
  have h1:=QR.mp hl;have h2:=QR.mp hk
  have e:x=y:=by
   rcases AZ.mp ((h x).mp (AT ..))with a | a
   ·exact a
   ·rcases AZ.mp ((h y).mpr (AT ..))with b | b
    ·exact b.symm
    ·have:=h2.1 x a
     have:=h1.1 y b;omega
  subst e
  congr 1
  refine Lc h1.2 h2.2 λz=>⟨λhz=>?_,λhz=>?_⟩
  ·rcases AZ.mp ((h z).mp (AS _ hz))with a | a
   ·have:=h1.1 z hz;omega
   ·exact a
  ·rcases AZ.mp ((h z).mpr (AS _ hz))with a | a
   ·have:=h2.1 z hz;omega
   ·exact a
def Zm:List Int->List (List Int)
 | []=>[[]]
 | x :: l=>(Zm l).map (x :: ·)++Zm l
theorem Nr(P:Int->Bool):∀l:List Int,l.filter P∈Zm l
 | []=>by simp[Zm]
 | x :: l=>by
  unfold Zm;rw[List.filter_cons];split
  ·exact BN _ (Av.mpr ⟨_,Nr P l,rfl⟩)
  ·exact BU _ (Nr P l)
def sts(o g:Nat):List (List Int):=(Qt o g).getD []
def Stg(o g:Nat)(r:List Int):Prop:=r.length=g/\(∀x∈r,0<=x/\x < (o:Int))/\r.Pairwise (· < ·)
theorem qE:∀o:Nat,o < 8->∀g:Nat,g < 8->g<=o->1<=g->decide (GD (o,[]) g=some (sts o g)/\sts o g≠[]/\(sts o g).length<=35)=true:=by decide +kernel
theorem Oj(o:Nat)(ho:o < 8)(g:Nat)(h8:g < 8)(hg:g<=o)(h1:1<=g):GD (o,[]) g=some (sts o g)/\sts o g≠[]/\(sts o g).length<=35:=of_decide_eq_true (qE o ho g h8 hg h1)
theorem qD:∀o:Nat,o < 8->∀g:Nat,g < 8->g<=o->1<=g->decide (∀r∈sts o g,r.length=g/\(∀x∈r,0<=x/\x < (o:Int))/\r.Pairwise (· < ·))=true:=by decide +kernel
theorem uT(o:Nat)(ho:o < 8)(g:Nat)(h8:g < 8)(hg:g<=o)(h1:1<=g):∀r∈sts o g,r.length=g/\(∀x∈r,0<=x/\x < (o:Int))/\r.Pairwise (· < ·):=of_decide_eq_true (qD o ho g h8 hg h1)
theorem qC:∀o:Nat,o < 8->∀g:Nat,g < 8->g<=o->1<=g->decide ((sts o g).Pairwise (λa b=>ltL a b=true)/\∀l∈Zm (DW 0 o),l.length=g->l∈sts o g)=true:=by decide +kernel
theorem oR(o:Nat)(ho:o < 8)(g:Nat)(h8:g < 8)(hg:g<=o)(h1:1<=g):(sts o g).Pairwise (λa b=>ltL a b=true)/\∀l∈Zm (DW 0 o),l.length=g->l∈sts o g:=of_decide_eq_true (qC o ho g h8 hg h1)
section
variable{o g:Nat}{us:List (Int×Int)}{r:List Int}
theorem c6(ho:o < 8)(hg:g<=o)(h1:1<=g):GD (o,us) g=some (sts o g):=(show GD (o,us) g=GD (o,[]) g from rfl).trans (Oj o ho g (by omega) hg h1).1
theorem Ev(ho:o < 8)(hg:g<=o)(h1:1<=g):r∈sts o g↔Stg o g r:=by
 have a:=uT o ho g (by omega) hg h1;have b:=(oR o ho g (by omega) hg h1).2;refine⟨a r,λ⟨l,q,p⟩=>?_⟩
 have e:r=(DW 0 o).filter λx=>decide (x∈r):=Lc p ((Pu 0 o).filter _) λx=>by
  rw[BJ,Ce,decide_eq_true_eq];exact⟨λh=>⟨⟨(q x h).1,by have:=(q x h).2;omega⟩,h⟩,λh=>h.2⟩
 have:=b _ (Nr (λx=>decide (x∈r)) (DW 0 o)) (by rw[<-e];exact l);rwa [<-e]at this
theorem Zn(ho:o < 8)(hg:g<=o)(h1:1<=g):(sts o g).Nodup:=by
 have a:=(oR o ho g (by omega) hg h1).1
 exact a.imp λ{a b} ab e=>by
  subst e;rw[Yi]at ab;cases ab
end
theorem Vx(h:ev[i]?=some r):(DJ ev).take (i+1)=(DJ ev).take i++[((i:Int),r)]:=by
 rw[Fu]
 congr 1
 unfold DJ;rw[Ab,Es,h];simp
theorem u5{ev:List (List Int)}(hn:ev.Nodup){i:Nat}{r:List Int}(h:ev[i]?=some r):Aj (nuF ev) r=some (i:Int):=by
 have key:∀k:Nat,k<=ev.length->∀(j:Nat) (s:List Int),j < k->ev[j]?=some s->Aj (((DJ ev).take k).foldl nuS []) s=some (j:Int):=by
  intro k
  induction k with
  | zero=>intro _ j s hj;exact zX hj (OC _)
  | succ k ih=>
   intro hk j s hj hs;have xn:ev[k]?=some (ev[k]'(by omega)):=Aa (by omega);rw[Vx xn,IF];show Aj (B9 _ _ _) s=_;rw[Cu]
   by_cases e:j=k
   ·subst e
    rw[xn]at hs;cases hs;rw[qX rfl]
   ·rw[qY,ih (by omega) j s (by omega) hs]
    intro c;obtain⟨yo,e2⟩:=AC.mp hs;rw[<-e2]at c;exact WF.mp hn j k yo (by omega) (by omega) c
 have:=key ev.length (AL _) i r (AC.mp h).1 h;rwa [FM (by unfold DJ;simp)]at this
def Hb(H:List Int)(n:Nat)(P:Nat->Nat->Prop):Prop:=H.length=n/\∀p:Nat,p < n->∃h:Nat,H[p]?=some (h:Int)/\∀j,h.testBit j=true↔P p j
theorem ij{n k:Nat}:∀(r:List Int) {H:List Int} {P:Nat->Nat->Prop},(∀x∈r,0<=x/\x < (n:Int))->Hb H n P->Hb (r.foldl (hvP (k:Int)) H) n (λp j=>P p j∨((p:Int)∈r/\j=k))
 | [],H,P,_,h=>⟨h.1,λp hp=>by
  obtain⟨b,h1,h2⟩:=h.2 p hp
  exact⟨b,h1,λj=>by rw[h2];simp⟩⟩
 | x :: r,H,P,hr,h=>by
  obtain⟨x0,x1⟩:=hr x (AT ..)
  have h1:Hb (hvP (k:Int) H x) n (λp j=>P p j∨((p:Int)=x/\j=k)):=by
   refine⟨by unfold hvP;rw[D5];exact h.1,λp hp=>?_⟩;obtain⟨b,b1,b2⟩:=h.2 p hp;unfold hvP;rw[D1]
   by_cases c:x.toNat=p
   ·rw[qX c,qX (by rw[h.1];omega)]
    refine⟨b ||| 2 ^ k,?_,λj=>?_⟩
    ·rw[EY,c,b1,RJ,Ak,show(1:Int) * 2 ^ k=((2 ^ k:Nat):Int) by rw[cX];norm_cast,Wr]
    ·rw[WE,Jd,b2,KJ]
     rw[decide_eq_true_eq]
     have:(p:Int)=x:=by omega
     exact or_congr_right ⟨λe=>⟨this,e.symm⟩,λe=>e.2.symm⟩
   ·rw[qY c]
    refine⟨b,b1,λj=>?_⟩;rw[b2]
    have:¬(p:Int)=x:=by omega
    exact⟨.inl,λz=>z.elim id λz=>zX z.1 this⟩
  have h2:=ij (k:=k) r (λy hy=>hr y (AS _ hy)) h1;refine⟨h2.1,λp hp=>?_⟩;obtain⟨b,b1,b2⟩:=h2.2 p hp;refine⟨b,b1,λj=>(b2 j).trans ?_⟩;dsimp only;rw[AZ]
  constructor
  ·rintro((a | ⟨a,e⟩) | ⟨a,e⟩)
   ·exact .inl a
   ·exact .inr ⟨.inl a,e⟩
   ·exact .inr ⟨.inr a,e⟩
  ·rintro(a | ⟨a | a,e⟩)
   ·exact .inl (.inl a)
   ·exact .inl (.inr ⟨a,e⟩)
   ·exact .inr ⟨a,e⟩
theorem vR{n:Nat}{ev:List (List Int)}(hr:∀r∈ev,∀x∈r,0<=x/\x < (n:Int)):Hb (hvF n ev) n (λp j=>∃r,ev[j]?=some r/\(p:Int)∈r):=by
 have key:∀k:Nat,k<=ev.length->Hb (((DJ ev).take k).foldl hvS (hv0 n)) n (λp j=>j < k/\∃r,ev[j]?=some r/\(p:Int)∈r):=by
  intro k
  induction k with
  | zero=>
   intro _;refine⟨by unfold hv0;rw[oJ,VV,AF,CJ],λp hp=>⟨0,?_,λj=>by simp⟩⟩;unfold hv0;rw[oJ,VV,Ab,Aa (by rw[CJ];exact hp)];rfl
  | succ k ih=>
   intro hk;have xn:ev[k]?=some (ev[k]'(by omega)):=Aa (by omega);rw[Vx xn,IF];have h1:=ij (k:=k) ev[k] (hr _ (Do _)) (ih (by omega));refine⟨h1.1,λp hp=>?_⟩;obtain⟨b,b1,b2⟩:=h1.2 p hp;refine⟨b,b1,λj=>(b2 j).trans ?_⟩
   constructor
   ·rintro(⟨a,q⟩ | ⟨a,rfl⟩)
    ·exact⟨by omega,q⟩
    ·exact⟨by omega,_,xn,a⟩
   ·rintro⟨a,r,q1,q2⟩
    by_cases e:j=k
    ·subst e
     rw[xn]at q1;cases q1;exact .inr ⟨q2,rfl⟩
    ·exact .inl ⟨by omega,r,q1,q2⟩
 have:=key ev.length (AL _);rw[FM (by unfold DJ;simp)]at this;refine⟨this.1,λp hp=>?_⟩;obtain⟨b,b1,b2⟩:=this.2 p hp;refine⟨b,b1,λj=>(b2 j).trans ?_⟩;exact⟨λh=>h.2,λ⟨r,h1,h2⟩=>⟨(AC.mp h1).1,r,h1,h2⟩⟩
theorem Jl(h:l.Nodup):(CI l).Pairwise (· < ·):=(VW (TM l) ((EK l).nodup_iff.mpr h)).imp λ⟨a,b⟩=>by omega
theorem KW{s:List Int}(h:s.Pairwise (· < ·)):s.Nodup:=h.imp λh=>by omega
def wst(r:List Int)(a b:Int):List Int:=r.map λx=>if x=a then b else x
theorem t9(hl:r.length<=1000)(a b:Int):Ke r a b=some (wst r a b):=by
 unfold Ke Ka
 rw[FR (f:=λx=>if x=a then b else x) (by omega) λx _=>by
  by_cases c:x=a
  ·rw[wX c,qX rfl,qX c]
  ·rw[wY c,qY AK,qY c]]
 rfl
theorem IY(ha:a∈r):x∈wst r a b↔x=b∨(x∈r/\x≠a):=by
 unfold wst;rw[Av]
 constructor
 ·rintro⟨y,hy,rfl⟩
  split
  ·exact .inl rfl
  ·rename_i c;exact .inr ⟨hy,c⟩
 ·rintro(rfl | ⟨h,c⟩)
  ·exact⟨a,ha,qX rfl⟩
  ·exact⟨x,h,qY c⟩
theorem ZV(hn:r.Nodup)(hb:b∉r):(wst r a b).Nodup:=by
 unfold wst JA;rw[Ca]
 refine hn.imp_of_mem λ{x y} hx hy ne=>?_
 split <;> split
 ·rename_i c d;exact zX (c.trans d.symm) ne
 ·intro e;exact hb (by rw[e];exact hy)
 ·intro e;exact hb (by rw[<-e];exact hx)
 ·exact ne
structure Fk(o g:Nat)(us:List (Int×Int))(kd:Str)(f:Fp):Prop where
 ev:f.ev=sts o g
 kd:f.kd=kd
 tk:f.tk=tkl o us
 nu:f.nu=nuF (sts o g)
 hv:f.hv=hvF o (sts o g)
 pl:f.pb.length=(sts o g).length
 pb:∀(i:Nat) (r:List Int),(sts o g)[i]?=some r->∃n:Nat,f.pb[i]?=some (n:Int)/\n < 128/\∀x:Int,0<=x->x < 7->(n.testBit x.toNat=true↔x∈r)
section
variable{o g:Nat}{us:List (Int×Int)}{kd:Str}{f:Fp}{r r':List Int}{i:Nat}
theorem nP(h:IA o us)(hg:g<=o)(h1:1<=g):Ok (OP (o,us) g kd) (Fk o g us kd):=by
 have sm:=h.sm
 have hb:∀r∈sts o g,∃n:Nat,HF r=some (n:Int)/\n < 128/\∀x:Int,0<=x->x < 7->(n.testBit x.toNat=true↔x∈r):=λr hr=>by
  obtain⟨-,q,-⟩:=(Ev sm hg h1).mp hr
  obtain⟨v,e,n,rfl,b1,b2⟩:=se (l:=r) λx hx=>by have:=q x hx;omega
  exact⟨n,e,b1,λx x0 x7=>by rw[b2 x.toNat (by omega),Au x0]⟩
 obtain⟨-,-,hl⟩:=Oj o sm g (by omega) hg h1;unfold OP;rw[c6 sm hg h1,lE h];simp only[AD]
 rw[FR (f:=λr=>(HF r).getD 0) (by omega) λr hr=>by
  obtain⟨n,e,-⟩:=hb r hr;rw[e]
  rfl]
 simp only[AD];rw[qX ⟨by omega,by show o<=1000;omega,λr hr x hx=>((Ev sm hg h1).mp hr).2.1 x hx⟩];refine⟨_,rfl,rfl,rfl,rfl,rfl,rfl,AF _,λi r hr=>?_⟩;obtain⟨n,e,b1,b2⟩:=hb r (Aq hr);refine⟨n,?_,b1,b2⟩;show((sts o g).map _)[i]?=_;rw[Ab,hr];show some ((HF r).getD 0)=_;rw[e];rfl
def Lk1(us:List (Int×Int))(r r':List Int):Prop:=∃a∈r,∃b∈Tg us a,b∉r/\CI (wst r a b)=r'
def LkA(us:List (Int×Int))(r r':List Int):Prop:=∃s,InS us r (·∈r') s
theorem bD(h:IA o us){a b:Int}(hr:Stg o g r)(ha:a∈r)(hb:b∈Tg us a)(ϥ:b∉r):Stg o g (CI (wst r a b)):=by
 obtain⟨l,q,p⟩:=hr;have qa:=q a ha;have qb:=(h.tg qa.1 qa.2).2.1 b hb;refine⟨by rw[(EK _).length_eq];unfold wst;rw[AF];exact l,λx hx=>?_,Jl (ZV (KW p) ϥ)⟩
 rcases(IY ha).mp (Bz.mp hx)with rfl | ⟨h,_⟩
 ·exact qb
 ·exact q x h
theorem Ll(h:l[i]?=some x):atI l (i:Int)=some x:=KF (by omega) (by rw[Ak];exact h)
theorem jZ{b n:Nat}{P:Nat->Prop}(hb:∀j,b.testBit j=true↔P j)(j:Nat):(b ||| 2 ^ n).testBit j=true↔P j∨n=j:=by
 rw[WE,Jd,hb,KJ,decide_eq_true_eq]
theorem OL{n:Nat}(h:n<=1000000):Oz 1 (n:Int)=some ((2 ^ n:Nat):Int):=by
 unfold Oz;rw[qX ⟨by omega,by omega,by decide⟩,Ak,cX]
 norm_cast
theorem uw(h:IA o us)(hg:g<=o)(h1:1<=g)(F:Fk o g us kd f)(hr:(sts o g)[i]?=some r):Ok (ET f i) λv=>∃l:Nat,v=l/\∀j,l.testBit j=true↔∃r',(sts o g)[j]?=some r'/\Lk1 us r r':=by
 have sm:=h.sm;have hS:=(Ev sm hg h1).mp (Aq hr);obtain⟨-,-,hl⟩:=Oj o sm g (by omega) hg h1;unfold ET ER;rw[F.ev,Ll hr];simp only[AD,BI];refine OkF.out (OkF.seq (OkF.for (λpre (s:Int)=>∃l:Nat,s=l/\∀j,l.testBit j=true↔∃r',(sts o g)[j]?=some r'/\∃a∈pre,∃b∈Tg us a,b∉r/\CI (wst r a b)=r') ⟨0,rfl,λj=>by simp⟩ ?_) ?_)
 ·rintro pre a s ha hp ⟨l,rfl,hl1⟩
  have qa:=hS.2.1 a ha;rw[F.tk,gN qa.1 qa.2];simp only[AD];refine OkF.map (N:=λs:Int=>∃l:Nat,s=l/\∀j,l.testBit j=true↔∃r',(sts o g)[j]?=some r'/\((∃a∈pre,∃b∈Tg us a,b∉r/\CI (wst r a b)=r')∨∃b∈Tg us a,b∉r/\CI (wst r a b)=r')) (OkF.for (λϦ (s:Int)=>∃l:Nat,s=l/\∀j,l.testBit j=true↔∃r',(sts o g)[j]?=some r'/\((∃a∈pre,∃b∈Tg us a,b∉r/\CI (wst r a b)=r')∨∃b∈Ϧ,b∉r/\CI (wst r a b)=r')) ⟨l,rfl,λj=>by rw[hl1];simp⟩ ?_) ?_
  ·rintro Ϧ b s hb zb ⟨l,rfl,xU⟩
   by_cases c:b∈r
   ·rw[wX c]
    refine .nx ⟨l,rfl,λj=>(xU j).trans ⟨λ⟨r',e,z⟩=>⟨r',e,z.imp id λ⟨b,hb,z⟩=>⟨b,BN _ hb,z⟩⟩,λ⟨r',e,z⟩=>⟨r',e,z.imp id λ⟨b',wc,z⟩=>?_⟩⟩⟩
    rcases A0.mp wc with q | q
    ·exact⟨b',q,z⟩
    ·rw[AU.mp q]at z
     exact zX c z.1
   ·rw[wY c]
    have hw:=bD h hS ha hb c;obtain⟨k,hk,ek⟩:=CZ ((Ev sm hg h1).mpr hw)
    have ϧ:(sts o g)[k]?=some (CI (wst r a b)):=by rw[Aa hk,ek]
    simp only[VX,if_true];rw[t9 (by rw[hS.1];omega)];simp only[AD];rw[QG (by unfold wst;rw[AF,hS.1];omega)];simp only[AD];rw[F.nu,u5 (Zn sm hg h1) ϧ];simp only[AD];rw[OL (by omega)];simp only[AD];rw[Wr];refine .nx ⟨_,rfl,λj=>(jZ xU j).trans ⟨?_,?_⟩⟩
    ·rintro(⟨r',e,z⟩ | rfl)
     ·exact⟨r',e,z.imp id λ⟨b,hb,z⟩=>⟨b,BN _ hb,z⟩⟩
     ·exact⟨_,ϧ,.inr ⟨b,by simp,c,rfl⟩⟩
    ·rintro⟨r',e,z | ⟨b',wc,z1,z2⟩⟩
     ·exact .inl ⟨r',e,.inl z⟩
     ·rcases A0.mp wc with q | q
      ·exact .inl ⟨r',e,.inr ⟨b',q,z1,z2⟩⟩
      ·right
       rw[AU.mp q]at z2;rw[<-z2,<-ϧ]at e;exact(fG hk (Zn sm hg h1)).mp e.symm
  ·rintro s ⟨l,rfl,xU⟩
   refine⟨l,rfl,λj=>(xU j).trans ⟨λ⟨r',e,z⟩=>⟨r',e,?_⟩,λ⟨r',e,a',ϑ,z⟩=>⟨r',e,?_⟩⟩⟩
   ·rcases z with⟨a',ϑ,z⟩ | z
    ·exact⟨a',BN _ ϑ,z⟩
    ·exact⟨a,by simp,z⟩
   ·rcases A0.mp ϑ with q | q
    ·exact .inl ⟨a',q,z⟩
    ·rw[AU.mp q]at z
     exact .inr z
 ·rintro s ⟨l,rfl,hl1⟩
  exact .rt ⟨l,rfl,hl1⟩
theorem Vy{α:Type}{ev:List α}{pre:List (Int×α)}{x:Int×α}(h:pre++[x] <+: DJ ev):∃r,ev[pre.length]?=some r/\x=((pre.length:Int),r):=by
 obtain⟨t,ht⟩:=h
 have hx:(DJ ev)[pre.length]?=some x:=by rw[<-ht,Fv];simp
 unfold DJ at hx;rw[Ab,Es]at hx
 cases hr:ev[pre.length]? with
 | none=>rw[hr]at hx;cases hx
 | some r=>rw[hr]at hx;exact⟨r,rfl,by have:=Bl hx;rw[<-this];simp⟩
theorem vc(h:IA o us)(hg:g<=o)(h1:1<=g)(F:Fk o g us kd f)(hr:(sts o g)[i]?=some r):Ok (EU f i) λv=>∃l:Nat,v=l/\∀j,l.testBit j=true↔∃r',(sts o g)[j]?=some r'/\LkA us r r':=by
 have sm:=h.sm;have hS:=(Ev sm hg h1).mp (Aq hr);obtain⟨-,-,hl⟩:=Oj o sm g (by omega) hg h1;unfold EU ES;rw[F.ev,Ll hr];simp only[AD,BI];refine OkF.out (OkF.seq (OkF.for (λpre (s:Int)=>∃l:Nat,s=l/\∀j,l.testBit j=true↔j < pre.length/\∃r',(sts o g)[j]?=some r'/\LkA us r r') ⟨0,rfl,λj=>by simp⟩ ?_) ?_)
 ·rintro pre x s hx hp ⟨l,rfl,hl1⟩
  obtain⟨n',e1,rfl⟩:=Vy hp
  have wk:pre.length < (sts o g).length:=by rw[<-F.pl];exact(AC.mp e1).1
  have er:(sts o g)[pre.length]?=some ((sts o g)[pre.length]):=Aa wk;generalize (sts o g)[pre.length]=r' at er;have yW:=(Ev sm hg h1).mp (Aq er);obtain⟨n,e2,n1,n2⟩:=F.pb _ _ er;rw[e1]at e2;cases e2;obtain⟨b,eb,hb⟩:=jA h n1 (rest:=r) hS.2.1 (KW hS.2.2);rw[F.tk];dsimp only;rw[eb];simp only[AD]
  have wc:b=true↔LkA us r r':=by
   rw[hb]
   refine exists_congr λs=>⟨λq=>q.imp λx hx=>?_,λq=>?_⟩
   ·intro z
    have:=InS.rg h hS.2.1 q x hx;exact(n2 x this.1 (by omega)).mp z
   ·refine q.imp λx _ z=>?_
    have:=yW.2.1 x z;exact(n2 x this.1 (by omega)).mpr z
  have up:∀j,(j < (pre++[((pre.length:Int),(n:Int))]).length/\∃r',(sts o g)[j]?=some r'/\LkA us r r')↔(j < pre.length/\∃r',(sts o g)[j]?=some r'/\LkA us r r')∨(pre.length=j/\LkA us r r'):=λj=>by
   rw[Ag,Ay]
   constructor
   ·rintro⟨a,s,q1,q2⟩
    by_cases e:pre.length=j
    ·subst e
     rw[er]at q1;cases q1;exact .inr ⟨rfl,q2⟩
    ·exact .inl ⟨by omega,s,q1,q2⟩
   ·rintro(⟨a,q⟩ | ⟨rfl,q⟩)
    ·exact⟨by omega,q⟩
    ·exact⟨by omega,r',er,q⟩
  cases b with
  | true=>
   have hL:=wc.mp rfl;rw[qX rfl,OL (by omega)];simp only[AD];rw[Wr];exact .nx ⟨_,rfl,λj=>(jZ hl1 j).trans (Iff.trans ⟨λz=>z.imp id λe=>⟨e,hL⟩,λz=>z.imp id λe=>e.1⟩ (up j).symm)⟩
  | false=>
   have hL:¬LkA us r r':=λz=>by cases wc.mpr z
   exact .nx ⟨l,rfl,λj=>(hl1 j).trans (Iff.trans ⟨.inl,λz=>z.elim id λe=>zX e.2 hL⟩ (up j).symm)⟩
 ·rintro s ⟨l,rfl,hl1⟩
  refine .rt ⟨l,rfl,λj=>(hl1 j).trans ⟨λz=>z.2,λ⟨r',e,z⟩=>⟨?_,r',e,z⟩⟩⟩;rw[show(DJ f.pb).length=f.pb.length by unfold DJ;simp,F.pl];exact(AC.mp e).1
def Lk(kd:Str)(us:List (Int×Int))(r r':List Int):Prop:=if kd = "one" then Lk1 us r r' else LkA us r r'
theorem iR(h:IA o us)(hg:g<=o)(h1:1<=g)(F:Fk o g us kd f)(hr:(sts o g)[i]?=some r):Ok (GF f i) λv=>∃l:Nat,v=l/\∀j,l.testBit j=true↔∃r',(sts o g)[j]?=some r'/\Lk kd us r r':=by
 have sm:=h.sm;obtain⟨-,-,hl⟩:=Oj o sm g (by omega) hg h1;have hi:=(AC.mp hr).1;unfold GF MU;rw[qX ⟨by omega,by omega⟩,F.kd]
 by_cases c:kd = "one"
 ·rw[wX c,qX rfl,show Lk kd us r=Lk1 us r from funext λ_=>qX c]
  exact uw h hg h1 F hr
 ·rw[wY c,qY AK,show Lk kd us r=LkA us r from funext λ_=>qY c]
  exact vc h hg h1 F hr
theorem jd(h:IA o us)(hg:g<=o)(h1:1<=g)(F:Fk o g us kd f)(hr:(sts o g)[i]?=some r){c:Int}(hc:0<=c/\c < o):Ok (E1 f i c) λv=>∃l:Nat,v=l/\∀j,l.testBit j=true↔∃r',(sts o g)[j]?=some r'/\Lk kd us r r'/\c∈r':=by
 obtain⟨v,e,l,rfl,hl⟩:=iR h hg h1 F hr
 obtain⟨-,hv⟩:=vR (n:=o) (ev:=sts o g) λr hr x hx=>((Ev h.sm hg h1).mp hr).2.1 x hx
 obtain⟨b,b1,b2⟩:=hv c.toNat (by omega);unfold E1 Hh;dsimp only;rw[e,F.hv,KF hc.1 b1];simp only[AD];rw[QO];refine⟨_,rfl,_,rfl,λj=>?_⟩;rw[HM,Ck,hl,b2];dsimp only;rw[Au hc.1];exact⟨λ⟨⟨r',e1,q1⟩,r'',e2,q2⟩=>by rw[e1]at e2;cases e2;exact⟨r',e1,q1,q2⟩,λ⟨r',e1,q1,q2⟩=>⟨⟨r',e1,q1⟩,r',e1,q2⟩⟩
theorem na(h:IA o us)(F:Fk o g us kd f)(hr:(sts o g)[i]?=some r):FP f i=some ((DW 0 o).filter λc=>!decide (c∈r)):=by
 have sm:=h.sm;unfold FP Ih;rw[F.ev,Ll hr,F.tk,show(tkl o us).length=o by unfold tkl;rw[AF,CJ]];simp only[AD,BI];rw[OM (by omega) (by omega),Ak];simp only[AD];rw[J8 (P:=λc=>!decide (c∈r)) (by rw[CJ];omega) λ_ _=>rfl];rfl
end
open PySem L2 L4
structure Dl(f:Fp)(N:Nat)(cl:Nat->List Int)(B:Nat->Int->Nat->Prop):Prop where
 ln:f.ev.length=N
 sm:N<=400
 cs:∀n,n < N->FP f n=some (cl n)/\(cl n).length<=1000/\(cl n).Pairwise (· < ·)
 bh:∀n,n < N->∀c∈cl n,Ok (E1 f n c) λv=>∃l:Nat,v=l/\∀j,l.testBit j=true↔B n c j
 rg:∀n c j,B n c j->j < N
abbrev TL:=List (Int×(Int×Int))
structure Fa(N:Nat)(cl:Nat->List Int)(B:Nat->Int->Nat->Prop)(T:TL):Prop where
 nd:(T.map (·.1)).Nodup
 rg:∀n∈T.map (·.1),0<=n/\n < (N:Int)
 ok:∀(m:Nat) z,Aj T (m:Int)=some z->1<=z.1/\z.2∈cl m/\(∀j,B m z.2 j->∃y,Aj T (j:Int)=some y/\y.1 < z.1)/\(∀c∈cl m,c < z.2->∃j,B m c j/\∀y,Aj T (j:Int)=some y->z.1<=y.1)/\(2<=z.1->∀c∈cl m,∃j,B m c j/\∀y,Aj T (j:Int)=some y->z.1<=y.1+1)
 no:∀m:Nat,m < N->Aj T (m:Int)=none->∀c∈cl m,∃j,B m c j/\Aj T (j:Int)=none
 hi:∀(m:Nat) z,Aj T (m:Int)=some z->z.1<=N
section
variable{f:Fp}{N:Nat}{cl:Nat->List Int}{B:Nat->Int->Nat->Prop}{b:Nat}
def R7(B:Nat->Int->Nat->Prop)(b m:Nat)(c:Int):Prop:=∀j,B m c j->b.testBit j=false
def Fst(cl:Nat->List Int)(B:Nat->Int->Nat->Prop)(b m:Nat)(c:Int):Prop:=c∈cl m/\R7 B b m c/\∀c'∈cl m,c' < c->¬R7 B b m c'
theorem Tt(h:¬R7 B b m c):∃j,B m c j/\b.testBit j=true:=GV λz=>h λj hj=>by
 cases hb:b.testBit j with
 | false=>rfl
 | true=>exact zX ⟨j,hj,hb⟩ z
theorem ji:(a &&& b)=0↔∀j,a.testBit j=true->b.testBit j=false:=by
 constructor
 ·intro h j hj
  have:wD (a &&& b) j=wD 0 j:=by rw[h]
  rw[HM,hj,Bool.true_and,Se]at this;exact this
 ·intro h
  refine Nat.eq_of_testBit_eq λj=>?_
  rw[HM,Se]
  cases ha:a.testBit j with
  | false=>rfl
  | true=>rw[h j ha];rfl
def FN(cl:Nat->List Int)(B:Nat->Int->Nat->Prop)(b:Nat)(K:List (Int×Int)):Prop:=(K.map (·.1)).Nodup/\(∀n∈K.map (·.1),0<=n/\b.testBit n.toNat=true)/\∀(m:Nat) c,Aj K (m:Int)=some c↔b.testBit m=true/\Fst cl B b m c
theorem XR(hb:b < 2 ^ N)(h:b.testBit i=true):i < N:=j6 λhle=>by
 have h0:b.testBit i=false:=ZR (AV hb (cT (by decide) hle));rw[h0]at h;cases h
theorem P6{α:Type}{K:List (Int×α)}(h1:(K.map (·.1)).Nodup)(h2:∀n∈K.map (·.1),0<=n/\n < (N:Int)):K.length<=N:=by
 have:=IU (k:=DW 0 N) h1 λx hx=>by rw[Ce];have:=h2 x hx;omega
 rwa [CJ,AF]at this
open Classical in
theorem Vw(D:Dl f N cl B)(hb:b < 2 ^ N):Ok (En f (b:Int)) (FN cl B b):=by
 obtain⟨l,e,lu,lm⟩:=Qz hb (by have:=D.sm;omega)
 have hlN:∀x∈l,0<=x/\x < (N:Int):=λx hx=>by
  obtain⟨x0,hx⟩:=(lm x).mp hx;have:=XR hb hx;omega
 unfold En Ib;rw[e];simp only[AD,BI];refine OkF.out (OkF.seq (OkF.for (λpre (s:List (Int×Int))=>(s.map (·.1)).Nodup/\(∀n∈s.map (·.1),n∈pre)/\∀(m:Nat) c,Aj s (m:Int)=some c↔(m:Int)∈pre/\Fst cl B b m c) ⟨by simp,λ_ h=>h,λm c=>⟨λh=>(nomatch h),λh=>(nomatch h.1)⟩⟩ ?_) ?_)
 ·rintro pre x s hx hp ⟨s1,s2,s3⟩
  obtain⟨x0,hxb⟩:=(lm x).mp hx
  obtain⟨m,rfl⟩:∃m:Nat,x=m:=⟨x.toNat,by omega⟩
  rw[Ak]at hxb;have hm:=XR hb hxb;obtain⟨c1,c2,c3⟩:=D.cs m hm
  have hxp:(m:Int)∉pre:=by
   have:=lu.sublist hp.sublist;rw[Gg]at this;intro z;have:=this.2.2 _ z _ (Xl _);omega
  rw[c1];simp only[AD]
  rw[J8 (P:=λc=>decide (R7 B b m c)) (by omega) λc hc=>by
   obtain⟨v,e1,q,rfl,hq⟩:=D.bh m hm c hc;rw[e1];simp only[AD];rw[QO]
   congr 1
   refine decide_eq_decide.mpr ?_;rw[show((q &&& b:Nat):Int)=0↔(q &&& b)=0 by omega,ji]
   exact forall_congr' λj=>imp_congr_left (hq j)]
  simp only[AD,BI]
  have fl:∀c,c∈(cl m).filter (λc=>decide (R7 B b m c))↔c∈cl m/\R7 B b m c:=λc=>by rw[BJ,decide_eq_true_eq]
  have fu:((cl m).filter λc=>decide (R7 B b m c)).Pairwise (· < ·):=c3.filter _;generalize (cl m).filter (λc=>decide (R7 B b m c))=lost at fl fu
  cases lost with
  | nil=>
   have nf:∀c,¬Fst cl B b m c:=λc ⟨h1,h2,_⟩=>nomatch (fl c).mpr ⟨h1,h2⟩
   refine .nx ⟨s1,λn hn=>BN _ (s2 n hn),λk c=>(s3 k c).trans ⟨λ⟨a,q⟩=>⟨BN _ a,q⟩,λ⟨a,q⟩=>⟨?_,q⟩⟩⟩
   rcases A0.mp a with a | a
   ·exact a
   ·have e:k=m:=by have:=AU.mp a;omega
    subst e;exact zX q (nf c)
  | cons c0 lost=>
   have f0:Fst cl B b m c0:=by
    obtain⟨h1,h2⟩:=(fl c0).mp (AT ..);refine⟨h1,h2,λc' h3 h4 h5=>?_⟩
    rcases AZ.mp ((fl c').mpr ⟨h3,h5⟩)with h | h
    ·omega
    ·have:=(QR.mp fu).1 c' h;omega
   have f1:∀c,Fst cl B b m c↔c=c0:=λc=>⟨λ⟨h1,h2,h3⟩=>by
    rcases Int.lt_trichotomy c c0 with h | h | h
    ·exact zX h2 (f0.2.2 c h1 h)
    ·exact h
    ·exact zX f0.2.1 (h3 c0 f0.1 h),λh=>by rw[h];exact f0⟩
   have hsl:s.length<=N:=P6 s1 λn hn=>hlN n ((List.sublist_append_left pre [(m:Int)]).trans hp.sublist |>.subset (s2 n hn))
   have hN:=D.sm;rw[show(!(c0 :: lost).isEmpty)=true from rfl,qX rfl,show atI (c0 :: lost) 0=some c0 from KF (by decide) rfl];simp only[AD];rw[show HD s (m:Int) c0=some (B9 s (m:Int) c0)from qX (by omega)];refine .nx ⟨?_,λn hn=>?_,λk c=>?_⟩
   ·rw[Hn]
    split
    ·exact s1
    ·rename_i hk
     exact Er.mpr ⟨s1,by simp,λy hy z hz=>by rw[AU.mp hz];intro e;subst e;exact hk hy⟩
   ·rw[Hn]at hn
    split at hn
    ·exact BN _ (s2 n hn)
    ·rcases A0.mp hn with h | h
     ·exact BN _ (s2 n h)
     ·exact BU _ h
   ·rw[Cu]
    by_cases e:(k:Int)=m
    ·have e':k=m:=by omega
     subst e';rw[qX rfl,f1];exact⟨λh=>⟨by simp,(Bl h).symm⟩,λh=>by rw[h.2]⟩
    ·rw[qY e,s3]
     refine and_congr_left λ_=>⟨BN _,λh=>?_⟩
     rcases A0.mp h with h | h
     ·exact h
     ·exact zX (AU.mp h) e
 ·rintro s ⟨s1,s2,s3⟩
  refine .rt ⟨s1,λn hn=>(lm n).mp (s2 n hn),λm c=>(s3 m c).trans (and_congr_left λ_=>?_)⟩;rw[lm];exact⟨λh=>by rw[Ak]at h;exact h.2,λh=>⟨by omega,by rw[Ak];exact h⟩⟩
structure Rnd(N:Nat)(cl:Nat->List Int)(B:Nat->Int->Nat->Prop)(s:TL×Int×Int×List (Int×Int))(b:Nat):Prop where
 lf:s.2.1=b
 lt:b < 2 ^ N
 bt:∀j,b.testBit j=true↔j < N/\Aj s.1 (j:Int)=none
 st:1<=s.2.2.1
 nd:(s.1.map (·.1)).Nodup
 rg:∀n∈s.1.map (·.1),0<=n/\n < (N:Int)
 ok:∀(m:Nat) z,Aj s.1 (m:Int)=some z->z.1 < s.2.2.1/\1<=z.1/\z.2∈cl m/\(∀j,B m z.2 j->∃y,Aj s.1 (j:Int)=some y/\y.1 < z.1)/\(∀c∈cl m,c < z.2->∃j,B m c j/\∀y,Aj s.1 (j:Int)=some y->z.1<=y.1)/\(2<=z.1->∀c∈cl m,∃j,B m c j/\∀y,Aj s.1 (j:Int)=some y->z.1<=y.1+1)
 mn:2<=s.2.2.1->∀m:Nat,m < N->Aj s.1 (m:Int)=none->∀c∈cl m,∃j,B m c j/\∀y,Aj s.1 (j:Int)=some y->s.2.2.1<=y.1+1
 fn:FN cl B b s.2.2.2
 sl:s.2.2.1<=s.1.length+1
theorem Yk{l:List Int}{P:Int->Prop}(h:∃c∈l,P c):∃c∈l,P c/\∀c'∈l,c' < c->¬P c':=by
 induction l with
 | nil=>obtain⟨c,h,_⟩:=h;cases h
 | cons x l ih=>
  by_cases hl:∃c∈l,P c
  ·obtain⟨c,h1,h2,h3⟩:=ih hl
   by_cases hx:P x/\x < c
   ·exact⟨x,AT ..,hx.1,λc' h4 h5 h6=>by
     rcases AZ.mp h4 with h | h
     ·omega
     ·exact h3 c' h (by omega) h6⟩
   ·exact⟨c,AS _ h1,h2,λc' h4 h5 h6=>by
     rcases AZ.mp h4 with h | h
     ·exact hx ⟨by rw[<-h];exact h6,by omega⟩
     ·exact h3 c' h h5 h6⟩
  ·obtain⟨c,h1,h2⟩:=h
   rcases AZ.mp h1 with h | h
   ·subst h
    exact⟨c,AT ..,h2,λc' h4 h5 h6=>by
     rcases AZ.mp h4 with h | h
     ·omega
     ·exact hl ⟨c',h,h6⟩⟩
   ·exact zX ⟨c,h,h2⟩ hl
theorem lT(D:Dl f N cl B)(h:Rnd N cl B s b)(wd:s.2.2.2≠[]) :
  ∃s' b',BD (EV (s.2.2.2.map (·.1)) (s.1,s.2.1) λ(xA:TL×Int) wR=>BD (((Aj s.2.2.2 wR).bind λxg=>some (s.2.2.1,xg)).bind λyd=>(HD xA.1 wR yd).bind λyU=>some (.nx yU)) λxC=>EA (λzm=>(xC,zm)) ((Oz (1:Int) wR).bind λxZ=>some (.nx (CD xA.2 xZ)))) (λyf=>BD (some (.nx (s.2.2.1+(1:Int)))) λMy=>EA (λM'=>(yf.1,yf.2,My,M')) ((En f yf.2).bind λyV=>some (.nx yV)))=some (.nx (ρ:=TL) s')/\Rnd N cl B s' b'/\s.1.length < s'.1.length:=by
 obtain⟨T,left,wJ,K⟩:=s;obtain⟨lf,lt,bt,st,nd,rg,ok,mn,fn,sl⟩:=h;dsimp only at lf bt st nd rg ok mn fn wd sl ⊢;subst lf;have hN:=D.sm;obtain⟨k1,k2,k3⟩:=fn
 have kN:∀n∈K.map (·.1),0<=n/\n < (N:Int):=λn hn=>by
  obtain⟨a,q⟩:=k2 n hn;have:=XR lt q;omega
 have kT:∀n∈K.map (·.1),Aj T n=none:=λn hn=>by
  obtain⟨a,q⟩:=k2 n hn;have:=((bt _).mp q).2;rwa [Au a]at this
 obtain⟨⟨T',left'⟩,e,t1,t2,t3,b',rfl,b1,b2⟩:=SU (ρ:=TL) (l:=K.map (·.1)) (s0:=(T,(b:Int))) (q:=λ(xA:TL×Int) wR=>BD (((Aj K wR).bind λxg=>some (wJ,xg)).bind λyd=>(HD xA.1 wR yd).bind λyU=>some (.nx yU)) λxC=>EA (λzm=>(xC,zm)) ((Oz (1:Int) wR).bind λxZ=>some (.nx (CD xA.2 xZ))))
  (λpre s=>(s.1.map (·.1)).Nodup/\(∀n∈s.1.map (·.1),0<=n/\n < (N:Int))/\(∀n,Aj s.1 n=if n∈pre then(Aj K n).map λc=>(wJ,c)else Aj T n)/\∃b':Nat,s.2=b'/\b' < 2 ^ N/\∀j:Nat,b'.testBit j=true↔b.testBit j=true/\(j:Int)∉pre)
  ⟨nd,rg,λn=>by simp,b,rfl,lt,λj=>by simp⟩ (by
   rintro pre x ⟨T',left'⟩ hx hp ⟨t1,t2,t3,b',rfl,b1,b2⟩;dsimp only at t1 t2 t3 ⊢;obtain⟨x0,xN⟩:=kN x hx;obtain⟨-,xb⟩:=k2 x hx
   have xp:x∉pre:=by
    have:=k1.sublist hp.sublist;unfold JA at this;rw[Gg]at this
    exact λz=>this.2.2 _ z _ (Xl _) rfl
   obtain⟨c,hc⟩:=Dm.mp ((DP K x).mpr hx);have hl:=P6 t1 t2;rw[hc];simp only[AD];rw[show HD T' x (wJ,c)=some (B9 T' x (wJ,c))from qX (by omega)];simp only[AD,BI];rw[show x=((x.toNat:Nat):Int) by omega,OL (by omega)];simp only[AD];rw[bB,<-show x=((x.toNat:Nat):Int) by omega];refine⟨_,rfl,?_,λn hn=>?_,λn=>?_,_,rfl,Nat.xor_lt_two_pow b1 (Nat.pow_lt_pow_right (by decide) (by omega)),λj=>?_⟩
   ·rw[Hn]
    split
    ·exact t1
    ·rename_i hk
     exact Er.mpr ⟨t1,by simp,λy hy z hz=>by rw[AU.mp hz];intro e;subst e;exact hk hy⟩
   ·rw[Hn]at hn
    split at hn
    ·exact t2 n hn
    ·rcases A0.mp hn with h | h
     ·exact t2 n h
     ·rw[AU.mp h];exact⟨x0,xN⟩
   ·rw[Cu]
    by_cases e:n=x
    ·subst e
     rw[qX rfl,qX (by simp),hc];rfl
    ·rw[qY e,t3]
     have:n∈pre++[x]↔n∈pre:=by rw[A0,AU];exact⟨λz=>z.elim id λz=>zX z e,.inl⟩
     simp only[this]
   ·rw[Nat.testBit_xor,KJ,bne_iff_ne,ne_eq,A0,AU]
    have wc:=b2 j
    by_cases e:x.toNat=j
    ·subst e
     rw[wX rfl];have:b'.testBit x.toNat=true:=(b2 _).mpr ⟨xb,by rw[Au x0];exact xp⟩;rw[this];refine⟨λz=>zX rfl z,λz=>zX (.inr (by omega)) z.2⟩
    ·rw[wY e]
     have:¬(j:Int)=x:=by omega
     rw[fN,wc]
     exact and_congr_right λ_=>⟨λz q=>q.elim z this,λz q=>z (.inl q)⟩)
 rw[e];simp only[BI];dsimp only at t1 t2 t3;obtain⟨K',eK,hK⟩:=Vw D b1;rw[eK]
 have tv:∀n,Aj T' n=match Aj K n with | some c=>some (wJ,c) | none=>Aj T n:=λn=>by
  rw[t3]
  by_cases h:n∈K.map (·.1)
  ·rw[qX h]
   obtain⟨c,hc⟩:=Dm.mp ((DP K n).mpr h);rw[hc];rfl
  ·rw[qY h]
   cases hc:Aj K n with
   | none=>rfl
   | some c=>exact zX ((DP K n).mp (by rw[hc];rfl)) h
 have told:∀n z,Aj T n=some z->Aj T' n=some z:=λn z hz=>by
  rw[tv]
  cases hc:Aj K n with
  | none=>exact hz
  | some c=>
   have:=kT n ((DP K n).mp (by rw[hc];rfl));rw[this]at hz;cases hz
 have yw:∀n z,Aj T' n=some z->Aj T n=some z∨(Aj T n=none/\z.1=wJ):=λn z hz=>by
  rw[tv]at hz
  cases hc:Aj K n with
  | none=>rw[hc]at hz;exact .inl hz
  | some c=>
   rw[hc]at hz;cases hz;exact .inr ⟨kT n ((DP K n).mp (by rw[hc];rfl)),rfl⟩
 have bt':∀j,b'.testBit j=true↔j < N/\Aj T' (j:Int)=none:=λj=>by
  rw[b2,bt,tv]
  constructor
  ·rintro⟨⟨h1,h2⟩,h3⟩
   refine⟨h1,?_⟩
   cases hc:Aj K (j:Int)with
   | none=>exact h2
   | some c=>exact zX ((DP K _).mp (by rw[hc];rfl)) h3
  ·rintro⟨h1,h2⟩
   cases hc:Aj K (j:Int)with
   | none=>rw[hc]at h2;exact⟨⟨h1,h2⟩,λz=>by have:=(DP K _).mpr z;rw[hc]at this;cases this⟩
   | some c=>rw[hc]at h2;cases h2
 have up:∀(j:Nat) (r:Int),r<=wJ->(∀y,Aj T (j:Int)=some y->r<=y.1)->∀y,Aj T' (j:Int)=some y->r<=y.1:=λj r hr h y hy=>by
  rcases yw _ _ hy with h1 | ⟨_,h2⟩
  ·exact h y h1
  ·omega
 have hlen:T.length < T'.length:=by
  cases K with
  | nil=>exact zX rfl wd
  | cons x K=>
   have hx:=kT x.1 (AT ..);have hn:((x.1:Int) :: T.map (·.1)).Nodup:=Bd.mpr ⟨λz=>AK (by have:=(DP T _).mpr z;rw[hx]at this;exact this),nd⟩
   have:=IU (k:=T'.map (·.1)) hn λy hy=>by
    rw[<-DP]
    rcases AZ.mp hy with h | h
    ·subst h
     rw[tv];obtain⟨c,hc⟩:=Dm.mp ((DP (x :: K) x.1).mpr (AT ..));rw[hc];rfl
    ·obtain⟨z,hz⟩:=Dm.mp ((DP T y).mpr h)
     rw[told _ _ hz];rfl
   rw[At,AF,AF]at this;omega
 refine⟨(T',(b':Int),wJ+1,K'),b',rfl,⟨rfl,b1,bt',by show 1<=wJ+1;omega,t1,t2,λm z hz=>?_,λ_ m hm hz c hc=>?_,hK,by show wJ+1<=(T'.length:Int)+1;omega⟩,hlen⟩
 ·dsimp only at hz ⊢
  rcases yw _ _ hz with h1 | ⟨h1,h2⟩
  ·obtain⟨o1,o2,o3,o4,o5,o6⟩:=ok m z h1
   refine⟨by omega,o2,o3,λj hj=>?_,λc hc wk=>?_,λh2 c hc=>?_⟩
   ·obtain⟨y,y1,y2⟩:=o4 j hj
    exact⟨y,told _ _ y1,y2⟩
   ·obtain⟨j,j1,j2⟩:=o5 c hc wk
    exact⟨j,j1,up j z.1 (by omega) j2⟩
   ·obtain⟨j,j1,j2⟩:=o6 h2 c hc
    refine⟨j,j1,λy hy=>?_⟩;have:=up j (z.1 - 1) (by omega) (λy hy=>by have:=j2 y hy;omega) y hy;omega
  ·obtain⟨r,c⟩:=z
   have hc:Aj K (m:Int)=some c:=by
    have:=tv (m:Int);rw[hz]at this
    cases hc:Aj K (m:Int)with
    | none=>rw[hc,h1]at this;cases this
    | some c'=>rw[hc]at this;cases this;rfl
   dsimp only at h2;subst h2;obtain⟨f0,f1,f2,f3⟩:=(k3 m c).mp hc;refine⟨by dsimp only;omega,st,f1,λj hj=>?_,λc' wV wk=>?_,λh2 c' wV=>?_⟩
   ·have hjN:=D.rg _ _ _ hj
    cases hv:Aj T (j:Int)with
    | none=>
     have:=(bt j).mpr ⟨hjN,hv⟩;rw[f2 j hj]at this;cases this
    | some y=>exact⟨y,told _ _ hv,(ok j y hv).1⟩
   ·obtain⟨j,j1,j2⟩:=Tt (f3 c' wV wk)
    refine⟨j,j1,λy hy=>?_⟩
    rcases yw _ _ hy with q | ⟨_,q⟩
    ·rw[((bt j).mp j2).2]at q;cases q
    ·dsimp only;omega
   ·obtain⟨j,j1,j2⟩:=mn h2 m ((bt m).mp f0).1 h1 c' wV
    refine⟨j,j1,λy hy=>?_⟩
    rcases yw _ _ hy with q | ⟨_,q⟩
    ·exact j2 y q
    ·dsimp only;omega
 ·dsimp only at hz ⊢
  obtain⟨h1,h2⟩:=(b2 m).mp ((bt' m).mpr ⟨hm,hz⟩)
  have nl:¬R7 B b m c:=λhl=>by
   obtain⟨c0,q1,q2,q3⟩:=Yk (P:=R7 B b m) ⟨c,hc,hl⟩;have:=(k3 m c0).mpr ⟨h1,q1,q2,q3⟩;exact h2 ((DP K _).mp (by rw[this];rfl))
  obtain⟨j,j1,j2⟩:=Tt nl;refine⟨j,j1,λy hy=>?_⟩
  rcases yw _ _ hy with q | ⟨_,q⟩
  ·rw[((bt j).mp j2).2]at q;cases q
  ·omega
theorem jE(D:Dl f N cl B):Ok (Pz f) (Fa N cl B):=by
 have hN:=D.sm;unfold Pz Pw;rw[D.ln,OL (by omega)];simp only[AD,BI];have hp:0 < 2 ^ N:=oG N;rw[show((2 ^ N:Nat):Int) - 1=((2 ^ N - 1:Nat):Int) by omega]
 have lt:2 ^ N - 1 < 2 ^ N:=by omega
 obtain⟨K,eK,hK⟩:=Vw D lt;rw[eK];simp only[AD,BI];have R0:Rnd N cl B ([],((2 ^ N - 1:Nat):Int),1,K) (2 ^ N - 1):=⟨rfl,lt,λj=>by rw[Nat.testBit_two_pow_sub_one,decide_eq_true_eq];exact⟨λh=>⟨h,rfl⟩,λh=>h.1⟩,wF 1,EX,λ_ h=>(nomatch h),λm z h=>(nomatch h),λh=>zX (show(2:Int)<=1 from h) (by decide),hK,wF 1⟩
 obtain⟨s',e,⟨b,h⟩,hc⟩:=WM (ρ:=TL) (c:=λ(wO:TL×Int×Int×(List (Int×Int)))=>some (!wO.2.2.2.isEmpty)) (q:=λ(s:TL×Int×Int×(List (Int×Int)))=>BD (EV (s.2.2.2.map (·.1)) (s.1,s.2.1) λ(xA:TL×Int) wR=>BD (((Aj s.2.2.2 wR).bind λxg=>some (s.2.2.1,xg)).bind λyd=>(HD xA.1 wR yd).bind λyU=>some (.nx yU)) λxC=>EA (λzm=>(xC,zm)) ((Oz (1:Int) wR).bind λxZ=>some (.nx (CD xA.2 xZ)))) (λyf=>BD (some (.nx (s.2.2.1+(1:Int)))) λMy=>EA (λM'=>(yf.1,yf.2,My,M')) ((En f yf.2).bind λyV=>some (.nx yV)))) (λs=>∃b,Rnd N cl B s b) (λs=>N - s.1.length) (λs ⟨b,h⟩=>by
   cases hk:s.2.2.2 with
   | nil=>left;rfl
   | cons x K=>
    right
    obtain⟨s',b',e1,e2,e3⟩:=lT D h (by rw[hk];exact λz=>nomatch z);rw[hk]at e1;refine⟨rfl,s',e1,⟨b',e2⟩,?_⟩;have:=P6 e2.nd e2.rg;show N - s'.1.length < N - s.1.length
    omega) wN _ ⟨_,R0⟩ (by show N - 0 < wN;unfold wN;omega)
 simp only[BI]at e;rw[e];refine⟨s'.1,rfl,?_⟩
 have hk:s'.2.2.2=[]:=by
  have:=Bl hc
  cases hk:s'.2.2.2 with
  | nil=>rfl
  | cons x K=>rw[hk]at this;cases this
 obtain⟨lf,lt,bt,st,nd,rg,ok,mn,fn,sl⟩:=h;refine⟨nd,rg,λm z hz=>(ok m z hz).2,λm hm hz c hc=>?_,λm z hz=>by have:=(ok m z hz).1;have:=P6 nd rg;omega⟩;have hb:=(bt m).mpr ⟨hm,hz⟩
 have nl:¬R7 B b m c:=λhl=>by
  obtain⟨c0,q1,q2,q3⟩:=Yk (P:=R7 B b m) ⟨c,hc,hl⟩;have:=(fn.2.2 m c0).mpr ⟨hb,q1,q2,q3⟩;rw[hk]at this;cases this
 obtain⟨j,j1,j2⟩:=Tt nl;exact⟨j,j1,((bt j).mp j2).2⟩
end
theorem cy(l:List Int)(x:Int):TF (l++[x])=TF l+x:=by
 rw[Wa,Wa,List.sum_append];simp
theorem lI(P:Int->Bool):∀n:Nat,∃b:Nat,TF (((DW 0 n).filter P).map λx=>((2 ^ x.toNat:Nat):Int))=b/\b < 2 ^ n/\∀j,b.testBit j=true↔j < n/\P (j:Int)=true:=by
 intro n
 induction n with
 | zero=>exact⟨0,rfl,by decide,λj=>by simp⟩
 | succ n ih=>
  obtain⟨b,h1,h2,h3⟩:=ih
  have e:DW 0 (n+1)=DW 0 n++[(n:Int)]:=by
   unfold DW;rw[NJ,CU];simp
  rw[e,RX]
  by_cases hp:P (n:Int)=true
  ·rw[qX hp,CU,List.map_singleton,cy,h1,Ak]
   refine⟨b+2 ^ n,by omega,by rw[ZS];omega,λj=>?_⟩;have ho:=Nat.two_pow_add_eq_or_of_lt h2 1;rw[Nat.mul_one]at ho;rw[Nat.add_comm,ho,WE,KJ,Jd,decide_eq_true_eq,h3]
   constructor
   ·rintro(rfl | ⟨a,q⟩)
    ·exact⟨by omega,hp⟩
    ·exact⟨by omega,q⟩
   ·rintro⟨a,q⟩
    by_cases e:n=j
    ·exact .inl e
    ·exact .inr ⟨by omega,q⟩
  ·rw[qY hp]
   refine⟨b,h1,by rw[ZS];omega,λj=>(h3 j).trans ⟨λ⟨a,q⟩=>⟨by omega,q⟩,λ⟨a,q⟩=>⟨?_,q⟩⟩⟩
   by_cases e:j=n
   ·subst e;exact zX q hp
   ·omega
section
variable{f:Fp}{N:Nat}{cl:Nat->List Int}{B:Nat->Int->Nat->Prop}{T:TL}
theorem eR(D:Dl f N cl B):∃b:Nat,Hj f T=some (b:Int)/\b < 2 ^ N/\∀j,b.testBit j=true↔j < N/\Aj T (j:Int)=none:=by
 have hN:=D.sm;obtain⟨b,h1,h2,h3⟩:=lI (λx=>!(Aj T x).isSome) N;refine⟨b,?_,h2,λj=>(h3 j).trans (and_congr_right λ_=>by cases Aj T (j:Int) <;> simp)⟩;unfold Hj Ha;rw[D.ln];simp only[AD];rw[OM (by omega) (by omega),Ak];simp only[AD]
 rw[QK (P:=λx=>!(Aj T x).isSome) (f:=λx=>((2 ^ x.toNat:Nat):Int)) (by rw[CJ];omega) (λ_ _=>rfl) λx hx _=>by
  obtain⟨x0,x1⟩:=Ce.mp hx
  conv=>lhs;rw[show x=((x.toNat:Nat):Int) by omega]
  exact OL (by omega)]
 simp only[AD];rw[h1];rfl
end
def evN(o g:Nat)(n:Int):List Int:=(sts o g).getD n.toNat []
def clS(o g:Nat)(n:Nat):List Int:=(DW 0 o).filter λc=>!decide (c∈evN o g n)
def BS(o g:Nat)(us:List (Int×Int))(kd:Str)(n:Nat)(c:Int)(j:Nat):Prop:=∃r r',(sts o g)[n]?=some r/\(sts o g)[j]?=some r'/\Lk kd us r r'/\c∈r'
section
variable{o g:Nat}{us:List (Int×Int)}{kd:Str}{f:Fp}
theorem J7{n:Nat}{r:List Int}(h:(sts o g)[n]?=some r):evN o g n=r:=by
 unfold evN;rw[Ak,EY,h];rfl
theorem oq(h:IA o us)(hg:g<=o)(h1:1<=g)(F:Fk o g us kd f):Dl f (sts o g).length (clS o g) (BS o g us kd):=by
 have sm:=h.sm;obtain⟨-,-,hl⟩:=Oj o sm g (by omega) hg h1;refine⟨by rw[F.ev],by omega,λn hn=>?_,λn hn c hc=>?_,λn c j ⟨r,r',_,e,_⟩=>(AC.mp e).1⟩
 ·have hr:=Aa hn
  refine⟨?_,?_,(Pu 0 o).filter _⟩
  ·rw[na h F hr]
   unfold clS;rw[J7 hr]
  ·have:=Dh (λc=>!decide (c∈evN o g n)) (DW 0 o)
   rw[CJ]at this;unfold clS;omega
 ·have hr:=Aa hn
  unfold clS at hc;obtain⟨h2,-⟩:=BJ.mp hc;obtain⟨c0,c1⟩:=Ce.mp h2
  refine(jd h hg h1 F hr (c:=c) ⟨c0,by omega⟩).imp λv ⟨l,e,hl⟩=>⟨l,e,λj=>(hl j).trans ⟨λ⟨r',q⟩=>⟨_,r',hr,q⟩,λ⟨r,r',q1,q⟩=>?_⟩⟩
  rw[hr]at q1;cases q1;exact⟨r',q⟩
end
open PySem L2 L4
open Srt (ltL)
def Ans(kd:Str)(us:List (Int×Int))(r:List Int)(c:Int)(s:List Int):Prop:=if kd = "one" then ∃a∈r,c∈nr us a.toNat/\s=wst r a c else jj us r c s
theorem SI{s r:List Int}(hs:s.Nodup)(h:∀x∈s,x∈r)(hl:s.length=r.length):∀x∈r,x∈s:=λx hx=>GV λhn=>by
 have:=IU (k:=r) (Bd.mpr ⟨hn,hs⟩) λy hy=>by
  rcases AZ.mp hy with rfl | hy
  ·exact hx
  ·exact h y hy
 rw[At]at this;omega
section
variable{o g:Nat}{us:List (Int×Int)}{kd:Str}{r r':List Int}{c:Int}
theorem SY(h:IA o us)(hr:Stg o g r)(hc:c∉r):(∃s,Ans kd us r c s/\CI s=r')↔Stg o g r'/\Lk kd us r r'/\c∈r':=by
 unfold Ans Lk
 by_cases k:kd = "one"
 ·simp only[qX k]
  constructor
  ·rintro⟨s,⟨a,ha,hn,rfl⟩,rfl⟩
   have hb:c∈Tg us a:=Mv.mpr (.inr hn);exact⟨bD h hr ha hb hc,⟨a,ha,c,hb,hc,rfl⟩,Bz.mpr ((IY ha).mpr (.inl rfl))⟩
  ·rintro⟨-,⟨a,ha,b,hb,ϥ,rfl⟩,h3⟩
   have e:c=b:=by
    rcases(IY ha).mp (Bz.mp h3)with e | e
    ·exact e
    ·exact zX e.1 hc
   subst e
   rcases Mv.mp hb with e | e
   ·rw[e]at hc;exact zX ha hc
   ·exact⟨_,⟨a,ha,e,rfl⟩,rfl⟩
 ·simp only[qY k]
  constructor
  ·rintro⟨s,hs,rfl⟩
   have rg:=jj.rg h hr.2.1 hs;refine⟨⟨by rw[(EK _).length_eq,hs.1,hr.1],λx hx=>rg x (Bz.mp hx),Jl hs.2.1⟩,⟨s,hs.1,hs.2.1,hs.2.2.1,λx hx=>Bz.mpr hx⟩,Bz.mpr hs.2.2.2⟩
  ·rintro⟨h1,⟨s,s1,s2,s3,s4⟩,h3⟩
   have all:=SI s2 s4 (by rw[s1,hr.1,h1.1]);exact⟨s,⟨s1,s2,s3,all c h3⟩,Lc (Jl s2) h1.2.2 λx=>Bz.trans ⟨s4 x,all x⟩⟩
end
section
variable{o g:Nat}{kd:Str}{T:TL}
theorem gX(ho:o < 8)(hg:g<=o)(h1:1<=g)(h:Stg o g r):∃n:Nat,(sts o g)[n]?=some r/\n < (sts o g).length:=by
 obtain⟨n,hn,e⟩:=CZ ((Ev ho hg h1).mpr h);exact⟨n,by rw[Aa hn,e],hn⟩
theorem lK{i j:Nat}{r:List Int}(ho:o < 8)(hg:g<=o)(h1:1<=g)(hi:(sts o g)[i]?=some r)(hj:(sts o g)[j]?=some r):i=j:=(fG (AC.mp hi).1 (Zn ho hg h1)).mp (hi.trans hj.symm)
theorem XI(h:(sts o g)[n]?=some r):c∈clS o g n↔(0<=c/\c < (o:Int))/\c∉r:=by
 unfold clS;rw[BJ,Ce,J7 h];simp
theorem jX(ht:IA o us)(hg:g<=o)(h1:1<=g)(hn:(sts o g)[n]?=some r)(hc:c∉r):BS o g us kd n c j↔∃s,Ans kd us r c s/\(sts o g)[j]?=some (CI s):=by
 have hr:=(Ev ht.sm hg h1).mp (Aq hn)
 constructor
 ·rintro⟨r1,r',e1,e2,q⟩
  rw[hn]at e1;cases e1;obtain⟨s,h3,h4⟩:=(SY (kd:=kd) ht hr hc).mpr ⟨(Ev ht.sm hg h1).mp (Aq e2),q⟩;exact⟨s,h3,by rw[h4];exact e2⟩
 ·rintro⟨s,h3,e2⟩
  exact⟨r,_,hn,e2,((SY (kd:=kd) ht hr hc).mp ⟨s,h3,rfl⟩).2⟩
theorem UC(ho:o < 8)(hg:g<=o)(h1:1<=g):r∈((DW 0 (sts o g).length).filter λn=>!(Aj T n).isSome).map (evN o g)↔∃n:Nat,(sts o g)[n]?=some r/\Aj T (n:Int)=none:=by
 rw[Av]
 constructor
 ·rintro⟨x,hx,rfl⟩
  obtain⟨h2,h3⟩:=BJ.mp hx;obtain⟨x0,x1⟩:=Ce.mp h2;have hr:=Aa (l:=sts o g) (i:=x.toNat) (by omega);have:=J7 hr;rw[Au x0]at this;refine⟨x.toNat,by rw[this];exact hr,?_⟩;rw[Au x0]
  cases hv:Aj T x with
  | none=>rfl
  | some z=>rw[hv]at h3;cases h3
 ·rintro⟨n,hn,hv⟩
  exact⟨(n:Int),BJ.mpr ⟨Ce.mpr ⟨by omega,by have:=(AC.mp hn).1;omega⟩,by rw[hv];rfl⟩,J7 hn⟩
end
def XX(o g:Nat)(us:List (Int×Int))(kd:Str)(P:List Int->Prop):Prop:=∀r,P r->Stg o g r/\∀c:Int,0<=c->c < o->c∉r->∃s,Ans kd us r c s/\P (CI s)
def La(o g:Nat)(T:TL)(r:List Int):Prop:=∃n:Nat,(sts o g)[n]?=some r/\Aj T (n:Int)=none
section
variable{o g:Nat}{us:List (Int×Int)}{kd:Str}{T:TL}{P:List Int->Prop}
theorem da(ht:IA o us)(hg:g<=o)(h1:1<=g)(F:Fa (sts o g).length (clS o g) (BS o g us kd) T):XX o g us kd (La o g T):=λr ⟨n,hn,hv⟩=>by
 refine⟨(Ev ht.sm hg h1).mp (Aq hn),λc c0 c1 c2=>?_⟩;obtain⟨j,hj,hjv⟩:=F.no n (AC.mp hn).1 hv c ((XI hn).mpr ⟨⟨c0,c1⟩,c2⟩);obtain⟨s,hs,ej⟩:=(jX ht hg h1 hn c2).mp hj;exact⟨s,hs,j,ej,hjv⟩
theorem V0(ht:IA o us)(hg:g<=o)(h1:1<=g)(F:Fa (sts o g).length (clS o g) (BS o g us kd) T)(hP:XX o g us kd P)(hr:P r):La o g T r:=by
 have key:∀(k:Nat) (r:List Int) (n:Nat) (z:Int×Int),P r->(sts o g)[n]?=some r->Aj T (n:Int)=some z->z.1.toNat<=k->False:=by
  intro k
  induction k with
  | zero=>
   intro r n z _ _ hz hk;have:=(F.ok n z hz).1;omega
  | succ k ih=>
   intro r n z hr hn hz hk;obtain⟨z1,z2,z3,-⟩:=F.ok n z hz;obtain⟨c0,c1⟩:=(XI hn).mp z2;obtain⟨s,hs,hp⟩:=(hP r hr).2 z.2 c0.1 c0.2 c1;obtain⟨j,ej,-⟩:=gX ht.sm hg h1 (hP _ hp).1;obtain⟨y,hy,wk⟩:=z3 j ((jX ht hg h1 hn c1).mpr ⟨s,hs,ej⟩);exact ih _ j y hp ej hy (by omega)
 obtain⟨n,hn,-⟩:=gX ht.sm hg h1 (hP r hr).1
 cases hv:Aj T (n:Int)with
 | none=>exact⟨n,hn,hv⟩
 | some z=>exact(key _ r n z hr hn hv (AL _)).elim
theorem vZ:∀(k:Nat) (r r':List Int) (f:Int->Int) (x:Int),r.length=k->r.Nodup->r'.Nodup->r.length=r'.length->(∀a∈r,f a∈r')->(∀a∈r,∀b∈r,f a=f b->a=b)->x∉r ->
  ∃z,z∉r'/\z∈x :: r/\∃F:Int->Int,(∀a∈x :: r,(F a=a∨(a∈r/\F a=f a))/\F a∈z :: r')/\∀a∈x :: r,∀b∈x :: r,F a=F b->a=b:=by
 intro k
 induction k with
 | zero=>
  intro r r' f x hk _ _ hl _ _ _;have e:r=[]:=JL hk;have e':r'=[]:=JL (by rw[<-hl];exact hk);subst e e';exact⟨x,by simp,by simp,λa=>a,λa ha=>⟨.inl rfl,ha⟩,λ_ _ _ _ h=>h⟩
 | succ k ih=>
  intro r r' f x hk hn xq hl hf hi hx
  by_cases hxr:x∈r'
  ·have hm:(r.map f).Nodup:=by
    unfold JA;rw[Ca]
    exact hn.imp_of_mem λ{a b} ha hb ne e=>ne (hi a ha b hb e)
   obtain⟨a,ha,fa⟩:=Av.mp (SI hm (λy hy=>by obtain⟨b,hb,rfl⟩:=Av.mp hy;exact hf b hb) (by rw[AF];exact hl) x hxr)
   have l1:(r.filter λy=>decide (y≠a)).length=k:=by
    have:=hn.erase_eq_filter a;have h2:=Ln ha;rw[this]at h2
    have e:(λy:Int=>y != a)=λy=>decide (y≠a):=by funext y;by_cases q:y=a <;> simp[q]
    rw[e]at h2;omega
   have l2:(r'.filter λy=>decide (y≠x)).length=k:=by
    have:=xq.erase_eq_filter x;have h2:=Ln hxr;rw[this]at h2
    have e:(λy:Int=>y != x)=λy=>decide (y≠x):=by funext y;by_cases q:y=x <;> simp[q]
    rw[e]at h2;omega
   have m1:∀y,y∈r.filter (λy=>decide (y≠a))↔y∈r/\y≠a:=λy=>by rw[BJ,decide_eq_true_eq]
   have m2:∀y,y∈r'.filter (λy=>decide (y≠x))↔y∈r'/\y≠x:=λy=>by rw[BJ,decide_eq_true_eq]
   obtain⟨z,z1,z2,F,F1,F2⟩:=ih _ _ f a l1 (hn.filter _) (xq.filter _) (l1.trans l2.symm)
    (λb hb=>(m2 _).mpr ⟨hf b ((m1 b).mp hb).1,λe=>((m1 b).mp hb).2 (hi b ((m1 b).mp hb).1 a ha (e.trans fa.symm))⟩)
    (λb hb c hc=>hi b ((m1 b).mp hb).1 c ((m1 c).mp hc).1) (λh=>((m1 a).mp h).2 rfl)
   have zr:z∈r:=by
    rcases AZ.mp z2 with h | h
    ·rw[h];exact ha
    ·exact((m1 z).mp h).1
   have zx:z≠x:=λe=>hx (by rw[<-e];exact zr)
   have inA:∀y∈r,y∈a :: r.filter (λy=>decide (y≠a)):=λy hy=>by
    by_cases q:y=a
    ·rw[q];exact AT ..
    ·exact AS _ ((m1 y).mpr ⟨hy,q⟩)
   have nx:∀y∈r,y≠x:=λy hy e=>hx (by rw[<-e];exact hy)
   have Fx:∀y∈r,F y≠x:=λy hy e=>by
    rcases AZ.mp (F1 y (inA y hy)).2 with h | h
    ·exact zx (h.symm.trans e)
    ·exact((m2 _).mp h).2 e
   refine⟨z,λh=>z1 ((m2 z).mpr ⟨h,zx⟩),AS _ zr,λy=>if y=x then x else F y,λy hy=>?_,λy hy w hw e=>?_⟩
   ·dsimp only
    rcases AZ.mp hy with h | h
    ·rw[qX h]
     exact⟨.inl h.symm,AS _ hxr⟩
    ·rw[qY (nx y h)]
     obtain⟨q1,q2⟩:=F1 y (inA y h);refine⟨q1.imp id λq=>⟨h,q.2⟩,?_⟩
     rcases AZ.mp q2 with q | q
     ·rw[q];exact AT ..
     ·exact AS _ ((m2 _).mp q).1
   ·dsimp only at e
    rcases AZ.mp hy with h | h <;> rcases AZ.mp hw with h' | h'
    ·rw[h,h']
    ·rw[qX h,qY (nx w h')]at e
     exact zX e.symm (Fx w h')
    ·rw[qY (nx y h),qX h']at e
     exact zX e (Fx y h)
    ·rw[qY (nx y h),qY (nx w h')]at e
     exact F2 y (inA y h) w (inA w h') e
  ·have nx:∀y∈r,y≠x:=λy hy e=>hx (by rw[<-e];exact hy)
   refine⟨x,hxr,AT ..,λy=>if y=x then x else f y,λy hy=>?_,λy hy w hw e=>?_⟩
   ·dsimp only
    rcases AZ.mp hy with h | h
    ·rw[qX h]
     exact⟨.inl h.symm,AT ..⟩
    ·rw[qY (nx y h)]
     exact⟨.inr ⟨h,rfl⟩,AS _ (hf y h)⟩
   ·dsimp only at e
    rcases AZ.mp hy with h | h <;> rcases AZ.mp hw with h' | h'
    ·rw[h,h']
    ·rw[qX h,qY (nx w h')]at e
     exact zX (hf w h') (by rw[<-e];exact hxr)
    ·rw[qY (nx y h),qX h']at e
     exact zX (hf y h) (by rw[e];exact hxr)
    ·rw[qY (nx y h),qY (nx w h')]at e
     exact hi y h w h' e
theorem bj(hn:r.Nodup):LkA us r r'↔∃f:Int->Int,(∀a∈r,f a∈Tg us a/\f a∈r')/\∀a∈r,∀b∈r,f a=f b->a=b:=by
 constructor
 ·rintro⟨l,l1,ln,l3,l4⟩
  have ex:∀a:Int,∃z:Int,a∈r->(a,z)∈r.zip l:=λa=>by
   by_cases q:a∈r
   ·obtain⟨i,hi,e⟩:=CZ q
    refine⟨l[i]'(by omega),λ_=>?_⟩
    have:(r.zip l)[i]'(by rw[HK];omega)=(a,l[i]'(by omega)):=by rw[Iz,e]
    rw[<-this];exact Do _
   ·exact⟨0,λz=>zX z q⟩
  have hs:=λa=>EG (ex a)
  refine⟨λa=>DA (ex a),λa ha=>⟨l3 _ (hs a ha),l4 _ (Jc (hs a ha)).2⟩,λa ha b hb e=>?_⟩;have e:DA (ex a)=DA (ex b):=e;have h1:=hs a ha;rw[e]at h1;exact bA ln h1 (hs b hb)
 ·rintro⟨f,f1,f2⟩
  refine⟨r.map f,AF _,?_,λy hy=>?_,λx hx=>?_⟩
  ·unfold JA
   rw[Ca]
   exact hn.imp_of_mem λ{a b} ha hb ne e=>ne (f2 a ha b hb e)
  ·rw[NK]at hy
   obtain⟨a,ha,rfl⟩:=Av.mp hy;exact(f1 a ha).1
  ·obtain⟨a,ha,rfl⟩:=Av.mp hx
   exact(f1 a ha).2
theorem YA(hr:Stg o g r)(hx:0<=x/\x < (o:Int))(hn:x∉r):Stg o (g+1) (CI (x :: r)):=by
 refine⟨by rw[(EK _).length_eq,At,hr.1],λy hy=>?_,Jl (Bd.mpr ⟨hn,KW hr.2.2⟩)⟩
 rcases AZ.mp (Bz.mp hy)with h | h
 ·rw[h];exact hx
 ·exact hr.2.1 y h
theorem grow(ht:IA o us)(hP:XX o g us kd P):XX o (g+1) us kd (λR=>∃r x,P r/\(0<=x/\x < (o:Int))/\x∉r/\R=CI (x :: r)):=by
 rintro R ⟨r,x,hr,hx,hn,rfl⟩;obtain⟨hS,hA⟩:=hP r hr;have yW:=YA hS hx hn;refine⟨yW,λc c0 c1 c2=>?_⟩
 have cm:∀y,y∈CI (x :: r)↔y=x∨y∈r:=λy=>by rw[Bz,AZ]
 have cx:c≠x:=λe=>c2 ((cm c).mpr (.inl e))
 have cr:c∉r:=λe=>c2 ((cm c).mpr (.inr e))
 obtain⟨s,hs,hp⟩:=hA c c0 c1 cr;obtain⟨q1,q2,q3⟩:=(SY (kd:=kd) ht hS cr).mp ⟨s,hs,rfl⟩;generalize CI s=r' at hp q1 q2 q3
 have fin:∀z,(0<=z/\z < (o:Int))->z∉r'->Lk kd us (CI (x :: r)) (CI (z :: r'))->∃s,Ans kd us (CI (x :: r)) c s/\∃r x,P r/\(0<=x/\x < (o:Int))/\x∉r/\CI s=CI (x :: r):=λz hz hzn hl=>by
  obtain⟨S,h1,h2⟩:=(SY (kd:=kd) ht yW c2).mpr ⟨YA q1 hz hzn,hl,Bz.mpr (AS _ q3)⟩;exact⟨S,h1,r',z,hp,hz,hzn,h2⟩
 unfold Lk at q2 fin
 by_cases k:kd = "one"
 ·simp only[qX k]at q2 fin
  obtain⟨a,ha,b,hb,ϥ,e⟩:=q2
  have bx:b≠x:=λe2=>by
   have:c∈wst r a b:=Bz.mp (by rw[e];exact q3)
   rcases(IY ha).mp this with h | h
   ·exact cx (h.trans e2)
   ·exact cr h.1
  have xr':x∉r':=λh=>by
   rw[<-e]at h
   rcases(IY ha).mp (Bz.mp h)with h | h
   ·exact bx h.symm
   ·exact hn h.1
  refine fin x hx xr' ⟨a,(cm a).mpr (.inr ha),b,hb,λh=>((cm b).mp h).elim bx ϥ,?_⟩;have aR:=(cm a).mpr (.inr ha)
  have bR:b∉CI (x :: r):=λh=>((cm b).mp h).elim bx ϥ
  refine Lc (Jl (ZV (KW yW.2.2) bR)) (Jl (Bd.mpr ⟨xr',KW q1.2.2⟩)) λy=>?_
  rw[Bz,Bz,IY aR,cm,AZ,<-e,Bz,IY ha]
  have xa:x≠a:=λe=>hn (by rw[e];exact ha)
  constructor
  ·rintro(h | ⟨h | h,h2⟩)
   ·exact .inr (.inl h)
   ·exact .inl h
   ·exact .inr (.inr ⟨h,h2⟩)
  ·rintro(h | h | ⟨h,h2⟩)
   ·exact .inr ⟨.inl h,by rw[h];exact xa⟩
   ·exact .inl h
   ·exact .inr ⟨.inr h,h2⟩
 ·simp only[qY k]at q2 fin
  obtain⟨f,f1,f2⟩:=(bj (KW hS.2.2)).mp q2;obtain⟨z,z1,z2,F,F1,F2⟩:=vZ _ r r' f x rfl (KW hS.2.2) (KW q1.2.2) (by rw[hS.1,q1.1]) (λa ha=>(f1 a ha).2) f2 hn;refine fin z ?_ z1 ((bj (KW yW.2.2)).mpr ⟨F,λa ha=>?_,λa ha b hb=>F2 a (Bz.mp ha) b (Bz.mp hb)⟩)
  ·rcases AZ.mp z2 with h | h
   ·rw[h];exact hx
   ·exact hS.2.1 z h
  ·obtain⟨w1,w2⟩:=F1 a (Bz.mp ha)
   refine⟨?_,Bz.mpr w2⟩
   rcases w1 with h | ⟨h,e⟩
   ·rw[h];exact Mv.mpr (.inl rfl)
   ·rw[e];exact(f1 a h).1
end
open PySem L2 L4
abbrev cz(l:Nat):Int:=l
theorem dX:(t++[p]).Nodup↔t.Nodup/\p∉t:=by
 unfold JA;rw[Gg]
 constructor
 ·rintro⟨a,-,c⟩
  exact⟨a,λz=>c p z p (by simp) rfl⟩
 ·rintro⟨a,b⟩
  exact⟨a,by simp,λx hx y hy e=>b (by rw[AU.mp hy]at e;rw[<-e];exact hx)⟩
section
variable{o:Nat}{us:List (Int×Int)}{gs rest:List Int}{g:Int}
def ve(us:List (Int×Int))(g:Int)(rest:List Int)(L:List Nat)(v:Option (Int×List Int)):Prop:=match v with
 | none=>∀n∈L,∀x∈Tg us g,bit n x->¬ ∃r,InS us rest (bit (n ^^^ 2 ^ x.toNat)) r
 | some z=>z.1∈Tg us g/\∃L':List Nat,z.2=L'.map cz/\L'.length<=L.length/\(∀l∈L',∃n∈L,bit n z.1/\l=n ^^^ 2 ^ z.1.toNat)/\∃l∈L',∃r,InS us rest (bit l) r
theorem qF(h:IA o us)(hg:0<=g/\g < o)(hr:∀g∈rest,0<=g/\g < o)(xE:rest.Nodup)(hL:∀n∈L,n < 128)(hl:L.length<=1000):Ok (JX (tkl o us) g rest (L.map cz)) (ve us g rest L):=by
 have sm:=h.sm;have tg:=h.tg hg.1 hg.2;unfold JX JV;rw[gN hg.1 hg.2];simp only[AD];refine OkF.out (OkF.seq (OkF.for (λpre _=>∀n∈L,∀x∈pre,bit n x->¬ ∃r,InS us rest (bit (n ^^^ 2 ^ x.toNat)) r) (λn _ x hx=>(nomatch hx)) ?_) λ_ hs=>.rt hs);intro pre x u hx hp hI;have xr:=tg.2.1 x hx
 obtain⟨k,rfl⟩:∃k:Nat,x=k:=⟨x.toNat,by omega⟩
 have hk:k < 7:=by omega
 rw[OL (by omega)];simp only[AD,BI]
 have e1:EO (L.map cz) (λwM=>some (BH wM ((2 ^ k:Nat):Int) != 0)) (λwM=>some (CD wM ((2 ^ k:Nat):Int)))=some (((L.filter λn=>n.testBit k).map λn=>n ^^^ 2 ^ k).map cz):=by
  rw[QK (P:=λz:Int=>BH z ((2 ^ k:Nat):Int) != 0) (f:=λz=>CD z ((2 ^ k:Nat):Int)) (by rw[AF];omega) (λ_ _=>rfl) λ_ _ _=>rfl];rw[List.filter_map,BL,BL]
  have ef:L.filter ((λz:Int=>BH z ((2 ^ k:Nat):Int) != 0)∘cz)=L.filter λn=>n.testBit k:=List.filter_congr λn hn=>by
   have:=nv n (hL n hn) k hk;rw[cX]at this
   have e2:((2 ^ k:Nat):Int)=(2:Int) ^ k:=by norm_cast
   show(BH (n:Int) ((2 ^ k:Nat):Int) != 0)=_;rw[e2];exact this
  rw[ef]
  congr 1
  exact DV λn _=>bB n (2 ^ k)
 rw[e1];simp only[AD,BI]
 have mem:∀m∈(L.filter λn=>n.testBit k).map (λn=>n ^^^ 2 ^ k),∃n∈L,n.testBit k=true/\m=n ^^^ 2 ^ k:=λm hm=>by
  obtain⟨n,hn,rfl⟩:=Av.mp hm;obtain⟨n1,n2⟩:=BJ.mp hn;exact⟨n,n1,n2,rfl⟩
 have Ϩ:∀n∈L,n.testBit k=true->n ^^^ 2 ^ k∈(L.filter λn=>n.testBit k).map (λn=>n ^^^ 2 ^ k):=λn hn hb=>Av.mpr ⟨n,BJ.mpr ⟨hn,hb⟩,rfl⟩
 have Ml:((L.filter λn=>n.testBit k).map λn=>n ^^^ 2 ^ k).length<=L.length:=by rw[AF];exact Dh _ _
 generalize (L.filter λn=>n.testBit k).map (λn=>n ^^^ 2 ^ k)=M at mem Ϩ Ml
 refine OkF.map (N:=λ_=>∀m∈M,¬ ∃r,InS us rest (bit m) r) (OkF.imp (OkF.for (λp2 _=>∀m∈M.take p2.length,¬ ∃r,InS us rest (bit m) r) (λm hm=>by simp at hm) ?_) (λ_ hs=>by rwa [show(DJ (M.map cz)).length=M.length by unfold DJ;simp,Ix]at hs) λ_ h=>h) λ_ hs n hn y hy hb=>?_
 ·intro p2 y _ hy zb hI2
  obtain⟨z,e2,rfl⟩:=Vy zb;rw[Ab]at e2;obtain⟨m,em,rfl⟩:=FH.mp e2;obtain⟨n,hn,hnb,rfl⟩:=mem m (Aq em);obtain⟨b,e3,hb3⟩:=jA h (n:=n ^^^ 2 ^ k) (WK n (hL n hn) k hk).2.1 hr xE;dsimp only;rw[e3];simp only[AD]
  cases b with
  | true=>
   rw[qX rfl];have wk:=(AC.mp em).1;refine .rt ⟨hx,M.drop p2.length,?_,by rw[E6];omega,λl hl=>?_,n ^^^ 2 ^ k,?_,hb3.mp rfl⟩
   ·show HE (M.map cz) (some (p2.length:Int)) none=_
    rw[Yz _ (by rw[AF];omega),pI]
   ·obtain⟨n',h1,h2,h3⟩:=mem l (ax hl)
    exact⟨n',h1,by show n'.testBit ((k:Int)).toNat=true;rw[Ak];exact h2,by show l=n' ^^^ 2 ^ ((k:Int)).toNat;rw[Ak];exact h3⟩
   ·rw[El wk,(AC.mp em).2]
    exact AT ..
  | false=>
   rw[qY AK]
   refine .nx λm hm=>?_
   rw[Ag,Ay,Fu,em]at hm
   rcases A0.mp hm with q | q
   ·exact hI2 m q
   ·rw[show m=n ^^^ 2 ^ k by simpa using q]
    intro z;cases hb3.mpr z
 ·rcases A0.mp hy with q | q
  ·exact hI n hn y q hb
  ·have e:=AU.mp q
   subst e;rw[Ak];exact hs _ (Ϩ n hn (by have:n.testBit ((k:Int)).toNat=true:=hb;rwa [Ak]at this))
structure Sf(us:List (Int×Int))(gs:List Int)(w i:Nat)(told:List Int)(m:Nat):Prop where
 ln:told.length=i
 pre:Pre us gs (bit w) told
 sm:m < 128
 bits:∀z:Nat,z < 7->(m.testBit z=true↔w.testBit z=true/\(z:Int)∉told)
theorem rl(h:IA o us)(hg:∀g∈gs,0<=g/\g < o)(xE:gs.Nodup){Ws:List Nat}(hW:∀n∈Ws,n < 128)(hl:Ws.length<=1000):Ok (JY (tkl o us) gs (Ws.map cz)) λv=>(∃n∈Ws,∃t,InS us gs (bit n) t)->∃t n,v=some t/\n∈Ws/\InS us gs (bit n) t:=by
 have sm:=h.sm
 have hgl:gs.length<=7:=by
  have:=IU (k:=DW 0 o) xE λx hx=>by rw[Ce];have:=hg x hx;omega
  rw[CJ]at this;omega
 unfold JY JW;simp only[BI,nR,AD];refine OkF.out (OkF.seq (OkF.for (λpre s=>∃L:List Nat,s.2=L.map cz/\L.length<=1000/\(∀l∈L,∃w∈Ws,Sf us gs w pre.length s.1 l)/\s.1.length=pre.length/\((∃n∈Ws,∃t,InS us gs (bit n) t)->∃l∈L,∃r,InS us (gs.drop pre.length) (bit l) r)) ⟨Ws,rfl,hl,λl zR=>⟨l,zR,rfl,⟨EX,by simp,λx hx=>(nomatch hx)⟩,hW l zR,by simp⟩,rfl,λz=>z⟩ ?_) ?_)
 ·rintro pre x ⟨told,lefts⟩ hx hp ⟨L,rfl,L1,L2',L4',L3⟩
  obtain⟨g,eg,rfl⟩:=eB hp;have yq:=hg g (Aq eg);have ϐ:pre.length < gs.length:=(AC.mp eg).1;have eg':gs[pre.length]=g:=(AC.mp eg).2
  have hdr:gs.drop pre.length=g :: gs.drop (pre.length+1):=by rw[El ϐ,eg']
  have hd:∀g∈gs.drop (pre.length+1),0<=g/\g < o:=λg yq=>hg g (ax yq)
  dsimp only at L2' L4' ⊢;rw[Yz gs (by omega)]
  have hLs:∀n∈L,n < 128:=λn hn=>by obtain⟨w,_,s⟩:=L2' n hn;exact s.sm
  obtain⟨v,e1,hv⟩:=qF h yq hd (xE.sublist (List.drop_sublist _ _)) hLs L1;rw[e1];simp only[AD]
  have con:∀{m:Nat},m < 128->∀{x:Int} {l:List Int},InS us (gs.drop pre.length) (bit m) (x :: l)↔x∈Tg us g/\bit m x/\InS us (gs.drop (pre.length+1)) (bit (m ^^^ 2 ^ x.toNat)) l:=λ{m} hm {x l}=>by rw[hdr];exact InS.cons h hm yq hd
  cases v with
  | none=>
   refine .rt λz=>?_
   obtain⟨l,zR,r,hr⟩:=L3 z
   cases r with
   | nil=>have:=hr.1;rw[hdr]at this;cases this
   | cons x r=>
    obtain⟨c1,c2,c3⟩:=(con (hLs l zR)).mp hr;exact zX ⟨r,c3⟩ (hv l zR x c1 c2)
  | some z=>
   obtain⟨x,L0⟩:=z;obtain⟨v1,L',v2,v3,v4,l,v5,v6⟩:=hv;dsimp only at v1 v2 v4 ⊢;subst v2;have xr:=(h.tg yq.1 yq.2).2.1 x v1;rw[SX (by omega)];refine .nx ⟨L',rfl,by omega,λl' hl'=>?_,by simp[L4'],λ_=>⟨l,v5,by rw[Ag,Ay];exact v6⟩⟩;obtain⟨n,hn,nb,rfl⟩:=v4 l' hl';obtain⟨w,hw,s1,s2,s3,s4⟩:=L2' n hn;have nb':n.testBit x.toNat=true:=nb;obtain⟨xo1,xo2,xo3⟩:=WK n s3 x.toNat (by omega);obtain⟨wx,xt⟩:=(s4 x.toNat (by omega)).mp nb';rw[Au xr.1]at xt;refine⟨w,hw,by simp[s1],⟨dX.mpr ⟨s2.1,xt⟩,λy hy=>?_,λy hy=>?_⟩,xo2,λy hy=>?_⟩
   ·rcases(OF (by rw[s1];omega) y).mp hy with q | q
    ·exact s2.2.1 y q
    ·rw[s1,hdr,FL,HN,AU]at q
     rw[q];exact v1
   ·rcases A0.mp hy with q | q
    ·exact s2.2.2 y q
    ·rw[AU.mp q];exact wx
   ·rw[xo3 y hy,bne_iff_ne,ne_eq,A0,AU]
    by_cases e:x.toNat=y
    ·subst e
     rw[nb',wX rfl];exact⟨λz=>zX rfl z,λz=>zX (.inr (Au xr.1)) z.2⟩
    ·rw[wY e,fN,s4 y hy]
     exact and_congr_right λ_=>⟨λz q=>q.elim z λq=>e (by omega),λz q=>z (.inl q)⟩
 ·rintro⟨told,lefts⟩ ⟨L,rfl,L1,L2',L4',L3⟩
  refine .rt λz=>?_
  obtain⟨l,zR,-⟩:=L3 z;obtain⟨w,hw,s1,s2,s3,s4⟩:=L2' l zR
  have hlen:(N1 gs).length=gs.length:=by unfold N1;simp
  rw[hlen]at s1;exact⟨told,w,rfl,hw,s1,s2.1,s2.2.1,s2.2.2⟩
end
theorem nc(h:rs≠[]):∃b,Y3 rs=some b/\b∈rs:=by
 have key:∀(f:Nat->Nat->Bool) k,Gp f k<=k:=by
  intro f k
  induction k with
  | zero=>exact AL _
  | succ k ih=>
   unfold Gp;split
   ·exact AL _
   ·omega
 have hl:0 < rs.length:=G6.mpr h;unfold Y3;have a:=key (λi j=>HT.lexLt (rs.getD i []) (rs.getD j [])) (rs.length - 1);generalize Gp (λi j=>HT.lexLt (rs.getD i []) (rs.getD j [])) (rs.length - 1)=n at a
 have hn:n < rs.length:=by omega
 exact⟨rs[n],Aa hn,Do hn⟩
section
variable{o g:Nat}{us:List (Int×Int)}{kd:Str}{f:Fp}{n b:Nat}{r:List Int}{c:Int}{T:TL}
theorem jg(h:IA o us)(hg:g<=o)(h1:1<=g)(F:Fk o g us kd f)(hk:kd = "one"∨kd = "all") (hn:(sts o g)[n]?=some r) (hc:c∉r) (hb:b < 2 ^ (sts o g).length) (hb0:∃j,b.testBit j=true) (Ζ:∀j,b.testBit j=true->BS o g us kd n c j) :
  Ok (Eg f n c b) λv=>∃s j,v=some s/\Ans kd us r c s/\b.testBit j=true/\(sts o g)[j]?=some (CI s):=by
 have sm:=h.sm;have hS:=(Ev sm hg h1).mp (Aq hn);obtain⟨-,-,hl⟩:=Oj o sm g (by omega) hg h1;obtain⟨l,el,l1,l2⟩:=Qz hb (by omega);obtain⟨j0,hj0⟩:=hb0
 have ϩ:∀x∈l,∃r',(sts o g)[x.toNat]?=some r'/\Lk kd us r r'/\c∈r':=λx hx=>by
  obtain⟨q,r',e1,e2,e3⟩:=Ζ _ ((l2 x).mp hx).2;rw[hn]at e1;cases e1;exact⟨r',e2,e3⟩
 have Ϫ:(j0:Int)∈l:=(l2 _).mpr ⟨by omega,by rw[Ak];exact hj0⟩
 have hll:l.length<=35:=by
  have:=IU (k:=DW 0 (sts o g).length) (KW l1) λx hx=>by
   obtain⟨x0,hxb⟩:=(l2 x).mp hx;have:=XR hb hxb;rw[Ce];omega
  rw[CJ]at this;omega
 unfold Eg Ee;rw[F.ev,Ll hn,F.kd,el];simp only[AD,BI]
 rcases hk with k | k
 ·subst k
  rw[wY (show ¬(("one" : Str) = "all") by decide +kernel),qY AK];simp only[BI,nR,AD];refine OkF.out (OkF.seq (OkF.for (λpre (s:List (List Int))=>s=pre.map λx=>r.map λy=>if y∈evN o g x then y else c) rfl ?_) ?_)
  ·rintro pre x s hx hp rfl
   have wI:=hp.length_le;rw[Ag,Ay]at wI;obtain⟨r',e2,-⟩:=ϩ x hx;obtain⟨x0,-⟩:=(l2 x).mp hx
   have ex:evN o g x=r':=by have:=J7 e2;rwa [Au x0]at this
   rw[FR (f:=λy=>if y∈evN o g x then y else c) (by rw[hS.1];omega) λy _=>by
    rw[KF x0 e2];simp only[AD];rw[ex]
    by_cases q:y∈r'
    ·rw[wX q,qX rfl,qX q]
    ·rw[wY q,qY AK,qY q]]
   simp only[AD];rw[SX (by rw[AF];omega)];refine .nx ?_;rw[CU];rfl
  ·rintro s rfl
   obtain⟨w,ew,hw⟩:=nc (rs:=l.map λx=>r.map λy=>if y∈evN o g x then y else c) (λz=>by rw[cW.mp z]at Ϫ;cases Ϫ);rw[ew];obtain⟨x,hx,rfl⟩:=Av.mp hw;obtain⟨r',e2,e3,e4⟩:=ϩ x hx;obtain⟨x0,xb⟩:=(l2 x).mp hx
   have ex:evN o g x=r':=by have:=J7 e2;rwa [Au x0]at this
   unfold Lk at e3;rw[qX rfl]at e3;obtain⟨a,ha,d,hd,hdr,e5⟩:=e3
   have cd:c=d:=by
    rw[<-e5]at e4
    rcases(IY ha).mp (Bz.mp e4)with q | q
    ·exact q
    ·exact zX q.1 hc
   subst cd
   have ew2:(r.map λy=>if y∈evN o g x then y else c)=wst r a c:=by
    unfold wst
    refine DV λy hy=>?_
    have:y∈evN o g x↔¬y=a:=by
     rw[ex,<-e5,Bz,IY ha];exact⟨λq=>q.elim (λq=>zX hy (by rw[q];exact hc)) (·.2),λq=>.inr ⟨hy,q⟩⟩
    by_cases q:y=a
    ·rw[qX q,qY (λz=>this.mp z q)]
    ·rw[qY q,qX (this.mpr q)]
   refine .rt ⟨_,x.toNat,rfl,?_,xb,?_⟩
   ·unfold Ans
    rw[qX rfl];refine⟨a,ha,?_,ew2⟩
    rcases Mv.mp hd with q | q
    ·rw[q]at hc;exact zX ha hc
    ·exact q
   ·rw[ew2,e5];exact e2
 ·subst k
  rw[wX rfl,qX rfl]
  have k1:¬(("all" : Str) = "one"):=by decide +kernel
  have pbx:∀x∈l,∃m:Nat,atI f.pb x=some (m:Int)/\m < 128/\∀r',(sts o g)[x.toNat]?=some r'->∀y:Int,0<=y->y < 7->(m.testBit y.toNat=true↔y∈r'):=λx hx=>by
   obtain⟨r',e2,-⟩:=ϩ x hx;obtain⟨m,m1,m2,m3⟩:=F.pb _ _ e2;exact⟨m,KF ((l2 x).mp hx).1 m1,m2,λr'' e=>by rw[e2]at e;cases e;exact m3⟩
  have pbe:∀x∈l,atI f.pb x=some (cz ((atI f.pb x).getD 0).toNat):=λx hx=>by
   obtain⟨m,m1,-⟩:=pbx x hx;rw[m1];rfl
  rw[FR (f:=λx=>cz ((atI f.pb x).getD 0).toNat) (by omega) pbe];simp only[AD];rw[show(l.map λx=>cz ((atI f.pb x).getD 0).toNat)=(l.map λx=>((atI f.pb x).getD 0).toNat).map cz by rw[BL];rfl,F.tk]
  obtain⟨v,ev,hv⟩:=rl h (gs:=r) hS.2.1 (KW hS.2.2) (Ws:=l.map λx=>((atI f.pb x).getD 0).toNat) (λw hw=>by
   obtain⟨x,hx,rfl⟩:=Av.mp hw;obtain⟨m,m1,m2,-⟩:=pbx x hx;rw[m1]
   exact m2) (by rw[AF];omega)
  rw[ev]
  have ϫ:∀x∈l,∀r',(sts o g)[x.toNat]?=some r'->∀y:Int,0<=y->y < 7->(bit ((atI f.pb x).getD 0).toNat y↔y∈r'):=λx hx r' e y y0 y7=>by
   obtain⟨m,m1,m2,m3⟩:=pbx x hx;rw[m1];exact m3 r' e y y0 y7
  obtain⟨t,w,rfl,hw,ht⟩:=hv (by
   obtain⟨r',e2,e3,-⟩:=ϩ _ Ϫ;unfold Lk at e3;rw[qY k1]at e3;obtain⟨s,hs⟩:=e3;refine⟨_,Av.mpr ⟨_,Ϫ,rfl⟩,s,hs.imp λy _ q=>?_⟩;have:=((Ev sm hg h1).mp (Aq e2)).2.1 y q
   exact(ϫ _ Ϫ r' e2 y this.1 (by omega)).mpr q)
  obtain⟨x,hx,rfl⟩:=Av.mp hw;obtain⟨r',e2,e3,e4⟩:=ϩ x hx;have yW:=(Ev sm hg h1).mp (Aq e2)
  have zp:InS us r (·∈r') t:=ht.imp λy hy q=>by
   have:=ht.rg h hS.2.1 y hy;exact(ϫ x hx r' e2 y this.1 (by omega)).mp q
  have all:=SI zp.2.1 zp.2.2.2 (by rw[zp.1,hS.1,yW.1]);refine⟨_,rfl,t,x.toNat,rfl,?_,((l2 x).mp hx).2,?_⟩
  ·unfold Ans
   rw[qY k1];exact⟨zp.1,zp.2.1,zp.2.2.1,all c e4⟩
  ·rw[e2,Lc (Jl zp.2.1) yW.2.2 λy=>Bz.trans ⟨zp.2.2.2 y,all y⟩]
theorem qO(h:IA o us)(hg:g<=o)(h1:1<=g)(F:Fk o g us kd f)(hk:kd = "one"∨kd = "all") (hn:(sts o g)[n]?=some r) (hb:b < 2 ^ (sts o g).length) (Ζ:∀c∈clS o g n,∃j,BS o g us kd n c j/\b.testBit j=true) :
  ∃A:Int->List Int,FD f n b=some ((clS o g n).map λc=>(c,some (A c)))/\∀c∈clS o g n,Ans kd us r c (A c)/\∃j,b.testBit j=true/\(sts o g)[j]?=some (CI (A c)):=by
 have D:=oq h hg h1 F;have hN:=(AC.mp hn).1;obtain⟨c1,c2,-⟩:=D.cs n hN
 have one:∀c∈clS o g n,∃s,E0 f n c b=some (some s)/\Ans kd us r c s/\∃j,b.testBit j=true/\(sts o g)[j]?=some (CI s):=λc hc=>by
  obtain⟨v,e,q,rfl,hq⟩:=D.bh n hN c hc;have lt:q &&& b < 2 ^ (sts o g).length:=Nat.and_lt_two_pow _ hb;obtain⟨j,j1,j2⟩:=Ζ c hc
  obtain⟨v,e2,s,j,rfl,s1,s2,s3⟩:=jg h hg h1 F hk hn ((XI hn).mp hc).2 lt ⟨j,by rw[HM,(hq j).mpr j1,j2];rfl⟩ λj hj=>by
   rw[HM,Ck]at hj;exact(hq j).mp hj.1
  rw[HM,Ck]at s2;refine⟨s,?_,s1,j,s2.2,s3⟩;unfold E0 Hd;simp only[AD];rw[e];simp only[AD];rw[QO,e2];rfl
 refine⟨λc=>((E0 f n c b).getD none).getD [],?_,λc hc=>?_⟩
 ·unfold FD JU
  rw[c1];simp only[AD]
  rw[FR (f:=λc=>(c,some (((E0 f n c b).getD none).getD []))) (by omega) λc hc=>by
   obtain⟨s,e,-⟩:=one c hc;rw[e]
   rfl]
  rfl
 ·obtain⟨s,e,q⟩:=one c hc
  dsimp only;rw[e];exact q
theorem Wp(h:IA o us)(hg:g<=o)(h1:1<=g)(hk:kd = "one"∨kd = "all"):∃T,Fa (sts o g).length (clS o g) (BS o g us kd) T/\Ok (ED (o,us) g kd) λv=>match v with
  | none=>∀r,¬La o g T r
  | some pp=>(∃r,La o g T r)/\∃R:Int->List (Int×Option (List Int)),pp=((DW 0 (sts o g).length).filter λn=>!(Aj T n).isSome).map (λn=>(evN o g n,R n))/\∀n:Nat,n < (sts o g).length->Aj T (n:Int)=none->∃A:Int->List Int,R n=(clS o g n).map (λc=>(c,some (A c)))/\∀c∈clS o g n,Ans kd us (evN o g n) c (A c)/\La o g T (CI (A c)):=by
 have sm:=h.sm;obtain⟨-,-,hl⟩:=Oj o sm g (by omega) hg h1;obtain⟨f,ef,F⟩:=nP (kd:=kd) h hg h1;have D:=oq h hg h1 F;obtain⟨T,eT,hT⟩:=jE D;refine⟨T,hT,?_⟩;obtain⟨b,e1,b1,b2⟩:=eR (T:=T) D;obtain⟨l,e2,l1,l2⟩:=Qz b1 (by omega)
 have el:l=(DW 0 (sts o g).length).filter λn=>!(Aj T n).isSome:=Lc l1 ((Pu 0 _).filter _) λx=>by
  rw[l2,BJ,Ce,b2]
  constructor
  ·rintro⟨x0,a,q⟩
   rw[Au x0]at q;exact⟨⟨x0,by omega⟩,by rw[q];rfl⟩
  ·rintro⟨⟨x0,a⟩,q⟩
   refine⟨x0,by omega,?_⟩;rw[Au x0]
   cases hv:Aj T x with
   | none=>rfl
   | some z=>rw[hv]at q;cases q
 unfold ED Ia;simp only[AD];rw[ef];simp only[AD,BI];rw[eT];simp only[AD];rw[e1];simp only[AD,BI]
 by_cases hb:b=0
 ·rw[wX (show(b:Int)=0 by omega),qX rfl]
  refine⟨none,rfl,λr ⟨n,hn,hv⟩=>?_⟩;have:=(b2 n).mpr ⟨(AC.mp hn).1,hv⟩;rw[hb,Se]at this;cases this
 ·rw[wY (show ¬(b:Int)=0 by omega),qY AK]
  simp only[BI];rw[e2];simp only[AD]
  have xi:∀n:Nat,n < (sts o g).length->Aj T (n:Int)=none->∃A:Int->List Int,FD f n b=some ((clS o g n).map λc=>(c,some (A c)))/\∀c∈clS o g n,Ans kd us (evN o g n) c (A c)/\La o g T (CI (A c)):=λn hn hv=>by
   have hr:=Aa hn
   obtain⟨A,a1,a2⟩:=qO h hg h1 F hk hr b1 λc hc=>by
    obtain⟨j,j1,j2⟩:=hT.no n hn hv c hc;exact⟨j,j1,(b2 j).mpr ⟨D.rg _ _ _ j1,j2⟩⟩
   refine⟨A,a1,λc hc=>?_⟩;obtain⟨q1,j,q2,q3⟩:=a2 c hc;rw[J7 hr];exact⟨q1,j,q3,((b2 j).mp q2).2⟩
  have lN:∀x∈l,0<=x/\x.toNat < (sts o g).length/\Aj T x=none:=λx hx=>by
   obtain⟨x0,xb⟩:=(l2 x).mp hx;obtain⟨q1,q2⟩:=(b2 _).mp xb;rw[Au x0]at q2;exact⟨x0,q1,q2⟩
  have hll:=Dh (λn=>!(Aj T n).isSome) (DW 0 (sts o g).length);rw[CJ,<-el]at hll
  rw[FR (f:=λn=>(evN o g n,(FD f n b).getD [])) (by omega) λx hx=>by
   obtain⟨x0,xN,xv⟩:=lN x hx;have hr:=Aa xN;have ex:=J7 hr;rw[Au x0]at ex;obtain⟨A,a1,-⟩:=xi x.toNat xN (by rw[Au x0];exact xv);rw[Au x0]at a1;rw[F.ev,KF x0 hr,a1,ex]
   rfl]
  refine⟨_,rfl,?_,λn=>(FD f n b).getD [],by rw[el],λn hn hv=>?_⟩
  ·obtain⟨j,j1,-⟩:=bi b (by omega)
   obtain⟨q1,q2⟩:=(b2 j).mp j1;exact⟨_,j,Aa q1,q2⟩
  ·obtain⟨A,a1,a2⟩:=xi n hn hv
   exact⟨A,by dsimp only;rw[a1];rfl,a2⟩
end
def Kd(Bj:(List (Int×Int)))(Bk:(List Int))(Bc:Int)(CW:Str)(FE:(List Int)):Option (Fw Bool Unit):=
 BD ((if (!true)=true then some true else if (!decide ((FE.length:Int)=(Bk.length:Int)))=true then some true else some (!decide (Bc∈FE))).bind λxR=>if xR=true then some (.rt false)else some (.nx ())) λ_=>BD (some (.nx (0:Int))) λv15=>BD (((some (FE.length:Int)).bind O5).bind λl61=>EV l61 v15 λ(yt:Int) xo=>BD (((atI FE xo).bind λxB=>some (decide (xB∈(HE FE none (some xo))))).bind λx29=>if x29=true then some (.rt false)else some (.nx ())) λ_=>EA (λs59=>s59) (((atI FE xo).bind λx32=>(atI Bk xo).bind λzM=>some (!decide (x32=zM))).bind λxQ=>if xQ=true then BD (some (.nx (yt+(1:Int)))) λxl=>EA (λ_=>xl) (((atI FE xo).bind λϙ=>((((atI Bk xo).bind λyV=>some (yV,())).bind λx50=>some (Bj,x50)).bind λϬ=>Kf Ϭ.1 Ϭ.2.1).bind λϚ=>some (!decide (ϙ∈Ϛ))).bind λD'=>if D'=true then some (.rt false)else some (.nx ()))else some (.nx yt))) λs62=>(if (decide (CW=("all" : Str)))=true then some true else some (decide (s62=(1:Int)))).bind λx69=>some (.rt x69)
def Kg(Bj:(List (Int×Int)))(Bk:(List Int))(Bc:Int)(CW:Str)(FE:(List Int)):Option Bool:=FW (Kd Bj Bk Bc CW FE)
theorem X7(W:Wd)(Bj:(List (Int×Int)))(Bk:(List Int))(Bc:Int)(CW:Str)(FE:(List Int)):VF (Nx W) [.z ((oL (eP D.int D.int)) Bj),.v ((eT D.int) Bk),.v (D.int Bc),.v (D.str CW),.v ((eT D.int) FE)] (rV D.bl) (Kg Bj Bk Bc CW FE):=by
 refine EC (n:=7) (b:=N8 W) (p:=Kd Bj Bk Bc CW FE) (B:=λ_=>[]) ?_;show VS [.z ((oL (eP D.int D.int)) Bj),.v ((eT D.int) Bk),.v (D.int Bc),.v (D.str CW),.v ((eT D.int) FE),.u,.u] _ _ _ _;unfold N8 Kd;exact(Az (Ey (B:=(λ(_:Unit)=>[.z ((oL (eP D.int D.int)) Bj),.v ((eT D.int) Bk),.v (D.int Bc),.v (D.str CW),.v ((eT D.int) FE),.u,.u])) (bL (Ox (FC (oO (t:="tuple") (r:=true) (T:="tuple") (AH rfl) (λ_ _=>rfl) (by decide +kernel)))) (bL (FC (oM DS Hm (WR (AH rfl)) (WR (AH rfl)))) (FC (SH DS (AH rfl) (AH rfl))))) (DO (CO rfl)) (Ex (.refl _))) (λ_=>(Az (Dd (CO rfl)) (λv15=>(Az (EJ (s0:=v15) (B:=(λ(s63:Int)=>[.z ((oL (eP D.int D.int)) Bj),.v ((eT D.int) Bk),.v (D.int Bc),.v (D.str CW),.v ((eT D.int) FE),.v (D.int s63),.u])) (Ez (WR (AH rfl))) D8 (.refl _) (λyt xo=>(Az (Ey (B:=(λ(_:Unit)=>[.z ((oL (eP D.int D.int)) Bj),.v ((eT D.int) Bk),.v (D.int Bc),.v (D.str CW),.v ((eT D.int) FE),.v (D.int yt),.v (D.int xo)])) (FC (fm DS (Ow (AH rfl) (AH rfl)) (bJ (AH rfl) SG (SF (AH rfl))))) (DO (CO rfl)) (Ex (.refl _))) (λ_=>(Cr (Ey (B:=(λ(s60:Int)=>[.z ((oL (eP D.int D.int)) Bj),.v ((eT D.int) Bk),.v (D.int Bc),.v (D.str CW),.v ((eT D.int) FE),.v (D.int s60),.v (D.int xo)])) (FC (oM DS Hm (Ow (AH rfl) (AH rfl)) (Ow (AH rfl) (AH rfl)))) (Az (Dd (HU (AH rfl) (CO rfl))) (λxl=>(Cr (Ey (B:=(λ(_:Unit)=>[.z ((oL (eP D.int D.int)) Bj),.v ((eT D.int) Bk),.v (D.int Bc),.v (D.str CW),.v ((eT D.int) FE),.v (D.int xl),.v (D.int xo)])) (FC (kf DS (Ow (AH rfl) (AH rfl)) (JN (Bo (Jj (DF rfl) (CQ (Ow (AH rfl) (AH rfl)) Bq)) (λϬ=>X6 W Ϭ.1 Ϭ.2.1) (λ_=>rfl) JO)))) (DO (CO rfl)) (Ex (.refl _))) (λ_=>(.refl _))))) (Ex (.refl _))) (λs59=>(.same (.same (.same (.same (.same (.same (.drop .nil))))))))))))) (λs62=>(DO (fZ (Ji XE Z6 (AH rfl) (CO rfl)) (Ji DS Hm (AH rfl) (CO rfl))))))))))
def Ig(LQ:(List (Int×(Option (List Int)))))(Bc:Int):Option (Fw (Option (List Int)) Unit):=
 BD (EV LQ () λ(_:Unit) x2=>EA (λ_=>()) (if (decide (x2.1=Bc))=true then some (.rt x2.2)else some (.nx ()))) λ_=>some (.rt none)
def Ij(LQ:(List (Int×(Option (List Int)))))(Bc:Int):Option (Option (List Int)):=FW (Ig LQ Bc)
theorem Ut(W:Wd)(LQ:(List (Int×(Option (List Int)))))(Bc:Int):VF (LF W) [.v ((eT (eP D.int (eO (eT D.int)))) LQ),.v (D.int Bc)] (rV (eO (eT D.int))) (Ij LQ Bc):=by
 refine EC (n:=3) (b:=LO W) (p:=Ig LQ Bc) (B:=λ_=>[]) ?_;show VS [.v ((eT (eP D.int (eO (eT D.int)))) LQ),.v (D.int Bc),.u] _ _ _ _;unfold LO Ig;exact(Az (EJ (s0:=()) (B:=(λ(_:Unit)=>[.v ((eT (eP D.int (eO (eT D.int)))) LQ),.v (D.int Bc),.u])) (NM (AH rfl)) D8 (.refl _) (λ_ x2=>(Cr (Ey (B:=(λ(_:Unit)=>[.v ((eT (eP D.int (eO (eT D.int)))) LQ),.v (D.int Bc),.v ((eP D.int (eO (eT D.int))) x2)])) (FC (Ji DS Hm (WT (AH rfl)) (AH rfl))) (DO (Za (AH rfl))) (Ex (.refl _))) (λ_=>(.same (.same (.drop .nil))))))) (λ_=>(DO ke)))
def Ic(Bj:(List (Int×Int)))(Ai:Int)(FG:(List ((List Int)×(List (Int×(Option (List Int)))))))(CW:Str)(Fi:(List Int)):Option (Fw Bool Unit):=
 BD (some (.nx [])) λv1=>BD (EV FG v1 λ(s3:(List ((List Int)×(List (Int×(Option (List Int))))))) x4=>EA (λv5=>v5) ((HD s3 x4.1 x4.2).bind λl8=>some (.nx l8))) λxY=>BD ((((Z8 (TF Fi) (FG.length:Int)).bind λϗ=>atI FG ϗ).bind λxo=>some xo.1).bind λxB=>some (.nx xB)) λCs=>BD (EV Fi Cs λ(xO:(List Int)) xP=>BD ((((some Ai).bind O5).bind λl27=>EO l27 (λwR=>some (!decide (wR∈xO))) (λwR=>some wR)).bind λxg=>some (.nx xg)) λyu=>EA (λs78=>s78) ((((some []).bind KP).bind λyd=>some (!decide (yu=yd))).bind λx77=>if x77=true then BD (((Z8 xP (yu.length:Int)).bind λxZ=>atI yu xZ).bind λzL=>some (.nx zL)) λϭ=>BD ((((Aj xY xO).bind λx41=>some (x41,(ϭ,()))).bind λϮ=>Ij Ϯ.1 Ϯ.2.1).bind λx46=>some (.nx x46)) λxl=>BD ((if xl.isNone=true then some true else(((((((xl).bind λx54=>some (x54,())).bind λx56=>some (CW,x56)).bind λx57=>some (ϭ,x57)).bind λxQ=>some (xO,xQ)).bind λx59=>some (Bj,x59)).bind λyx=>Kg yx.1 yx.2.1 yx.2.2.1 yx.2.2.2.1 yx.2.2.2.2.1).bind λx61=>some (!x61)).bind λx64=>if x64=true then some (.rt false)else some (.nx ())) λ_=>BD (((xl).bind λx69=>QH x69 (CI x69)).bind λx70=>some (.nx x70)) λv67=>EA (λ_=>v67) (if (!(Aj xY v67).isSome)=true then some (.rt false)else some (.nx ()))else some (.nx xO))) λs81=>some (.rt true)
def Gz(Bj:(List (Int×Int)))(Ai:Int)(FG:(List ((List Int)×(List (Int×(Option (List Int)))))))(CW:Str)(Fi:(List Int)):Option Bool:=FW (Ic Bj Ai FG CW Fi)
theorem Oh(W:Wd)(Bj:(List (Int×Int)))(Ai:Int)(FG:(List ((List Int)×(List (Int×(Option (List Int)))))))(CW:Str)(Fi:(List Int)):VF (Il W) [.z ((oL (eP D.int D.int)) Bj),.v (D.int Ai),.z ((oL (eP (eT D.int) (eT (eP D.int (eO (eT D.int)))))) FG),.v (D.str CW),.z ((oL D.int) Fi)] (rV D.bl) (Gz Bj Ai FG CW Fi):=by
 refine EC (n:=12) (b:=LL W) (p:=Ic Bj Ai FG CW Fi) (B:=λ_=>[]) ?_;show VS [.z ((oL (eP D.int D.int)) Bj),.v (D.int Ai),.z ((oL (eP (eT D.int) (eT (eP D.int (eO (eT D.int)))))) FG),.v (D.str CW),.z ((oL D.int) Fi),.u,.u,.u,.u,.u,.u,.u] _ _ _ _;unfold LL Ic;exact(Az (G7 fx) (λv1=>(Az (EJ (s0:=v1) (B:=(λ(zO:(List ((List Int)×(List (Int×(Option (List Int)))))))=>[.z ((oL (eP D.int D.int)) Bj),.v (D.int Ai),.z ((oL (eP (eT D.int) (eT (eP D.int (eO (eT D.int)))))) FG),.v (D.str CW),.z ((oL D.int) Fi),.w 5 ((oDR (eT (eP D.int (eO (eT D.int))))) zO),.u,.u,.u,.u,.u,.u])) (WP rfl) SD (.refl _) (λs3 x4=>(Cr (fR rfl (AH rfl) (AH rfl) rfl) (λv5=>(.same (.same (.same (.same (.same (.same (.drop (.drop (.same (.same (.same (.same .nil)))))))))))))))) (λxY=>(Az (Dd (WT (Gi (DF rfl) (Zb (fX (DF rfl)) (L7 (DF rfl)))))) (λCs=>(Az (EJ (s0:=Cs) (B:=(λ(s82:(List Int))=>[.z ((oL (eP D.int D.int)) Bj),.v (D.int Ai),.z ((oL (eP (eT D.int) (eT (eP D.int (eO (eT D.int)))))) FG),.v (D.str CW),.z ((oL D.int) Fi),.w 5 ((oDR (eT (eP D.int (eO (eT D.int))))) xY),.v ((eT D.int) s82),.u,.u,.u,.u,.u])) (WP rfl) D8 (.refl _) (λxO xP=>(Az (KS (Ct (DD (VI.k (Ez (AH rfl))) (λwR=>(FC (SH DS (AH rfl) (AH rfl)))) (λwR=>(AH rfl))))) (λyu=>(Cr (Ey (B:=(λ(s79:(List Int))=>[.z ((oL (eP D.int D.int)) Bj),.v (D.int Ai),.z ((oL (eP (eT D.int) (eT (eP D.int (eO (eT D.int)))))) FG),.v (D.str CW),.z ((oL D.int) Fi),.w 5 ((oDR (eT (eP D.int (eO (eT D.int))))) xY),.v ((eT D.int) s79),.u,.v (D.int xP),.y ((oL D.int) yu),.u,.u])) (FC (pU DS (Di rfl) (JN (Ct (F9 HQ))))) (Az (Dd (Gi (Di rfl) (Zb (AH rfl) (L7 (Di rfl))))) (λϭ=>(Az (Dd (Bo (CQ (Xz (HR rfl) (AH rfl)) (CQ (AH rfl) Bq)) (λϮ=>Ut W Ϯ.1 Ϯ.2.1) (λ_=>rfl) EZ)) (λxl=>(Az (Ey (B:=(λ(_:Unit)=>[.z ((oL (eP D.int D.int)) Bj),.v (D.int Ai),.z ((oL (eP (eT D.int) (eT (eP D.int (eO (eT D.int)))))) FG),.v (D.str CW),.z ((oL D.int) Fi),.w 5 ((oDR (eT (eP D.int (eO (eT D.int))))) xY),.v ((eT D.int) xO),.u,.v (D.int xP),.y ((oL D.int) yu),.v (D.int ϭ),.v ((eO (eT D.int)) xl)])) (bL (FC (pW rJ (AH rfl))) (Ox (Sz (Bo (Jj (DF rfl) (CQ (AH rfl) (CQ (AH rfl) (CQ (AH rfl) (CQ (fo (AH rfl)) Bq))))) (λyx=>X7 W yx.1 yx.2.1 yx.2.2.1 yx.2.2.2.1 yx.2.2.2.2.1) (λ_=>rfl) EZ)))) (DO (CO rfl)) (Ex (.refl _))) (λ_=>(Az (Dd (IM (JN (Qg (fo (AH rfl)))))) (λv67=>(Cr (Ey (B:=(λ(_:Unit)=>[.z ((oL (eP D.int D.int)) Bj),.v (D.int Ai),.z ((oL (eP (eT D.int) (eT (eP D.int (eO (eT D.int)))))) FG),.v (D.str CW),.z ((oL D.int) Fi),.w 5 ((oDR (eT (eP D.int (eO (eT D.int))))) xY),.v ((eT D.int) v67),.u,.v (D.int xP),.y ((oL D.int) yu),.v (D.int ϭ),.v ((eO (eT D.int)) xl)])) (FC (fq (AH rfl) (HR rfl))) (DO (CO rfl)) (Ex (.refl _))) (λ_=>(.same (.same (.same (.same (.same (.same (.same (.same (.same (.same (.drop (.drop .nil)))))))))))))))))))))) (Ex (.refl _))) (λs78=>(.same (.same (.same (.same (.same (.same (.same (.same (.drop (.drop (.same (.same .nil)))))))))))))))))) (λs81=>(DO (CO rfl))))))))))
def bU(BG:(List Int)):Option (Fw Bool Unit):=
 BD ((Cd BG (0:Int)).bind λx7=>some (.nx x7)) λv1=>BD (some (.nx (((2:Int)+(v1 % 5))+(if (decide (((v1 / 84) % 8)=(1:Int)))=true then 1 else 0)))) λv8=>BD ((Iu BG (2:Int) v8).bind λxg=>some (.nx xg)) λv20=>BD (((Ii BG v20).bind λxZ=>fP v8 xZ).bind λzL=>some (.nx zL)) λxC=>BD ((((some (("one" : Str) :: (("all" : Str) :: []))).bind KP).bind λl49=>((Cd BG (1:Int)).bind λyV=>some (yV % 2)).bind λx50=>atI l49 x50).bind λx51=>some (.nx x51)) λxl=>BD (some (.nx (1:Int))) λv52=>BD (whF (λ(yy:Int)=>if (decide (yy < v8))=true then(ED xC yy xl).bind λxQ=>some xQ.isNone else some false) (λ(yy:Int)=>EA (λv68=>v68) (some (.nx (yy+(1:Int))))) wN v52) λzS=>(ED xC zS xl).bind λx81=>uq x81 false λzT=>BD ((if (!true)=true then some true else some (decide ((zT.length:Int)=(0:Int)))).bind λx90=>if x90=true then some (.rt false)else some (.nx ())) λ_=>BD ((if (decide (zS < v8))=true then(ED xC (zS+(1:Int)) xl).bind λx95=>some x95.isNone else some false).bind λx109=>if x109=true then some (.rt false)else some (.nx ())) λ_=>BD (some (.nx (HE BG none (some (63:Int))))) λyX=>BD (((Gz v20 v8 zT xl yX).bind λx129=>some (!x129)).bind λx131=>if x131=true then some (.rt false)else some (.nx ())) λ_=>(((((((EO yX.reverse (λyY=>some true) (λyY=>some ((yY / 7)+(1:Int)))).bind λx145=>some (x145,())).bind λx147=>some (xl,x147)).bind λx148=>some (zT,x148)).bind λx149=>some (v8,x149)).bind λx150=>some (v20,x150)).bind λxh=>Gz xh.1 xh.2.1 xh.2.2.1 xh.2.2.2.1 xh.2.2.2.2.1).bind λx152=>some (.rt x152)
def g8(BG:(List Int)):Option Bool:=FW (bU BG)
theorem uD(W:Wd)(BG:(List Int)):VF (b7 W) [.v (eF BG)] (rV D.bl) (g8 BG):=by
 refine EC (n:=9) (b:=je W) (p:=bU BG) (B:=λ_=>[]) ?_;show VS [.v (eF BG),.u,.u,.u,.u,.u,.u,.u,.u] _ _ _ _;unfold je bU;exact(Az (Dd (Bo (CQ (AH rfl) (CQ (CO rfl) Bq)) (λz6=>HV W z6.1 z6.2.1) (λ_=>rfl) EZ)) (λv1=>(Az (Dd (HU (HU (CO rfl) (Pk rfl (AH rfl))) (pY (Ji DS Hm (Pk rfl (Pl rfl (AH rfl))) (CO rfl))))) (λv8=>(Az (KS (Bo (CQ (AH rfl) (CQ (CO rfl) (CQ (AH rfl) Bq))) (λyT=>X5 W yT.1 yT.2.1 yT.2.2.1) (λ_=>rfl) JO)) (λv20=>(Az (KS (pS (AH rfl) (JN (Bo (CQ (AH rfl) (Jj (Di rfl) Bq)) (λz34=>Us W z34.1 z34.2.1) (λ_=>rfl) JO)))) (λxC=>(Az (Dd (Gi (JN (Ct (F9 (OG (CO rfl) (OG (CO rfl) HQ))))) (Pk rfl (Bo (CQ (AH rfl) (CQ (CO rfl) Bq)) (λϣ=>HV W ϣ.1 ϣ.2.1) (λ_=>rfl) EZ)))) (λxl=>(Az (Dd (CO rfl)) (λv52=>(Az (Sq (s0:=v52) (B:=(λ(s73:Int)=>[.v (eF BG),.v (D.int v1),.v (D.int v8),.y ((oL (eP D.int D.int)) v20),.y ((Hl W) xC),.v (D.str xl),.v (D.int s73),.u,.u])) (.refl _) (λyy=>(WW (FC (ff (AH rfl) (AH rfl))) (FC (bH (Bo (Jj (Di rfl) (CQ (AH rfl) (CQ (AH rfl) Bq))) (λz66=>Ku W z66.1 z66.2.1 z66.2.2.1) (λ_=>rfl) Zz))))) (λyy=>(Cr (Dd (HU (AH rfl) (CO rfl))) (λv68=>(.refl _))))) (λzS=>(kO (i:=7) (Bo (Jj (Di rfl) (CQ (AH rfl) (CQ (AH rfl) Bq))) (λz80=>Ku W z80.1 z80.2.1 z80.2.2.1) (λ_=>rfl) Zz) (Ox (FC (oO (enc:=eU) (t:="list") (r:=false) (T:="NoneType") (AH (enc:=eU) (v:=()) rfl) (λ_ _=>rfl) (by decide +kernel)))) (λzT=>(Az (Ey (B:=(λ(_:Unit)=>[.v (eF BG),.v (D.int v1),.v (D.int v8),.y ((oL (eP D.int D.int)) v20),.y ((Hl W) xC),.v (D.str xl),.v (D.int zS),.y ((oL (eP (eT D.int) (eT (eP D.int (eO (eT D.int)))))) zT),.u])) (bL (Ox (FC (pX (t:="list") (r:=true) (Di rfl) (by decide +kernel)))) (FC (Ji DS Hm (L7 (Di rfl)) (CO rfl)))) (DO (CO rfl)) (Ex (.refl _))) (λ_=>(Az (Ey (B:=(λ(_:Unit)=>[.v (eF BG),.v (D.int v1),.v (D.int v8),.y ((oL (eP D.int D.int)) v20),.y ((Hl W) xC),.v (D.str xl),.v (D.int zS),.y ((oL (eP (eT D.int) (eT (eP D.int (eO (eT D.int)))))) zT),.u])) (WW (FC (ff (AH rfl) (AH rfl))) (FC (bH (Bo (Jj (Di rfl) (CQ (HU (AH rfl) (CO rfl)) (CQ (AH rfl) Bq))) (λzU=>Ku W zU.1 zU.2.1 zU.2.2.1) (λ_=>rfl) Zz)))) (DO (CO rfl)) (Ex (.refl _))) (λ_=>(Az (KS (kr (AH rfl) SG (SF (CO rfl)))) (λyX=>(Az (Ey (B:=(λ(_:Unit)=>[.v (eF BG),.v (D.int v1),.v (D.int v8),.y ((oL (eP D.int D.int)) v20),.y ((Hl W) xC),.v (D.str xl),.v (D.int zS),.y ((oL (eP (eT D.int) (eT (eP D.int (eO (eT D.int)))))) zT),.y ((oL D.int) yX)])) (Ox (Sz (Bo (Jj (Di rfl) (CQ (AH rfl) (Jj (Di rfl) (CQ (AH rfl) (Jj (Di rfl) Bq))))) (λyz=>Oh W yz.1 yz.2.1 yz.2.2.1 yz.2.2.2.1 yz.2.2.2.2.1) (λ_=>rfl) EZ))) (DO (CO rfl)) (Ex (.refl _))) (λ_=>(DO (Bo (Jj (Di rfl) (CQ (AH rfl) (Jj (Di rfl) (CQ (AH rfl) (Jj (JN (Ct (DD (fV (Di rfl)) (λyY=>Ga) (λyY=>(HU (Pl rfl (AH rfl)) (CO rfl)))))) Bq))))) (λxh=>Oh W xh.1 xh.2.1 xh.2.2.1 xh.2.2.2.1 xh.2.2.2.2.1) (λ_=>rfl) EZ))))))))))))))))))))))))))
section
variable{o g:Nat}{us ts:List (Int×Int)}{kd:Str}{r s:List Int}{c:Int}{T:TL}
theorem jh(hr:Stg o g r)(hc:c∉r)(hs:Ans kd us r c s):jj us r c s:=by
 unfold Ans at hs;split at hs
 ·obtain⟨a,ha,hn,rfl⟩:=hs
  refine⟨by unfold wst;exact AF _,ZV (KW hr.2.2) hc,λy hy=>?_,(IY ha).mpr (.inl rfl)⟩;unfold wst at hy;rw[NK]at hy;obtain⟨x,hx,rfl⟩:=Av.mp hy;dsimp only;split
  ·rename_i e;rw[e];exact Mv.mpr (.inr hn)
  ·exact Mv.mpr (.inl rfl)
 ·exact hs
theorem Y1:∀{r:List Int},a∉r->r.countP (λg=>decide (g=a))=0
 | [],_=>rfl
 | x :: r,h=>by
  rw[Mz (by simp;exact λe=>h (by rw[e];exact AT ..))]
  exact Y1 λz=>h (AS _ z)
theorem cE:∀{r:List Int},r.Nodup->a∈r->r.countP (λg=>decide (g=a))=1
 | [],_,h=>by cases h
 | x :: r,hn,h=>by
  obtain⟨h1,h2⟩:=Bd.mp hn
  by_cases e:x=a
  ·subst e
   rw[Xp (by simp),Y1 h1]
  ·rw[Mz (by simpa using e)]
   exact cE h2 ((AZ.mp h).resolve_left λz=>e z.symm)
theorem sE(h:PN o ts)(ho:o < 8)(hr:Stg o g r)(h7:g<=7)(hk:kd = "one"∨kd = "all") (hc:c∉r) (hs:Ans kd (Iq ts) r c s):Kg ts r c kd s=some true:=by
 have hF:=jh hr hc hs
 have hl:r.length<=7:=by rw[hr.1];exact h7
 have hsl:=hF.1;refine Ok.is (v:=true) ?_;unfold Kg Kd;rw[show(!true)=false from rfl,qY AK,wX (show(s.length:Int)=(r.length:Int) by rw[hF.1])];simp only[Lp,Bb,if_false,AD];rw[wX hF.2.2.2];simp only[Lp,Bb,if_false,AD,BI];rw[OM (by omega) (by omega),Ak];simp only[AD];refine OkF.out (OkF.seq (OkF.for (λpre (z:Int)=>z=(((r.zip s).take pre.length).countP λy=>!decide (y.2=y.1):Nat)) rfl ?_) ?_)
 ·rintro pre k z xn hp rfl
  obtain⟨ek,wk⟩:=gg hp
  have ϧ:k=(pre.length:Int):=by omega
  subst ϧ
  have hlr:pre.length < r.length:=by rw[<-hF.1];exact wk
  have es:=Aa wk;have er:=Aa hlr;rw[Ll es,Ll er,sd s (by omega)];simp only[AD]
  have nin:s[pre.length]∉s.take pre.length:=λq=>by
   obtain⟨i,hi,e⟩:=CZ q;rw[DI]at hi;rw[List.getElem_take]at e;have:=(SB hF.2.1).mp e;omega
  rw[wY nin,qY AK];simp only[BI]
  have hz:(r.zip s)[pre.length]?=some (r[pre.length],s[pre.length]):=by rw[WH];exact⟨er,es⟩
  have cn:((r.zip s).take (pre.length+1)).countP (λy=>!decide (y.2=y.1))=((r.zip s).take pre.length).countP (λy=>!decide (y.2=y.1))+if s[pre.length]=r[pre.length]then 0 else 1:=by
   rw[Fu,hz,List.countP_append]
   congr 1
   show List.countP _ [(r[pre.length],s[pre.length])]=_
   by_cases q:s[pre.length]=r[pre.length]
   ·rw[qX q,Mz (by simpa using q)];rfl
   ·rw[qY q,Xp (by simpa using q)];rfl
  rw[Ag,Ay,cn]
  by_cases q:s[pre.length]=r[pre.length]
  ·rw[wX q]
   exact .nx (by rw[qX q];rfl)
  ·rw[wY q]
   simp only[VX,if_true,BI];rw[mq (by have:=h.ln;omega)];simp only[AD]
   have hm:s[pre.length]∈CI (lnr ts r[pre.length]):=by
    have:=hF.2.2.1 _ (Aq hz)
    rcases Mv.mp this with e | e
    ·exact zX e q
    ·exact(h.near (hr.2.1 _ (Do hlr)).1 _).mp e
   rw[wX hm];exact .nx (by rw[qY q];norm_cast)
 ·rintro z rfl
  rcases hk with k | k
  ·subst k
   rw[wY (show ¬(("one" : Str) = "all") by decide +kernel),qY AK];refine .rt (wX ?_);unfold Ans at hs;rw[qX rfl]at hs;obtain⟨a,ha,-,rfl⟩:=hs;rw[CJ,FM (by rw[HK];omega)];unfold wst;rw[NK,List.countP_map]
   have:r.countP ((λy:Int×Int=>!decide (y.2=y.1))∘λx=>(x,if x=a then c else x))=r.countP λx=>decide (x=a):=List.countP_congr λx hx=>by
    show((!decide ((if x=a then c else x)=x))=true)↔_
    by_cases q:x=a
    ·rw[qX q]
     have:¬c=x:=λe=>hc (by rw[e];exact hx)
     rw[wY this,wX q];simp
    ·rw[qY q]
     simp[q]
   rw[this,cE (KW hr.2.2) ha];rfl
  ·rw[wX k,qX rfl]
   exact .rt rfl
theorem iP{cs:List Int}{A:Int->List Int}(hc:c∈cs):Ij (cs.map λc=>(c,some (A c))) c=some (some (A c)):=by
 refine Ok.is (v:=some (A c)) ?_;unfold Ij Ig;refine OkF.out (OkF.seq (OkF.for (λpre _=>(c,some (A c))∉pre) (by simp) ?_) ?_)
 ·rintro pre x _ hx hp hI
  obtain⟨d,hd,rfl⟩:=Av.mp hx;dsimp only
  by_cases q:d=c
  ·rw[wX q,qX rfl,q]
   exact .rt rfl
  ·rw[wY q,qY AK]
   refine .nx λz=>?_
   rcases A0.mp z with z | z
   ·exact hI z
   ·have:=AU.mp z
    exact q (Xi this).1.symm
 ·intro _ hI
  exact zX (Av.mpr ⟨c,hc,rfl⟩) hI
theorem sX(ho:o < 8)(hg:g<=o)(h1:1<=g)(R:Int->β)(P:Int->Bool):∃D:List (List Int×β),EV (ρ:=Bool) (((DW 0 (sts o g).length).filter P).map λn=>(evN o g n,R n)) ([]:List (List Int×β)) (λs3 x4=>EA (λv7=>v7) ((HD s3 x4.1 x4.2).bind λzP=>some (.nx zP)))=some (.nx D)/\∀(n:Nat) r,(sts o g)[n]?=some r->Aj D r=if P n=true then some (R n)else none:=by
 obtain⟨-,-,hl⟩:=Oj o ho g (by omega) hg h1
 have at':∀x∈DW 0 (sts o g).length,(sts o g)[x.toNat]?=some (evN o g x):=λx hx=>by
  obtain⟨x0,x1⟩:=Ce.mp hx;have hr:=Aa (l:=sts o g) (i:=x.toNat) (by omega);have:=J7 hr;rw[Au x0]at this;rw[this];exact hr
 have key:∀l:List Int,(∀x∈l,x∈DW 0 (sts o g).length)->l.length<=35->∃D:List (List Int×β),EV (ρ:=Bool) (l.map λn=>(evN o g n,R n)) ([]:List (List Int×β)) (λs3 x4=>EA (λv7=>v7) ((HD s3 x4.1 x4.2).bind λzP=>some (.nx zP)))=some (.nx D)/\(∀(n:Nat) r,(sts o g)[n]?=some r->Aj D r=if (n:Int)∈l then some (R n)else none):=by
  intro l zH hlen
  have gen:∀(l pre:List Int) (s:List (List Int×β)),(∀x∈l,x∈DW 0 (sts o g).length)->s.length<=pre.length->pre.length+l.length<=35->(∀(n:Nat) r,(sts o g)[n]?=some r->Aj s r=if (n:Int)∈pre then some (R n)else none)->∃D:List (List Int×β),EV (ρ:=Bool) (l.map λn=>(evN o g n,R n)) s (λs3 x4=>EA (λv7=>v7) ((HD s3 x4.1 x4.2).bind λzP=>some (.nx zP)))=some (.nx D)/\(∀(n:Nat) r,(sts o g)[n]?=some r->Aj D r=if (n:Int)∈pre++l then some (R n)else none):=by
   intro l
   induction l with
   | nil=>intro pre s _ _ _ hs;exact⟨s,rfl,by simpa using hs⟩
   | cons k l ih=>
    intro pre s zH hsl hlen hs;rw[At]at hlen;have ak:=at' k (zH k (AT ..));obtain⟨k0,kl⟩:=Ce.mp (zH k (AT ..))
    obtain⟨D,e,hD⟩:=ih (pre++[k]) (B9 s (evN o g k) (R k)) (λx hx=>zH x (AS _ hx)) (by rw[Ag,Ay];exact Am (NY _ _ _) (by omega)) (by rw[Ag,Ay];omega) λn r hr=>by
     rw[Cu]
     by_cases e:r=evN o g k
     ·subst e
      have en:=lK ho hg h1 hr ak
      have en':(n:Int)=k:=by omega
      rw[qX rfl,en',qX (by simp)]
     ·rw[qY e,hs n r hr]
      have:(n:Int)∈pre++[k]↔(n:Int)∈pre:=by
       rw[A0,AU];refine⟨λq=>q.elim id λq=>?_,.inl⟩;subst q;rw[Ak,hr]at ak;exact zX (Bl ak) e
      simp only[this]
    refine⟨D,?_,by simpa using hD⟩;rw[BC];unfold EV;dsimp only;rw[show HD s (evN o g k) (R k)=some (B9 s (evN o g k) (R k))from qX (by omega)];exact e
  obtain⟨D,e,hD⟩:=gen l [] [] zH (AL _) (by simpa using hlen) λn r _=>rfl
  exact⟨D,e,by simpa using hD⟩
 have yK:=Dh P (DW 0 (sts o g).length);rw[CJ]at yK;obtain⟨D,e,hD⟩:=key ((DW 0 (sts o g).length).filter P) (λx hx=>(BJ.mp hx).1) (by omega);refine⟨D,e,λn r hr=>?_⟩;rw[hD n r hr]
 have:(n:Int)∈(DW 0 (sts o g).length).filter P↔P n=true:=by
  rw[BJ,Ce];exact⟨λh=>h.2,λh=>⟨⟨by omega,by have:=(AC.mp hr).1;omega⟩,h⟩⟩
 simp only[this]
theorem YT(h:PN o ts)(ho:o < 8)(hg:g<=o)(h1:1<=g)(hk:kd = "one"∨kd = "all") {R:Int->List (Int×Option (List Int))} (wd:∃r,La o g T r)
  (hR:∀n:Nat,n < (sts o g).length->Aj T (n:Int)=none->∃A:Int->List Int,R n=(clS o g n).map (λc=>(c,some (A c)))/\∀c∈clS o g n,Ans kd (Iq ts) (evN o g n) c (A c)/\La o g T (CI (A c))) (cells:List Int) :
  Gz ts o (((DW 0 (sts o g).length).filter λn=>!(Aj T n).isSome).map λn=>(evN o g n,R n)) kd cells=some true:=by
 obtain⟨-,-,hl⟩:=Oj o ho g (by omega) hg h1;refine Ok.is (v:=true) ?_;obtain⟨D,eD,hD⟩:=sX ho hg h1 R (λn=>!(Aj T n).isSome)
 have hD':∀(n:Nat) r,(sts o g)[n]?=some r->Aj T (n:Int)=none->Aj D r=some (R n):=λn r hr hv=>by rw[hD n r hr,hv];rfl
 unfold Gz Ic;simp only[BI];rw[eD];simp only[BI]
 have pm:∀x∈((DW 0 (sts o g).length).filter λn=>!(Aj T n).isSome).map (λn=>(evN o g n,R n)),La o g T x.1:=λx hx=>by
  obtain⟨n,hn,rfl⟩:=Av.mp hx;exact(UC ho hg h1).mp (Av.mpr ⟨n,hn,rfl⟩)
 have pne:((DW 0 (sts o g).length).filter λn=>!(Aj T n).isSome).map (λn=>(evN o g n,R n))≠[]:=λz=>by
  obtain⟨r,hr⟩:=wd;have:=(UC (T:=T) ho hg h1).mpr hr;rw[cW.mp z]at this;cases this
 generalize ((DW 0 (sts o g).length).filter λn=>!(Aj T n).isSome).map (λn=>(evN o g n,R n))=pp at pm pne;rw[W1 (by have:=G6.mpr pne;omega)];obtain⟨x0,e0,m0⟩:=SW (l:=pp) (TF cells) pne;simp only[AD];rw[e0];simp only[AD,BI];refine OkF.out (OkF.seq (OkF.for (λ_ (s:List Int)=>La o g T s) (pm x0 m0) ?_) λ_ _=>.rt rfl);intro pre cell s wz hp hs;obtain⟨n,hn,hv⟩:=hs;have hN:=(AC.mp hn).1;have hS:=(Ev ho hg h1).mp (Aq hn);rw[OM (by omega) (by omega),Ak];simp only[AD];rw[J8 (P:=λx=>!decide (x∈s)) (by rw[CJ];omega) λ_ _=>rfl];simp only[AD,BI,nR]
 have ef:(DW 0 o).filter (λx=>!decide (x∈s))=clS o g n:=by unfold clS;rw[J7 hn]
 rw[ef]
 by_cases hf:clS o g n=[]
 ·rw[wX hf]
  exact OkF.map (N:=λs=>La o g T s) (.nx ⟨n,hn,hv⟩) λ_ h=>h
 ·rw[wY hf]
  simp only[VX,if_true];rw[W1 (by have:=G6.mpr hf;omega)];obtain⟨c,ec,hcm⟩:=SW (l:=clS o g n) cell hf;simp only[AD];rw[ec];simp only[AD,BI];obtain⟨A,a1,a2⟩:=hR n hN hv;rw[hD' n s hn hv];simp only[AD];rw[a1,iP hcm];simp only[AD,BI,Option.isNone_some,Bb,if_false];obtain⟨q1,q2⟩:=a2 c hcm;rw[J7 hn]at q1;rw[sE h ho hS (by omega) hk ((XI hn).mp hcm).2 q1];simp only[AD,Lp,Bb,if_false,BI];have q2':=q2;obtain⟨j,hj,hjv⟩:=q2;rw[QG (by have:=((Ev (by omega) hg h1).mp (Aq hj)).1;rw[(EK _).length_eq]at this;omega)];simp only[AD,BI];rw[hD' j _ hj hjv];exact .nx q2'
theorem mx(ht:IA o us)(ho1:1<=o)(F:Fa (sts o o).length (clS o o) (BS o o us kd) T):∃r,La o o T r:=by
 have hS:Stg o o (DW 0 o):=⟨CJ _ _,λx hx=>by have:=Ce.mp hx;omega,Pu 0 o⟩;refine⟨_,V0 ht (AL _) ho1 F (P:=λr=>Stg o o r) (λr hr=>⟨hr,λc c0 c1 c2=>?_⟩) hS⟩;exact zX (SI (r:=DW 0 o) (KW hr.2.2) (λx hx=>Ce.mpr (by have:=hr.2.1 x hx;omega)) (by rw[hr.1,CJ]) c (Ce.mpr (by omega))) c2
theorem mw(ht:IA o us)(hg:g < o)(h1:1<=g)(F:Fa (sts o g).length (clS o g) (BS o g us kd) T)(F':Fa (sts o (g+1)).length (clS o (g+1)) (BS o (g+1) us kd) T')(h:∃r,La o g T r):∃r,La o (g+1) T' r:=by
 obtain⟨r,hr⟩:=h;have hc:=da ht (by omega) h1 F;have hS:=(hc r hr).1
 obtain⟨x,x0,x1⟩:∃x∈DW 0 o,x∉r:=GV λz=>by
  have:=IU (k:=r) ((Pu 0 o).imp λ{a b} h=>by omega) λx hx=>GV λq=>z ⟨x,hx,q⟩
  rw[CJ,hS.1]at this;omega
 have:=Ce.mp x0;exact⟨_,V0 ht (by omega) (by omega) F' (grow ht hc) ⟨r,x,hr,⟨by omega,by omega⟩,x1,rfl⟩⟩
end
theorem vI(ns:List Int)(yi:ns.length<=63):g8 ns=some true:=by
 refine Ok.is (v:=true) ?_;unfold g8 bU;rw[show Cd ns 0=some (ns.getD 0 0)from XN ns 0,show Cd ns 1=some (ns.getD 1 0)from XN ns 1];simp only[AD,BI]
 have ho:∃o:Nat,2<=o/\o < 8/\(2+ns.getD 0 0 % 5+if decide (ns.getD 0 0 / 84 % 8=1)=true then 1 else 0)=(o:Int):=
  ⟨(2+ns.getD 0 0 % 5+if decide (ns.getD 0 0 / 84 % 8=1)=true then 1 else 0).toNat,by split <;> omega,by split <;> omega,by split <;> omega⟩
 obtain⟨o,o2,o8,eo⟩:=ho;rw[eo];obtain⟨P,e1⟩:=pz ns yi 2 (by decide) o2 o8;rw[show Iu ns 2 o=_ from e1];have ht:=lD o8 P;generalize (prs o).filter P=ts at ht;simp only[AD,BI];obtain⟨hs,e2,h2⟩:=il ns (ts:=ts) (by have:=ht.ln;omega);rw[e2];simp only[AD];rw[ht.web (by omega) (by omega) h2];simp only[AD,BI,few2];have ϯ:=ht.ties o8
 obtain⟨kd,ek,hk⟩:∃kd:Str,atI [("one" : Str), "all"] (ns.getD 1 0 % 2)=some kd/\(kd = "one"∨kd = "all"):=by
  obtain⟨x,hx,hm⟩:=SW (l:=[("one" : Str), "all"]) (ns.getD 1 0) (by simp);exact⟨x,hx,by simpa using hm⟩
 rw[ek];simp only[AD,BI]
 obtain⟨s,ew,⟨g,rfl,g1,go⟩,hc⟩:=WM (ρ:=Bool) (c:=λ(yy:Int)=>if (decide (yy < (o:Int)))=true then(ED (o,Iq ts) yy kd).bind λxQ=>some xQ.isNone else some false) (q:=λ(yy:Int)=>EA (λv68=>v68) (some (.nx (yy+(1:Int))))) (λs=>∃g:Nat,s=g/\1<=g/\g<=o) (λs=>(o - s).toNat) (λs ⟨g,hs,g1,go⟩=>by
  subst hs
  by_cases c:g < o
  ·rw[wX (show(g:Int) < (o:Int) by omega),qX rfl]
   obtain⟨T,-,v,e,-⟩:=Wp ϯ go g1 hk;rw[e]
   cases v with
   | some pp=>exact .inl rfl
   | none=>exact .inr ⟨rfl,(g:Int)+1,rfl,⟨g+1,by omega,by omega,by omega⟩,by show((o:Int) - ((g:Int)+1)).toNat < ((o:Int) - (g:Int)).toNat;omega⟩
  ·rw[wY (show ¬(g:Int) < (o:Int) by omega),qY AK]
   exact .inl rfl) wN 1 ⟨1,rfl,AL _,by omega⟩ (by show((o:Int) - 1).toNat < wN;unfold wN;omega)
 rw[ew];simp only[BI];obtain⟨T,hT,v,ev,hv⟩:=Wp ϯ go g1 hk
 have ϰ:∃r,La o g T r:=by
  by_cases c:g < o
  ·rw[wX (show(g:Int) < (o:Int) by omega),qX rfl,ev]at hc
   cases v with
   | none=>cases hc
   | some pp=>exact hv.1
  ·have:g=o:=by omega
   subst this;exact mx ϯ (by omega) hT
 rw[ev]
 cases v with
 | none=>obtain⟨r,hr⟩:=ϰ;exact zX hr (hv r)
 | some pp=>
  obtain⟨-,R,rfl,hR⟩:=hv;simp only[AD];show Ok (FW (BD _ _)) _;rw[show(!true)=false from rfl,qY AK]
  have pne:(((DW 0 (sts o g).length).filter λn=>!(Aj T n).isSome).map λn=>(evN o g n,R n)).length≠0:=λz=>by
   obtain⟨r,hr⟩:=ϰ;have:=(UC (T:=T) o8 go g1).mpr hr;rw[AF]at z;rw[JL z]at this;cases this
  rw[wY (show ¬((((DW 0 (sts o g).length).filter λn=>!(Aj T n).isSome).map λn=>(evN o g n,R n)).length:Int)=0 by omega)];simp only[AD,Bb,if_false,BI]
  have ϱ:(if decide ((g:Int) < (o:Int))=true then(ED (o,Iq ts) ((g:Int)+1) kd).bind λx95=>some x95.isNone else some false)=some false:=by
   by_cases c:g < o
   ·rw[wX (show(g:Int) < (o:Int) by omega),qX rfl,show(g:Int)+1=((g+1:Nat):Int) by omega]
    obtain⟨T',hT',v',ev',zu⟩:=Wp ϯ (g:=g+1) (by omega) (by omega) hk;rw[ev']
    cases v' with
    | some pp=>rfl
    | none=>obtain⟨r,hr⟩:=mw ϯ c g1 hT hT' ϰ;exact zX hr (zu r)
   ·rw[wY (show ¬(g:Int) < (o:Int) by omega),qY AK]
  rw[ϱ];simp only[AD,Bb,if_false,BI];rw[YT ht o8 go g1 hk ϰ hR];simp only[AD,Lp,Bb,if_false,BI];rw[FR (f:=λx=>x / 7+1) (by rw[PZ];have:=jQ ns none (some 63);omega) λ_ _=>rfl];simp only[AD];rw[YT ht o8 go g1 hk ϰ hR];exact⟨true,rfl,rfl⟩
theorem sD:∀(W:Wd),W.excs.Nodup->∀ns:List Int,ns.length<=63->∃S',b7 W [.fro (ns.map D.int)] []=.ok (.bl true) S':=λW _ ns h=>VF.law (by rw[<-vI ns h];exact uD W ns)
end M
namespace PySem.W.Fast
def tw330080364939209440:Nat:=0
def tw658850723400016335:Nat:=0
def tw5568675682453535595:Nat:=0
def tw1402581594736629609:Nat:=0
def tw8281408582982392970:Nat:=0
def tw4582947870429455959:Nat:=0
def tw7933637095552084270:Nat:=0
def tw10182336531392191324:Nat:=0
def tw12571934886361757377:Nat:=0
def tw13780816403838124259:Nat:=0
def tw4139891916097852750:Nat:=0
def tw4129879746148242853:Nat:=0
def tw12580769451685599406:Nat:=0
def tw6554026628968525872:Nat:=0
def tw17068777673413497106:Nat:=0
def tw9830221168884274185:Nat:=0
def tw4103857662090426996:Nat:=0
def tw5853594397581159067:Nat:=0
def tw8999593573979606418:Nat:=0
def tw15750848493666158775:Nat:=0
def tw7016046049118571036:Nat:=0
def tw3965099476571047954:Nat:=0
def tw11613467697894099297:Nat:=0
def tw10307021138463851687:Nat:=0
def tw16746829578137823436:Nat:=0
def tw18199675859148489332:Nat:=0
def tw13604653472051606031:Nat:=0
def tw9297772605165303270:Nat:=0
def tw489222539069506010:Nat:=0
def tw17631782780793337688:Nat:=0
def tw1521392024069013044:Nat:=0
def tw8031515172698915516:Nat:=0
def tw5658789263660336614:Nat:=0
def tw7317677300865308295:Nat:=0
def tw4243437542361004741:Nat:=0
def tw6926781556667925884:Nat:=0
def tw5435798714604502792:Nat:=0
def tw16350302014891968317:Nat:=0
def tw2124417524436084909:Nat:=0
def tw6827423204655414101:Nat:=0
def tw943639728942737866:Nat:=0
def tw1046019336429127525:Nat:=0
def tw18209296715334587688:Nat:=0
def tw5240659933528480732:Nat:=0
def tw4944793393519827795:Nat:=0
def tw16910683681138355603:Nat:=0
def tw5719734497680445551:Nat:=0
def tw111485317997479140:Nat:=0
def tw8079001962898847566:Nat:=0
def tw7478558321123981471:Nat:=0
def tw1590836727425979279:Nat:=0
def tw11247002753583360067:Nat:=0
def tw9995968710424241816:Nat:=0
def tw12026724826969973928:Nat:=0
def tw9317603556511783246:Nat:=0
def tw14556710356884429033:Nat:=0
def tw7243656600486662413:Nat:=0
def tw12277501146506950147:Nat:=0
def tw10165715808221262286:Nat:=0
def tw6154174683096647419:Nat:=0
def tw1880462521335641530:Nat:=0
def tw1960026008118956135:Nat:=0
def tw6839544789487039123:Nat:=0
def tw2660621848259064910:Nat:=0
def tw14458573444089659026:Nat:=0
def tw17064842320750603232:Nat:=0
def tw10920905814171916360:Nat:=0
def tw1072479384617006120:Nat:=0
def tw15001484180354354537:Nat:=0
def tw13517636406316824660:Nat:=0
def tw17156393113586474534:Nat:=0
def tw12505076597010738448:Nat:=0
def tw10755861766830314051:Nat:=0
def tw12644813246435279673:Nat:=0
def tw10328307062013977448:Nat:=0
def tw5443498592753293595:Nat:=0
def tw5815531093409850309:Nat:=0
def tw2967107140680628794:Nat:=0
def tw10912961775064117036:Nat:=0
def tw10509752363684172642:Nat:=0
def tw9380060165892156106:Nat:=0
def tw4270707520312675134:Nat:=0
def tw5257138797536551801:Nat:=0
def tw10888336278975625391:Nat:=0
def tw14703423179339409670:Nat:=0
def tw13781373519580237524:Nat:=0
def tw2636702184209454875:Nat:=0
def tw6137819175247211936:Nat:=0
def tw4092055923813538211:Nat:=0
def tw17700241682907785683:Nat:=0
def tw10269066521531350868:Nat:=0
def tw605938782515260729:Nat:=0
def tw3794378367016580432:Nat:=0
def tw5938245254024631164:Nat:=0
def tw2142032320621541019:Nat:=0
def tw9639986644728897114:Nat:=0
def tw15744550811614344531:Nat:=0
def tw16980738287682112259:Nat:=0
def tw8918740761515385588:Nat:=0
def tw1489634609735595931:Nat:=0
def tw14417457644164159980:Nat:=0
def tw9982947374773765690:Nat:=0
def tw387810947532589109:Nat:=0
def tw8627242739517129437:Nat:=0
def tw2911583995262606561:Nat:=0
def tw13243410088956998876:Nat:=0
def tw12852426254655477297:Nat:=0
def tw3009533842699718734:Nat:=0
def tw2684589907604810026:Nat:=0
def tw16893698221248262557:Nat:=0
def tw487716998574313499:Nat:=0
def tw13931818520183730272:Nat:=0
def tw14229098563614942987:Nat:=0
def tw17541714649838904360:Nat:=0
def tw13500636116185929369:Nat:=0
def tw15819930048894916146:Nat:=0
def tw1032695031172824978:Nat:=0
def tw11082700096543273941:Nat:=0
def tw3213397907698199706:Nat:=0
def tw12897374749560846370:Nat:=0
def tw12155207939133762257:Nat:=0
def tw1956839794726330071:Nat:=0
def tw2520627065077747481:Nat:=0
def tw7020099191968854963:Nat:=0
def tw5258129596352317088:Nat:=0
end PySem.W.Fast
namespace M
open PySem PySem.Spec PyProof.Rows L2 PySem.W
theorem sh{l:OpenLaw}{w:CH}{K:Frag}{h:C9}{mg:Str->Option AI}{fa:AW}(X:K.In h)(G:h.Ns BY mg)(hfa:mg "law" = some (.ref fa))
  {f1 f2 f3 f4 f5 f6 f7 f8 f9 f10 f11 f12 f13 f14 f15 f16 f17 f18 f19 f20 f21 f22 f23 f24 f25 f26 f27 f28 f29 f30 f31 f32 f33 f34 f35 f36 f37 f38 f39 f40 ya w9:AW} {wt we:Tok}
  (o_Web:ClsAt K "Web" ya)
  (o_Field:ClsAt K "Field" w9)
  (d1:D3 K "checked_ties" Jq f1)
  (d2:D3 K "near_sets_of" Jn f2)
  (d4:D3 K "refuse_no_place" HX f4)
  (d5:D3 K "near" Zv f5)
  (d6:D3 K "takes_of" O2 f6)
  (d7:D3 K "bits_of" Qq f7)
  (d8:D3 K "members" Qp f8)
  (d9:D3 K "settle" TZ f9)
  (d10:D3 K "fits" Zw f10)
  (d11:D3 K "first_step" MF f11)
  (d12:D3 K "first_into" MH f12)
  (d13:D3 K "with_step" NR f13)
  (d14:D3 K "sets_of" Qo f14)
  (d15:D3 K "ways_to_choose" IP f15)
  (d16:D3 K "how_many" O3 f16)
  (d17:D3 K "standings" NS f17)
  (d25:D3 K "falling_now" Kx f25)
  (d26:D3 K "fallen" Tb f26)
  (d27:D3 K "lasting_bits" Jo f27)
  (d28:D3 K "guide_answer" Jp f28)
  (d29:D3 K "guide_rows" MD f29)
  (d30:D3 K "guide_paper" Kw f30)
  (d31:D3 K "_law_cell_at" Jr f31)
  (d32:D3 K "_law_pairs" MJ f32)
  (d33:D3 K "_law_first_ties" HY f33)
  (d34:D3 K "_law_ties" NT f34)
  (d35:D3 K "_law_handed" Kz f35)
  (d36:D3 K "_law_near" NU f36)
  (d37:D3 K "_law_goes" NV f37)
  (d38:D3 K "_law_answer" K0 f38)
  (d39:D3 K "_law_played" Ky f39)
  (d40:D3 K "law" bO f40)
  (d3:OA K ya "__init__" "Web.__init__" O4 f3)
  (d18:OA K w9 "linked_by_one" "Field.linked_by_one" FU f18)
  (d19:OA K w9 "linked_by_all" "Field.linked_by_all" FV f19)
  (d20:OA K w9 "__init__" "Field.__init__" MK f20)
  (d21:OA K w9 "calls" "Field.calls" K5 f21)
  (d22:OA K w9 "linked" "Field.linked" Js f22)
  (d23:OA K w9 "behind" "Field.behind" Jt f23)
  (d24:OA K w9 "first_answer" "Field.first_answer" GB f24)
  (n_Web_places:findIn K (.ref ya) "places" = some none)
  (n_Web_ties:findIn K (.ref ya) "ties" = some none)
  (n_Web_near_sets:findIn K (.ref ya) "near_sets" = some none)
  (n_Field_everything:findIn K (.ref w9) "everything" = some none)
  (n_Field_kind:findIn K (.ref w9) "kind" = some none)
  (n_Field_takes:findIn K (.ref w9) "takes" = some none)
  (n_Field_numbers:findIn K (.ref w9) "numbers" = some none)
  (n_Field_having:findIn K (.ref w9) "having" = some none)
  (n_Field_place_bits:findIn K (.ref w9) "place_bits" = some none)
  (n_Field_known:findIn K (.ref w9) "known" = some none)
  (z_enumerate:Sa K BY "enumerate" = some none)
  (z_int:Sa K BY "int" = some none)
  (z_isinstance:Sa K BY "isinstance" = some none)
  (z_len:Sa K BY "len" = some none)
  (z_list:Sa K BY "list" = some none)
  (z_max:Sa K BY "max" = some none)
  (z_min:Sa K BY "min" = some none)
  (z_range:Sa K BY "range" = some none)
  (z_reversed:Sa K BY "reversed" = some none)
  (z_sorted:Sa K BY "sorted" = some none)
  (z_sum:Sa K BY "sum" = some none)
  (z_tuple:Sa K BY "tuple" = some none)
  (g_MOST_PLACES:Sa K BY "MOST_PLACES" = some (some (.int 60 wt)))
  (g_MOST_STANDINGS:Sa K BY "MOST_STANDINGS" = some (some (.int 400 we)))
  : ∃(W:Wd) (T:Txt K mg W),fa=T.d_law.f/\W.excs.Nodup/\∀(s:AR) (v:AI),ZG s T.d_law.fd ⟨[v],[]⟩ [("script",v)]:=by
 obtain⟨zl,_,_,_,_,_,_,_,_,_,l,c,k⟩:=d40;have F:=i7 (st:=bO) l c k
 let W:Wd:=⟨ya,w9⟩
 let T:Txt K mg W:={
  d_checked_ties:=mkD X G d1 (bd2 λ_ _ _ _ _ _ _ _ _ _=>rfl)
  d_near_sets_of:=mkD X G d2 (bd2 λ_ _ _ _ _ _ _ _ _ _=>rfl)
  d_Web_init:=mkM d3 (bd3 λ_ _ _ _ _ _ _ _ _ _ _=>rfl)
  d_refuse_no_place:=mkD X G d4 (bd2 λ_ _ _ _ _ _ _ _ _ _=>rfl)
  d_near:=mkD X G d5 (bd2 λ_ _ _ _ _ _ _ _ _ _=>rfl)
  d_takes_of:=mkD X G d6 (bd1 λ_ _ _ _ _ _ _ _ _=>rfl)
  d_bits_of:=mkD X G d7 (bd1 λ_ _ _ _ _ _ _ _ _=>rfl)
  d_members:=mkD X G d8 (bd1 λ_ _ _ _ _ _ _ _ _=>rfl)
  d_settle:=mkD X G d9 (bd5 λ_ _ _ _ _ _ _ _ _ _ _ _ _=>rfl)
  d_fits:=mkD X G d10 (bd3 λ_ _ _ _ _ _ _ _ _ _ _=>rfl)
  d_first_step:=mkD X G d11 (bd4 λ_ _ _ _ _ _ _ _ _ _ _ _=>rfl)
  d_first_into:=mkD X G d12 (bd3 λ_ _ _ _ _ _ _ _ _ _ _=>rfl)
  d_with_step:=mkD X G d13 (bd3 λ_ _ _ _ _ _ _ _ _ _ _=>rfl)
  d_sets_of:=mkD X G d14 (bd2 λ_ _ _ _ _ _ _ _ _ _=>rfl)
  d_ways_to_choose:=mkD X G d15 (bd2 λ_ _ _ _ _ _ _ _ _ _=>rfl)
  d_how_many:=mkD X G d16 (bd2 λ_ _ _ _ _ _ _ _ _ _=>rfl)
  d_standings:=mkD X G d17 (bd2 λ_ _ _ _ _ _ _ _ _ _=>rfl)
  d_Field_linked_by_one:=mkM d18 (bd2 λ_ _ _ _ _ _ _ _ _ _=>rfl)
  d_Field_linked_by_all:=mkM d19 (bd2 λ_ _ _ _ _ _ _ _ _ _=>rfl)
  d_Field_init:=mkM d20 (bd4 λ_ _ _ _ _ _ _ _ _ _ _ _=>rfl)
  d_Field_calls:=mkM d21 (bd2 λ_ _ _ _ _ _ _ _ _ _=>rfl)
  d_Field_linked:=mkM d22 (bd2 λ_ _ _ _ _ _ _ _ _ _=>rfl)
  d_Field_behind:=mkM d23 (bd3 λ_ _ _ _ _ _ _ _ _ _ _=>rfl)
  d_Field_first_answer:=mkM d24 (bd4 λ_ _ _ _ _ _ _ _ _ _ _ _=>rfl)
  d_falling_now:=mkD X G d25 (bd2 λ_ _ _ _ _ _ _ _ _ _=>rfl)
  d_fallen:=mkD X G d26 (bd1 λ_ _ _ _ _ _ _ _ _=>rfl)
  d_lasting_bits:=mkD X G d27 (bd2 λ_ _ _ _ _ _ _ _ _ _=>rfl)
  d_guide_answer:=mkD X G d28 (bd4 λ_ _ _ _ _ _ _ _ _ _ _ _=>rfl)
  d_guide_rows:=mkD X G d29 (bd3 λ_ _ _ _ _ _ _ _ _ _ _=>rfl)
  d_guide_paper:=mkD X G d30 (bd3 λ_ _ _ _ _ _ _ _ _ _ _=>rfl)
  d__law_cell_at:=mkD X G d31 (bd2 λ_ _ _ _ _ _ _ _ _ _=>rfl)
  d__law_pairs:=mkD X G d32 (bd1 λ_ _ _ _ _ _ _ _ _=>rfl)
  d__law_first_ties:=mkD X G d33 (bd2 λ_ _ _ _ _ _ _ _ _ _=>rfl)
  d__law_ties:=mkD X G d34 (bd3 λ_ _ _ _ _ _ _ _ _ _ _=>rfl)
  d__law_handed:=mkD X G d35 (bd2 λ_ _ _ _ _ _ _ _ _ _=>rfl)
  d__law_near:=mkD X G d36 (bd2 λ_ _ _ _ _ _ _ _ _ _=>rfl)
  d__law_goes:=mkD X G d37 (bd5 λ_ _ _ _ _ _ _ _ _ _ _ _ _=>rfl)
  d__law_answer:=mkD X G d38 (bd2 λ_ _ _ _ _ _ _ _ _ _=>rfl)
  d__law_played:=mkD X G d39 (bd5 λ_ _ _ _ _ _ _ _ _ _ _ _ _=>rfl)
  d_law:=⟨f40,_,F,F.binds ((bd1 λ_ _ _ _ _ _ _ _ _=>rfl) _ _),tE X G zl⟩
  c_Web:=mkO X G o_Web d3
  n_Web_places:=n_Web_places
  n_Web_ties:=n_Web_ties
  n_Web_near_sets:=n_Web_near_sets
  c_Field:=mkO X G o_Field d20
  n_Field_everything:=n_Field_everything
  n_Field_kind:=n_Field_kind
  n_Field_takes:=n_Field_takes
  n_Field_numbers:=n_Field_numbers
  n_Field_having:=n_Field_having
  n_Field_place_bits:=n_Field_place_bits
  n_Field_known:=n_Field_known
  m_Field_linked_by_one:=mkE d18
  m_Field_linked_by_all:=mkE d19
  m_Field_calls:=mkE d21
  m_Field_linked:=mkE d22
  m_Field_behind:=mkE d23
  m_Field_first_answer:=mkE d24
  b_enumerate:=E9 X G z_enumerate
  b_int:=E9 X G z_int
  b_isinstance:=E9 X G z_isinstance
  b_len:=E9 X G z_len
  b_list:=E9 X G z_list
  b_max:=E9 X G z_max
  b_min:=E9 X G z_min
  b_range:=E9 X G z_range
  b_reversed:=E9 X G z_reversed
  b_sorted:=E9 X G z_sorted
  b_sum:=E9 X G z_sum
  b_tuple:=E9 X G z_tuple
  g_MOST_PLACES:=⟨wt,tE X G g_MOST_PLACES⟩
  g_MOST_STANDINGS:=⟨we,tE X G g_MOST_STANDINGS⟩ }
 refine⟨W,T,?_,EX,λs v=>.of_eq rfl⟩;have e:=hfa.symm.trans (tE X G zl);cases e;rfl
theorem walk{l:OpenLaw}{q:Bh}{loose:List Str}{XP:(Str->Option AI)->C9->Prop}{YP:CH->C9->Prop}{d:DefRec}{K:Params->Frag}(hn:l.most=some 63)(Ε:d.params.defaults=[])
  (hY:∀(w:CH) (h:C9),YP w h->(K w.params).In h)
  (F:∀(w:CH) (mg:Str->Option AI) (fa:AW) (h:C9),(K w.params).In h->h.Ns BY mg->mg d.name=some (.ref fa) ->
   ∃(W:Wd) (T:Txt (K w.params) mg W),fa=T.d_law.f/\W.excs.Nodup/\∀(s:AR) (v:AI),ZG s T.d_law.fd ⟨[v],[]⟩ [("script",v)])
  (sD:∀(W:Wd),W.excs.Nodup->∀ns:List Int,ns.length<=63->∃S',b7 W [.fro (ns.map D.int)] []=.ok (.bl true) S') :
  WalkO q loose XP YP l.row.toRowW d [] (λf vs=>cR f vs):=
 L2.kG (n:=63) (k:=18) (x:="script") (CX:=λw=>CXG l.prog w) (sp:=λw=>gZ (K w.params)) hn (by decide) Ε ⟨rfl,by decide,by decide⟩ hY
  (λw mg fa h KX G zy=>by
   obtain⟨W,T,e,nd,hb⟩:=F w mg fa h KX G zy;subst e
   exact⟨T.d_law.fd,hb,λbase _ _=>iT (rE T) (sD W nd)⟩)
  (λ_ _ a ns hl hO hS=>⟨a,ns,rfl,sM hO hS,hl,λ_=>rfl⟩) (λw H s e s' z=>sZ z)
end M
open PySem PySem.W PyProof.Rows
set_option maxRecDepth 100000 in
set_option maxHeartbeats 0 in
theorem PySem.Challenge.cw_guardround_k62_whole_guide_for_ever_holds : PySem.Challenge.rw_guardround_k62_whole_guide_for_ever.Holds := by
 w_on;o_law;k_head;(case hw=>w_witness2)
 k_fill
 refine M.walk (l:=HP) rfl rfl (λw h Y=>by first | exact kIn_of Y | exact km_in_of Y) ?F M.sD
 case F=>
  intro w mg fa h KX G zy;refine' M.sh (l:=HP) (w:=w) KX G zy ?o_Web ?o_Field ?d1 ?d2 ?d4 ?d5 ?d6 ?d7 ?d8 ?d9 ?d10 ?d11 ?d12 ?d13 ?d14 ?d15 ?d16 ?d17 ?d25 ?d26 ?d27 ?d28 ?d29 ?d30 ?d31 ?d32 ?d33 ?d34 ?d35 ?d36 ?d37 ?d38 ?d39 ?d40 ?d3 ?d18 ?d19 ?d20 ?d21 ?d22 ?d23 ?d24 ?n_Web_places ?n_Web_ties ?n_Web_near_sets ?n_Field_everything ?n_Field_kind ?n_Field_takes ?n_Field_numbers ?n_Field_having ?n_Field_place_bits ?n_Field_known ?z_enumerate ?z_int ?z_isinstance ?z_len ?z_list ?z_max ?z_min ?z_range ?z_reversed ?z_sorted ?z_sum ?z_tuple ?g_MOST_PLACES ?g_MOST_STANDINGS
  (case o_Web | o_Field=>exact⟨by k_is,by k_is,by k_is,by k_is,by k_is,by k_is,by k_is⟩)
  (case d1 | d2 | d4 | d5 | d6 | d7 | d8 | d9 | d10 | d11 | d12 | d13 | d14 | d15 | d16 | d17 | d25 | d26 | d27 | d28 | d29 | d30 | d31 | d32 | d33 | d34 | d35 | d36 | d37 | d38 | d39 | d40=>exact⟨by k_is,_,_,_,_,_,_,_,_,_,by k_is,by k_is,by k_is⟩)
  (case d3 | d18 | d19 | d20 | d21 | d22 | d23 | d24=>exact⟨by k_is,by k_is,_,_,_,_,_,_,_,_,_,by k_is,by k_is,by k_is⟩)
  (case n_Web_places | n_Web_ties | n_Web_near_sets | n_Field_everything | n_Field_kind | n_Field_takes | n_Field_numbers | n_Field_having | n_Field_place_bits | n_Field_known | z_enumerate | z_int | z_isinstance | z_len | z_list | z_max | z_min | z_range | z_reversed | z_sorted | z_sum | z_tuple | g_MOST_PLACES | g_MOST_STANDINGS=>k_is)
#print axioms PySem.Challenge.cw_guardround_k62_whole_guide_for_ever_holds
