import PyProof.Rows.All
import Wide.All
import OpenK.AllK
import Wide.FinOn
import Lean
import PyProof.EqAt
import PyProof.EqKinds
import PyProof.TupleCall
import PyProof.ExcBaseAll.ValueError
import PyProof.NsDelKeeps
import PyProof.NeKinds
import PyProof.Rows.SortShell
import PyProof.Rows.FStr
import PyProof.FString
import PyProof.ExcAttrAll.ValueError
import PyProof.ExcArgsOwn
import PyProof.Rows.SortRuns
import PyProof.TupleIter
import PyProof.Dict
import KE.KDictSum
import PyProof.Rows.SetFrom
import PyProof.SetRoads
import PyProof.Rows.Range3
import PyProof.WalksMore
import PyProof.Rows.SortRev
import PyProof.Rows.RuleB_bool
import PyProof.TupleOfSeq
import PyProof.EnumMake
import PyProof.SliceList
import PyProof.MinMaxWalk
import PyProof.Rows.EnumRows
import PyProof.WalkInts
import PyProof.Rows.SeqCalls
import KE.KRevIter
import PyProof.CollectIter
import PyProof.TupleOfGen
import PyProof.Rows.FactsT2
import PyProof.ListRange
import PyProof.Rows.CallKwBuiltin
import PyProof.ZipIter
import PyProof.Rows.ZipGen
import PyProof.Rows.RuleM_int
import PyProof.Rows.AssignMoreSeq
import KE.KIntText
import PyProof.Rows.StrKeys3
import PyProof.StrBlock
import PyProof.StrCalls2
import PyProof.StrWalks
import PyProof.Rows.RuleN_abs
import PyProof.CollectWalk
import PyProof.TupleKey
import PyProof.DictKinds
import PySem.Challenge.RW_guardround_k20_each_lasts_or_falls
set_option Elab.async false
set_option linter.all false
set_option compiler.extract_closed false
set_option bootstrap.genMatcherCode false
set_option genSizeOf false
set_option maxRecDepth 100000
set_option maxHeartbeats 8000000
abbrev ZLi:=List Int
abbrev ZPi:=Int×Int
def qX{c:Prop}{h:Decidable c}(l:c){m:Sort u}{t e:m}:ite c t e=t:=if_pos l
def qY{c:Prop}{h:Decidable c}(l:Not c){m:Sort u}{t e:m}:ite c t e=e:=if_neg l
def wX{p:Prop}[i:Decidable p](h:p):decide p=true:=decide_eq_true h
def wY{p:Prop}[i:Decidable p](h:Not p):decide p=false:=decide_eq_false h
def zX{a b:Prop}(h:a)(n:Not a):b:=absurd h n
noncomputable section
open Array renaming append_assoc->dZ,getD_eq_getD_getElem?->Fo,getElem?_eq_getElem->VX,getElem?_eq_some_iff->GY,getElem?_setIfInBounds_ne->RP,getElem?_toList->NU,length_toList->Bg,mem_extract_iff_getElem->R9,mem_of_getElem?->DW,mem_toList_iff->Bj,perm_iff_toList_perm->GX,toList->qT,toList_append->BW,toList_map->Lu,toList_modify->bg,toList_push->LH,toList_reverse->GV,toList_setIfInBounds->Uq
open Array.Perm renaming refl->QT
open Bool renaming and_eq_true->Db,false_eq_true->Cj,false_ne_true->AH,false_or->qS,not_eq_true'->gh,not_true->Xe,or_eq_true->NT,true_and->Xd
open Classical renaming byContradiction->Cn,choose->Ko,choose_spec->Hx
open Eq renaming trans->Ic
open False renaming elim->Ep
open ForInStep renaming yield->Iw
open Function renaming comp_def->Zm
open Int renaming eq_ofNat_of_zero_le->ZQ,fdiv_eq_ediv_of_nonneg->WG,le_refl->dX,lt_of_le_of_lt->ge,mul_comm->um,natCast_nonneg->Kn,one_mul->xE,toNat_natCast->Az,toNat_of_nonneg->BH,zero_add->ul
open Int.ofNat renaming inj->gN
open List renaming Nodup->VV,all_cons->qR,all_eq_true->E4,all_map->RN,all_toArray->lG,any_cons->JI,any_eq_false->gd,any_eq_true->Gs,any_toArray->M2,append_assoc->Bw,append_nil->Bh,concat_eq_append->Fn,drop_drop->VR,drop_eq_getElem_cons->DV,drop_of_length_le->NI,eq_nil_of_length_eq_zero->Sd,eq_nil_or_concat->Fm,ext_getElem?->Fy,extract->RM,filterMap_cons->Pi,filter_cons_of_neg->Xl,filter_cons_of_pos->Xk,filter_eq_nil_iff->ZO,filter_eq_self->dW,filter_sublist->Ph,find?_cons->Cc,find?_eq_none->KU,find?_isSome->gc,find?_some->lZ,flatMap_cons->RL,foldl_append->IC,foldl_nil->VQ,forIn_cons->Je,forIn_nil->Oi,getD_eq_getElem?_getD->EM,getElem?_append_left->Au,getElem?_append_right->Bd,getElem?_drop->KS,getElem?_eq_getElem->Ap,getElem?_eq_none->Bo,getElem?_eq_none_iff->Cr,getElem?_eq_some_iff->AG,getElem?_map->Ac,getElem?_range->Cu,getElem?_replicate->Du,getElem?_set->Dt,getElem?_set_ne->Aa,getElem?_set_self->At,getElem?_set_self'->Xj,getElem?_take_of_lt->Xa,getElem?_zipIdx->JP,getElem_of_mem->dU,length->JO,length_append->Ak,length_cons->Aj,length_drop->lF,length_filter_le->ES,length_map->AF,length_nil->FY,length_pos_iff->Pe,length_range->RK,length_replicate->OI,length_reverse->dS,length_set->Dw,length_singleton->BU,length_take->JF,lookup->JN,lookup_cons->BX,map->FX,mapM_cons->VP,mapM_nil->XZ,mapM_toArray->LN,map_append->Bv,map_congr_left->Ct,map_cons->As,map_id->Sb,map_id'->uV,map_map->BF,map_nil->NH,map_reverse->lE,mem_append->Av,mem_append_left->BL,mem_append_right->Ba,mem_cons->Ai,mem_cons_of_mem->AQ,mem_cons_self->AW,mem_filter->Bp,mem_filterMap->gM,mem_flatMap->R8,mem_iff_getElem->bY,mem_map->BV,mem_map_of_mem->Ji,mem_of_find?_eq_some->WE,mem_of_getElem?->Bt,mem_range->KR,mem_reverse->lD,mem_singleton->AU,mem_singleton_self->M1,mergeSort_perm->Pd,nil_append->lY,nodup_append->Fx,nodup_cons->Bu,nodup_nil->Gj,not_mem_nil->JE,of_mem_zip->Ue,pairwise_append->BK,pairwise_cons->KQ,pairwise_flatMap->Zl,pairwise_iff_getElem->WD,pairwise_lt_range->ZN,pairwise_map->Bl,pairwise_mergeSort->M0,pairwise_reverse->OH,pairwise_singleton->HK,perm_append_comm->OG,range->B1,range_succ->HJ,range_succ_eq_map->NG,replicate->Be,reverse_cons->gb,set_set->uU,singleton_append->Iv,size_toArray->Ax,sum_append->NS,sum_cons->Lm,take_add_one->Fv,take_append_drop->Iu,take_length->Mz,take_of_length_le->DO,take_sublist->gZ,take_zero->pr,zipIdx_cons->lC,zipIdx_nil->lX,zip_cons_cons->KP,zip_nil_left->gY,zip_nil_right->gK
open List.Pairwise renaming and->VU,nil->uk
open List.Perm renaming append_left->Ls,append_right->Um,of_eq->bZ
open List.Sublist renaming filter->xC,map->Xb
open Nat renaming add_le_add_left->CN,add_zero->uj,and_div_two->Ul,and_mod_two_pow->Pm,le_of_eq->Zj,le_of_lt->NR,le_of_not_lt->Sa,le_of_succ_le->Ro,le_refl->AO,le_succ->O0,le_trans->Aw,lt_irrefl->EE,lt_of_le_of_lt->Ay,lt_of_lt_of_le->AV,lt_of_not_le->lW,lt_succ_of_lt->Ll,lt_succ_self->Dc,lt_trans->ui,mod_two_eq_zero_or_one->Km,ne_of_gt->Eo,ne_of_lt->A0,not_lt->JH,not_lt_zero->OF,pow_le_pow_right->dR,pow_succ->Zi,strongRecOn->pq,sub_add_cancel->FR,sub_self->uh,succ_ne_self->lV,testBit->xB,testBit_and->Uk,testBit_lt_two_pow->Zh,testBit_or->WC,testBit_succ->Gw,testBit_two_pow->KJ,testBit_zero->Gv,two_pow_pos->pp,zero_add->NQ,zero_le->Dp,zero_testBit->lU
open Nat.succ renaming inj->Lk
open Ne renaming symm->CF
open Option renaming bind_eq_some_iff->WB,bind_some->AC,getD_some->RJ,isSome_iff_exists->Cb,isSome_map->Hw,isSome_some->bX,map->uT,map_eq_some_iff->Hv
open Option.some renaming inj->B2
open Or renaming inl->Ud,inr->RI
open PyProof.Rows renaming AllBare->KL,IntsAre->EU,IsTup->lb,Keyed->BQ,SortKind->QX,SortSt->BM,arrOf->AX,boot_all->xA,boot_int->w9,boot_isinstance->w8,boot_list->w6,boot_max->w5,boot_min->wz,boot_sorted->RG,boot_sum->wy,boot_tuple->wx,bubble->qP,callWith_builtin1->ww,callWith_type1->Dj,elem'_eq->lS,entry_list_sort->wl,envOfC->Ow,failedOf->KM,firstOfTuple'->NK,general'->ZZ,listItems_at->Ov,listUpdate_at->dO,ltAt'->uP,lt_int->wu,mirror->Lq,mirror_perm->XY,oneTypeOnly'_eq->wk,pairsOf->NF,pendingOf->AZ,reverseSlice'->R7,reverseSlice'_eq->OX,seqEpoch_at->lR,seqObj->II,sortedHeap->ZW,subscriptTail_builtinR->gR,tuples'->ZF,wpS_bind->Ae,wpS_forRange->Ds,wpS_get->JG,wpS_modify->D6,wpS_mono->Hy,wpS_pure->Af
open PyProof.Rows.IsTup renaming new->xD
open PyProof.Rows.SortSt renaming mk'->Ia
open PySem renaming Addr->AT,Around->Bs,BindsTo->ZS,DictEntry->RO,FuncData->KN,Heap->DA,IsEnum->WF,Keyword->ZP,Model->Zk,NameKind->QY,Paired->G9,PassesOwn->RH,Program->Bf,Scope->Uj,Shared->AK,Stmt->DQ,Value->AI,Within->Xi,World->CH,again->uQ,assign->Zd,assignEach->IJ,atKey->Zc,attributeBase->Gi,backTo->ER,backToKw->Zb,behindInMarks->Cq,binaryOp->DM,bindArgs->lT,bindC->gC,bindL->gB,bootBuiltins->Fs,builtinsNs->Za,cLine->EY,call->dP,call_meets->qO,callerA->Ui,cellsFrom->Ca,checkBuiltinCall->ud,codeAny->Ox,codeAny_mono->Uh,compareOp->CS,concat_meets->gW,eval->Cd,firstArgMember->QW,foldedSetIterable->Gq,getItem->ZH,getMethod->fy,holding->ZG,isTrue->qN,keywordEach->QV,letOwnedTupleGo->Pc,mainGlobals->BN,mem_of_lookup->Dx,model->Ag,newFunctionEnv->ZX,noFill_tuple_add->V6,noteFrame->fx,preSum->SW,pushCells->FP,pushCells_keeps->Xh,pyIter->gV,pyNext->V5,rawInt->FO,relabel->LJ,seqIndex_of->lQ,seq_tuple_add->dN,setField->lP,setItem->uO,sizeLine_eq->lO,standAt->uN,starEach->AY,storeName->uc,subscripted->XX,swapsWith->HI,sysModules->D7,tupleKind->V4,tupleKind_room_in1->Lp,valueAt->Ug,wpAny->Am,wpAny_Call_Name_kw->Ln,wpAny_Dict_empty->uZ,wpAny_Name->qM,wpAny_assign_Name->uM,wpAny_attempt->KI,wpAny_bind->AB,wpAny_call->ZV,wpAny_callSpecial?_slot->FM,wpAny_call_entry->Ec,wpAny_comprehension_free->dM,wpAny_dictEntries->Uf,wpAny_dictEpoch->Xg,wpAny_eqBool_int->uY,wpAny_execs_cons->uX,wpAny_execs_nil->Kk,wpAny_field->Fj,wpAny_fieldsOf->QU,wpAny_holding->IA,wpAny_isInstance->uW,wpAny_isOneOf_keyiter->Pj,wpAny_isTrue_Compare1->lA,wpAny_loadName_cell->pZ,wpAny_loadName_local->lN,wpAny_loadPart->ZU,wpAny_mono->Fq,wpAny_newList->dL,wpAny_newObj_type->E3,wpAny_of_eq->lM,wpAny_passesOwn->GU,wpAny_pure->AN,wpAny_pyIter_enum->NE,wpAny_pyIter_keyiter->lL,wpAny_pyIter_list->uL,wpAny_pyIter_revIter->lK,wpAny_pyIter_tuple->IH,wpAny_rule->ZT,wpAny_setField->G8,wpAny_truthy_bool->DC,wpAny_typeNameOfWhole_keyiter->Fi,wpAny_typeNameOf_keyiter->Hz,wpAny_typeOf->gP
open PySem.Around renaming under->Xf
open PySem.AutoSeq1 renaming wpAny_loadPart'->Gu
open PySem.Builtin renaming bitAnd->Bi,bitNot->gf,bitOr->Cw,bitXor->Et
open PySem.Builtin.Dict renaming dictSlotNone->xG,showsAll->Se
open PySem.Builtin.Dict_items renaming ownsTuple->NJ
open PySem.Builtin.Int renaming intBits->Di
open PySem.Builtin.List renaming listItems->KW,listTooLong->Jf
open PySem.Builtin.ObjectAttr renaming bindTo->lI
open PySem.Builtin.Range renaming rangeSize->ur
open PySem.Builtin.SmallTypes renaming nextOf->E7
open PySem.Builtin.Tuple renaming tupleCompareSizes->uq
open PySem.Calls renaming Name_function_global->Uo,callWith_builtin->Xm,call_function_entry->VW,evalArgs_plain->Zn
open PySem.Challenge renaming pw_guardround_k20_each_lasts_or_falls->qQ,rw_guardround_k20_each_lasts_or_falls->Hu
open PySem.Code renaming frames->uo,isFrame->ZR
open PySem.Data renaming cell->lH,fields->bf
open PySem.EntryCells renaming newEntry->WI
open PySem.F renaming args_dict_keyiterator_next_1->OZ,args_tuple_add_2->Kl,args_tuple_iterator_next_1->WH,args_tuple_lt_2->VO,entry_dict_keyiterator_next->Oh,entry_tuple_add->LL,entry_tuple_iterator_next->Xc,entry_tuple_lt->WA,excAttr_ValueError->SZ,plainAttrs_list->VN,slot_dict_iter->V9,slot_dict_keyiterator_next->C9,slot_enumerate_next->gO,slot_tuple_add->Lr,slot_tuple_iterator_next->Gx,slot_tuple_lt->M9
open PySem.Heap renaming ExtBut->bd,SameBut->FK,get?_none_of_le->bb,get?_push_of_some->AR,get?_push_size->Al,get?_update_ne->dY,get?_update_other->D5,get?_update_self->EV,lt_size->Ad,size_push->E5
open PySem.Heap.SameBut renaming refl->xF,update->IK
open PySem.NameKind renaming cell->DH,free->Gr
open PySem.Obj renaming cls_mapFields->Lj,data_mapFields->Cm,isFreed_of_fields->Fu,mapFields->Dh,mapSeq->Go
open PySem.Paired renaming length->FQ,snoc->ZM
open PySem.SeqAt.RcAt renaming tuples->ue
open PySem.Str renaming empty->ZI,ofString->NM
open PySem.Value renaming bool->M6,builtin->ph,bytes->uS,float->Zf,int->Ri,isInt->Ze,isStrOf->pd,none->Bn,ref->BB,str->Rh,type->Da
open PySem.W renaming Frag->AE,InstAt->gX,Looks->Ib,callWith_K->Oz,cellsFrom_some->V8,clsIn->Ej,codeIn->SY,emptyDict->DI,excIn->lB,findIn->Cg,findObj->gH,fnOf->JV,handedIn->dQ,hasDictIn->Pl,hideAll->Mx,hideAll_get->ZL,hideAll_none->NP,instObj->EZ,isFn->V7,kdu_collect->ZK,keepIn->Ft,kia_one->Ci,kitOne->CW,kitx_dict->bW,kitx_list->bV,lookIn->NO,looks_findIn->NN,looks_subIn->ZJ,makesIn->gF,methodObj->Pk,mg_none_of->D8,mg_of->ZY,mroIn->Og,nsOkIn->SX,of_hideAll->Oy,plainGet->LK,plainGet_of->OY,plainOver->bU,specialIn->bT,subIn->Of,tail_of_in->Zg,takerIn->Rn,takesIn->gD,typeIn->Jh
open PySem.W.Looks renaming here->ug,ld->uf
open PySem.W.WData renaming int->wo
open PySem.W.WShape renaming has->uR
open PySem.Within renaming cons->wt
open Sum renaming inl->DZ,inr->Rj
open True renaming intro->FJ
open PySem PySem.Spec PyProof.Rows
namespace L2
abbrev Key:=Sum Int Str
def Vn:Key->AI->Bool
 | .inl k,v=>Ze k v
 | .inr x,v=>pd x v
def keyH(w:CH):Key->Int
 | .inl k=>hashInt k
 | .inr x=>hashStr w x
def De:∀{k:Key} {v:AI},Vn k v=true->(∃i t,k=DZ i/\v=Ri i t)∨(∃x t,k=Rj x/\v=Rh x t)
 | .inl i,v,h=>by
  obtain⟨t,e⟩:=AI.isInt_shape (k:=i) (v:=v) h;exact .inl ⟨i,t,rfl,e⟩
 | .inr x,v,h=>by
  obtain⟨t,e⟩:=AI.isStrOf_shape (x:=x) (v:=v) h;exact .inr ⟨x,t,rfl,e⟩
def fA(i:Int)(t:Tok):Vn (.inl i) (.int i t)=true:=by simp[Vn,Ze]
def e8(x:Str)(t:Tok):Vn (.inr x) (.str x t)=true:=by simp[Vn,pd]
def sv(a b:Int):decide ((DZ a:Key)=DZ b)=(a==b):=by
 by_cases e:a=b
 ·subst e;simp
 ·have h:¬(DZ a:Key)=DZ b:=λq=>e (DZ.inj q)
  rw[wY h];exact(beq_eq_false_iff_ne.mpr e).symm
def sk(a b:Str):decide ((Rj a:Key)=Rj b)=decide (a=b):=by
 by_cases e:a=b
 ·subst e;simp
 ·have h:¬(Rj a:Key)=Rj b:=λq=>e (Rj.inj q)
  rw[wY h,wY e]
def ss(a:Int)(b:Str):decide ((DZ a:Key)=Rj b)=false:=wY (λq=>nomatch q)
def sr(a:Str)(b:Int):decide ((Rj a:Key)=DZ b)=false:=wY (λq=>nomatch q)
def Es(prog:Bf)(w:CH):PySem.KeyKind prog w Key where
 is:=Vn
 hash:=keyH w
 inj:=λv a b o hb=>by
  rcases De o with⟨i,t,rfl,rfl⟩ | ⟨x,t,rfl,rfl⟩
  ·rcases De hb with⟨j,u,rfl,e⟩ | ⟨y,u,rfl,e⟩
   ·injection e with l _;rw[l]
   ·exact nomatch e
  ·rcases De hb with⟨j,u,rfl,e⟩ | ⟨y,u,rfl,e⟩
   ·exact nomatch e
   ·injection e with l _;rw[l]
 byValue:=λk v h=>by
  rcases De h with⟨i,t,rfl,rfl⟩ | ⟨x,t,rfl,rfl⟩ <;> rfl
 pyHash:=λm h=>by
  rcases De m with⟨i,t,rfl,rfl⟩ | ⟨x,t,rfl,rfl⟩
  ·exact wpAny_pyHash_int h
  ·exact wpAny_pyHash_str h
 eqBool:=λs m h=>by
  rcases De s with⟨i,t,rfl,rfl⟩ | ⟨x,t,rfl,rfl⟩
  ·rcases De m with⟨j,u,rfl,rfl⟩ | ⟨y,u,rfl,rfl⟩
   ·rw[sv]at h;exact uY h
   ·rw[ss]at h;exact SeqAt.EqAt.int_str i t y u _ _ _ _ h
  ·rcases De m with⟨j,u,rfl,rfl⟩ | ⟨y,u,rfl,rfl⟩
   ·rw[sr]at h;exact SeqAt.EqAt.str_int x t j u _ _ _ _ h
   ·rw[sk]at h;exact wpAny_eqBool_str h
 «strs»:=λk x t v h=>by
  rcases De h with⟨i,u,rfl,e⟩ | ⟨y,u,rfl,e⟩
  ·exact nomatch e
  ·injection e with l _
   subst l
   cases v <;> rfl
def Yg(prog:Bf)(w:CH)(i:Int)(t:Tok):(Es prog w).is (.inl i) (.int i t)=true:=fA i t
def Yf(prog:Bf)(w:CH)(x:Str)(t:Tok):(Es prog w).is (.inr x) (.str x t)=true:=e8 x t
inductive V where
 | non | bl (b:Bool) | int (i:Int) | str (x:Str) | byt (b:Array UInt8) | flt (b:UInt64) | ref (a:AT) | ty (n:String)
 deriving DecidableEq
def RelV:V->AI->Prop
 | .non,u=>u=Bn
 | .bl b,u=>u=M6 b
 | .int i,u=>∃t,u=Ri i t
 | .str x,u=>∃t,u=Rh x t
 | .byt b,u=>∃t,u=uS b t
 | .flt b,u=>∃t,u=Zf b t
 | .ref a,u=>u=BB a
 | .ty n,u=>u=Da n
abbrev CQ:List V->List AI->Prop:=G9 RelV
def CQ.length(r:CQ xs us):xs.length=us.length:=FQ r
theorem CQ.get:∀{xs:List V} {us:List AI} {i:Nat} {x:V},CQ xs us->xs[i]?=some x->∃u,us[i]?=some u/\RelV x u
 | _,_,_,_,.nil,e=>by simp at e
 | _,_,0,_,.cons r _,e=>by simp at e;subst e;exact⟨_,rfl,r⟩
 | _,_,i+1,x,.cons _ t,e=>by
  obtain⟨u,l,m⟩:=CQ.get (i:=i) (x:=x) t (by simpa using e);exact⟨u,by simpa using l,m⟩
theorem CQ.set(r:RelV x u):∀{xs:List V} {us:List AI} (i:Nat),CQ xs us->CQ (xs.set i x) (us.set i u)
 | _,_,_,.nil=>.nil
 | _,_,0,.cons _ t=>.cons r t
 | _,_,i+1,.cons q t=>.cons q (CQ.set r i t)
theorem CQ.append:∀{xs l:List V} {us m:List AI},CQ xs us->CQ l m->CQ (xs++l) (us++m)
 | _,_,_,_,.nil,s=>s
 | _,_,_,_,.cons r t,s=>.cons r (CQ.append t s)
def Oe:Option V->Option AI->Prop
 | some v,some u=>RelV v u
 | none,none=>True
 | _,_=>False
def KV{l:Type}:List (l×V)->List (l×AI)->Prop:=G9 λ(p:l×V) (q:l×AI)=>p.1=q.1/\RelV p.2 q.2
def kV:Key->V
 | .inl i=>.int i
 | .inr x=>.str x
inductive HO where
 | lst (xs:List V)
 | tup (xs:List V)
 | dK (i':List (Key×V)) | dT (i':List (List Key×V))
 | set (S:Int->Bool) (n:Nat)
 | ins (C dx:AT) (fs:List (Str×V))
 | own (x:AT)
 | xd (fs:List (Str×V))
 | met (f x:AT)
 | rng (lo hi:Int)
 | frz (o:Obj) (u:HO)
 | tbl (ps:Array AI)
 | ext (φ:DA->Prop)
abbrev Hp:=AT->Option HO
def upd(H:Hp)(a:AT)(o:HO):Hp:=λb=>if b=a then some o else H b
def CG:upd H a o a=some o:=by unfold upd;rw[qX rfl]
def Bb(h:b≠a):upd H a o b=H b:=by unfold upd;rw[qY h]
def vk{H:Hp}{a b:AT}{o u:HO}(h:H a=some o)(h':H b=some u)(d:o≠u):a≠b:=by
 intro e;subst e;rw[h]at h';exact d (B2 h')
def CD{H:Hp}{a b:AT}{o:HO}(h:H a=some o)(h':H b=none):a≠b:=by
 intro e;subst e;rw[h]at h';cases h'
section
variable(P:Bf)(w:CH)
def Ck(H:Hp)(h:DA)(a:AT):HO->Prop
 | .lst l=>l.length<=sizeLine/\∃(s:List AI) (n:Nat),CQ l s/\h.get? a=some { cls:=.type "list",data:=.seq s.toArray n }
 | .tup l=>(l.length<=sizeLine/\∃o,h.get? a=some o/\o.dict=none)/\∃s:List AI,CQ l s/\lb h a s.toArray
 | .dK A=>A.length<=sizeLine/\(a==D7)=false/\∃G,KV A G/\h.DictOf (Es P w) a G
 | .dT A=>A.length<=sizeLine/\(a==D7)=false/\∃l:List (List Key×AT×AI),
   G9 (λ(p:List Key×V) (q:List Key×AT×AI)=>p.1=q.1/\H q.2.1=some (.tup (p.1.map kV))/\RelV p.2 q.2.2) A l /\
   ∃o I N,h.get? a=some o/\o.ExactDict/\o.data=.dict I N/\I.toList=l.map (entryOfKey (V4 (Es P w)))/\(l.map (·.1)).Nodup
 | .set S n=>h.SetOf (intKind P w) a S n
 | .ins C B fs=>H B=some (.own a)/\fs.length<=1000/\B≠a/\h.get? a=some (EZ C B) /\
   ∃m,h.Ns1 B m/\(∀f,Oe (fs.lookup f) (m f))/\Xi m (fs.map (·.1))
 | .own _=>∃o,h.get? a=some o
 | .xd fs=>∃m,h.Ns1 a m/\∀f,Oe (fs.lookup f) (m f)
 | .rng lo O=>∃t u v,h.get? a=some { cls:=.type "range",data:=.fields #[.int lo t,.int O u,.int 1 v] }
 | .frz o u=>h.get? a=some o/\Ck H h a u
 | .tbl Q=>h.get? a=some { cls:=.none,data:=.fields Q }
 | .met f x=>h.get? a=some (Pk (.ref f) (.ref x))
 | .ext E=>E h/\(∃o,h.get? a=some o)/\∀J L:DA,E J->(∀o,J.get? a=some o->L.get? a=some o)->E L
def HOk(H:Hp)(h:DA):Prop:=∀a o,H a=some o->Ck P w H h a o
end
section
variable{P:Bf}{w:CH}{H H':Hp}{h h':DA}{a:AT}{o:HO}
theorem Ck.lt(x:Ck P w H h a o):a < h.objs.size:=by
 cases o with
 | lst l=>obtain⟨_,_,_,_,e⟩:=x;exact Ad e
 | tup l=>obtain⟨_,_,_,p⟩:=x;exact p.lt
 | dK m=>obtain⟨_,_,_,_,o,_,_,e,_⟩:=x;exact Ad e
 | dT m=>obtain⟨_,_,_,_,o,_,_,e,_⟩:=x;exact Ad e
 | set S n=>obtain⟨o,_,_,_,e,_⟩:=x;exact Ad e
 | ins C s fs=>obtain⟨_,_,_,e,_⟩:=x;exact Ad e
 | own y=>obtain⟨_,e⟩:=x;exact Ad e
 | xd fs=>obtain⟨_,⟨_,_,_,e,_⟩,_⟩:=x;exact Ad e
 | rng lo A=>obtain⟨_,_,_,e⟩:=x;exact Ad e
 | frz B u=>obtain⟨e,_⟩:=x;exact Ad e
 | tbl E=>exact Ad (show h.get? a=some _ from x)
 | met f y=>exact Ad (show h.get? a=some _ from x)
 | ext G=>obtain⟨_,⟨_,e⟩,_⟩:=x;exact Ad e
theorem G9.mapP{s A:Type}{F G:s->A->Prop}:∀{l:List s} {m:List A},G9 F l m->(∀a b,F a b->G a b)->G9 G l m
 | _,_,.nil,_=>.nil
 | _,_,.cons r t,f=>.cons (f _ _ r) (G9.mapP t f)
def Ck.stay(x:Ck P w H h a o)(k:∀b u,(b=a∨H b=some (.own a))->h.get? b=some u->h'.get? b=some u)
  (ho:∀b,H b=some (.own a)->H' b=some (.own a)) (J:∀b xs,H b=some (.tup xs)->H' b=some (.tup xs)):Ck P w H' h' a o:=by
 induction o with
 | lst xs=>obtain⟨z,A,n,r,e⟩:=x;exact⟨z,A,n,r,k _ _ (.inl rfl) e⟩
 | tup xs=>obtain⟨⟨z,L,B,N⟩,A,r,l,e,c⟩:=x;exact⟨⟨z,L,k _ _ (.inl rfl) B,N⟩,A,r,l,k _ _ (.inl rfl) e,c⟩
 | dK O=>obtain⟨z,y,Q,r,l,m,s,e,c⟩:=x;exact⟨z,y,Q,r,l,m,s,k _ _ (.inl rfl) e,c⟩
 | dT O=>
  obtain⟨z,y,xs,r,l,m,s,e,c⟩:=x;exact⟨z,y,xs,G9.mapP r λp q z=>⟨z.1,J _ _ z.2.1,z.2.2⟩,l,m,s,k _ _ (.inl rfl) e,c⟩
 | set S n=>obtain⟨l,m,s,t,e,c⟩:=x;exact⟨l,m,s,t,k _ _ (.inl rfl) e,c⟩
 | ins C U fs=>
  obtain⟨d,z,R,e,E,⟨G,m,s,B,c⟩,r⟩:=x;exact⟨ho _ d,z,R,k _ _ (.inl rfl) e,E,⟨G,m,s,k _ _ (.inr d) B,c⟩,r⟩
 | own y=>obtain⟨l,e⟩:=x;exact⟨l,k _ _ (.inl rfl) e⟩
 | xd fs=>obtain⟨E,⟨G,m,s,e,c⟩,r⟩:=x;exact⟨E,⟨G,m,s,k _ _ (.inl rfl) e,c⟩,r⟩
 | rng lo X=>obtain⟨t,u,v,e⟩:=x;exact⟨t,u,v,k _ _ (.inl rfl) e⟩
 | frz l u T=>obtain⟨e,q⟩:=x;exact⟨k _ _ (.inl rfl) e,T q⟩
 | tbl I=>
  have e:h.get? a=some { cls:=.none,data:=.fields I }:=x;show h'.get? a=some { cls:=.none,data:=.fields I };exact k a _ (.inl rfl) e
 | met f y=>
  have e:h.get? a=some (Pk (.ref f) (.ref y)):=x;show h'.get? a=some (Pk (.ref f) (.ref y));exact k a _ (.inl rfl) e
 | ext Y=>obtain⟨p,⟨o,e⟩,st⟩:=x;exact⟨st _ _ p λo q=>k _ _ (.inl rfl) q,⟨o,k _ _ (.inl rfl) e⟩,st⟩
def HOk.lt(x:HOk P w H h)(e:H a=some o):a < h.objs.size:=(x a o e).lt
def HOk.fresh(x:HOk P w H h)(e:h.objs.size<=a):H a=none:=by
 cases q:H a with
 | none=>rfl
 | some u=>exact zX (AV (x.lt q) e) (EE _)
def HOk.kept(x:HOk P w H h)(k:∀b u,h.get? b=some u->h'.get? b=some u):HOk P w H h':=λa o e=>
 (x a o e).stay (λb u _ q=>k b u q) (λ_ q=>q) λ_ _ q=>q
def HOk.laid(x:HOk P w H h)(k:∀b u,h.get? b=some u->h'.get? b=some u)(m:h.objs.size<=a)(new:Ck P w (upd H a o) h' a o):HOk P w (upd H a o) h':=λb u e=>by
 have l:=x.fresh m
 by_cases hb:b=a
 ·subst hb;rw[CG]at e;cases e;exact new
 ·rw[Bb hb]at e
  exact(x b u e).stay (λc v _ q=>k c v q) (λc q=>by rw[Bb (CD q l)];exact q) λc s q=>by rw[Bb (CD q l)];exact q
end
def Rd(H:Hp)(a:AT)(u:HO):Prop:=H a=some u∨∃o,H a=some (.frz o u)
def Rd.ok(r:Rd H a u)(x:HOk P w H h):Ck P w H h a u:=by
 rcases r with r | ⟨o,r⟩
 ·exact x a u r
 ·obtain⟨_,q⟩:=x a _ r
  exact q
def Mut:Option HO->Prop
 | some (.lst _)=>True
 | some (.dK _)=>True
 | some (.dT _)=>True
 | some (.set _ _)=>True
 | some (.ins _ _ _)=>True
 | some (.ext _)=>True
 | _=>False
section
variable{P:Bf}{w:CH}{H:Hp}{h h':DA}{x e:AT}
def HOk.write(ok:HOk P w H h)(s:Mut (H x))(C:e=x∨H e=some (.own x))(k:∀b u,b≠e->h.get? b=some u->h'.get? b=some u)(Ϩ:∃u,h'.get? e=some u)
  (new:Ck P w (upd H x o') h' x o'):HOk P w (upd H x o') h':=λb u q=>by
 have m:∀c y,H c=some (.own y)->c≠x:=λc y r z=>by subst z;rw[r]at s;exact s
 have o:∀c A,H c=some (.tup A)->c≠x:=λc A r z=>by subst z;rw[r]at s;exact s
 by_cases hb:b=x
 ·subst hb;rw[CG]at q;cases q;exact new
 ·rw[Bb hb]at q
  by_cases l:b=e
  ·have E:H b=some (.own x):=by
    rcases C with z | z
    ·exact zX (l.trans z) hb
    ·rw[l];exact z
   rw[q]at E;cases E;obtain⟨v,G⟩:=Ϩ;exact⟨v,by rw[l];exact G⟩
  ·refine(ok b u q).stay (λc v B r=>k c v ?_ r) (λc r=>by rw[Bb (m c b r)];exact r) λc A r=>by rw[Bb (o c A r)];exact r
   rcases B with rfl | B
   ·exact l
   ·rintro rfl
    rcases C with z | z
    ·exact m c b B z
    ·rw[B]at z;cases z;exact hb rfl
end
structure Un(fs ex:List AT)(H H':Hp)(h h':DA):Prop where
 keep:∀b o,h.get? b=some o->H b=none->b∉fs->b∉ex->h'.get? b=some o
 slot:∀b o,h.get? b=some o->H b=none->b∈fs->b∉ex->∃sl,h'.get? b=some { o with slots:=sl }
 free:∀b o,h.get? b=some o->H b=none->b∉ex->H' b=none
 there:∀b o,h.get? b=some o->b∉ex->∃o',h'.get? b=some o'
 tups:∀b xs,H b=some (.tup xs)->H' b=some (.tup xs)
 frzs:∀b o u,H b=some (.frz o u)->H' b=some (.frz o u)
 tbls:∀b ps,H b=some (.tbl ps)->∃more,H' b=some (.tbl (ps++more))
section
variable{fs ex:List AT}{H H1:Hp}{h h1 h':DA}{a x e:AT}{o:HO}
def Un.any(u:Un fs ex H H1 h h1)(q:h.get? b=some l)(n:H b=none)(m:b∉ex):∃sl,h1.get? b=some { l with slots:=sl }:=by
 by_cases hb:b∈fs
 ·exact u.slot b l q n hb m
 ·exact⟨l.slots,u.keep b l q n hb m⟩
def Un.kept(k:∀b u,h.get? b=some u->h'.get? b=some u):Un fs ex H H h h':=
 ⟨λb l q _ _ _=>k b l q,λb l q _ _ _=>⟨l.slots,k b l q⟩,λ_ _ _ n _=>n,λb l q _=>⟨l,k b l q⟩,λ_ _ q=>q,λ_ _ _ q=>q,λ_ m q=>⟨#[],by rw[q];simp⟩⟩
def Un.refl:Un fs ex H H h h:=Un.kept λ_ _ q=>q
def Un.laid(k:∀b u,h.get? b=some u->h'.get? b=some u)(m:h.objs.size<=a)(l:H a=none):Un fs ex H (upd H a o) h h' where
 keep:=λb u q _ _ _=>k b u q
 slot:=λb u q _ _ _=>⟨u.slots,k b u q⟩
 free:=λb u q n _=>by rw[Bb (A0 (AV (Ad q) m))];exact n
 there:=λb u q _=>⟨u,k b u q⟩
 tups:=λb s q=>by rw[Bb (CD q l)];exact q
 frzs:=λb u s q=>by rw[Bb (CD q l)];exact q
 tbls:=λb A q=>⟨#[],by rw[Bb (CD q l),q];simp⟩
def Un.write(m:Mut (H x))(B:e=x∨H e=some (.own x))(k:∀b u,b≠e->h.get? b=some u->h'.get? b=some u)(Ϩ:∃u,h'.get? e=some u):Un fs ex H (upd H x o) h h':=by
 have A:∀b,H b=none->b≠x:=λb n z=>by subst z;rw[n]at m;exact m
 have hb:∀b,H b=none->b≠e:=λb n z=>by
  subst z
  rcases B with r | r
  ·exact A b n r
  ·rw[n]at r;cases r
 have s:∀b u,H b=some u->¬Mut (some u)->b≠x:=λb u q C z=>by subst z;rw[q]at m;exact C m
 refine⟨λb u q n _ _=>k b u (hb b n) q,λb u q n _ _=>⟨u.slots,k b u (hb b n) q⟩,λb u q n _=>by rw[Bb (A b n)];exact n,λb u q _=>?_,
  λb E q=>by rw[Bb (s b _ q λz=>z)];exact q,λb u E q=>by rw[Bb (s b _ q λz=>z)];exact q,λb G q=>⟨#[],by rw[Bb (s b _ q λz=>z),q];simp⟩⟩
 by_cases l:b=e
 ·subst l;exact Ϩ
 ·exact⟨u,k b u l q⟩
end
def trk(h:DA)(H:Hp):List AT:=(B1 h.objs.size).filter λa=>(H a).isSome
def W1(h:DA)(H:Hp):DA:=Mx h (trk h H)
def fF(h:DA)(H:Hp):(W1 h H).objs.size=h.objs.size:=PySem.W.hideAll_size _ _
def jq(e:h.get? b=some o)(n:H b=none):(W1 h H).get? b=some o:=
 ZL _ e λl=>by
  have q:(H b).isSome=true:=(Bp.mp l).2;rw[n]at q;simp at q
def oF(e:(W1 h H).get? b=some o):h.get? b=some o/\H b=none:=by
 have l:h.get? b=some o:=Oy (trk h H) e;refine⟨l,?_⟩
 cases q:H b with
 | none=>rfl
 | some x=>
  have m:b∈trk h H:=Bp.mpr ⟨KR.mpr (Ad l),by simp[q]⟩;have z:(W1 h H).get? b=none:=NP (trk h H) m;rw[z]at e;cases e
structure Mod(K:AE)(mg:Str->Option AI)(base:DA):Prop where
 kin:K.In base
 glob:base.Ns BN mg
 blt:∃mb,base.Ns Za mb/\∀x:Str,x≠"__name__"->mb x=Fs x
 nolimit:base.NoLimit
structure Cx where
 prog:Bf
 w:CH
 K:AE
 mg:Str->Option AI
 base:DA
 A:Bs
 N:List Str
 s₀:AK
 H₀:Hp
 env:Env
 outer:List Env
 stack:List Env
 ex:List AT
 fn:Str->Bool
 calm:Bool
 pn:List (AT×Obj)
 xe:AI->AK->Prop
def frs(l:List Env):List AT:=l.filterMap (·.frame)
abbrev Cx.fs(X:Cx):List AT:=frs X.outer
def Vis(l:Uj)(x:Str):Prop:=l.names.lookup x=some .local∨l.names.lookup x=some .cell∨l.names.lookup x=some .free
def Loc(l:Uj)(x:Str):Prop:=l.names.lookup x=some .local∨l.names.lookup x=some .cell
def Look(env:Env)(h:DA)(m:Str->Option AI)(x:Str)(u:AI):Prop:=
 (env.kindOf x=some .local/\m x=some u)∨((env.kindOf x=some .cell∨env.kindOf x=some .free)/\∃c,env.cells.lookup x=some c/\h.IsCell c (some u))
structure Cx.Ok(X:Cx):Prop where
 mod:Mod X.K X.mg X.base
 kind:X.env.scope.kind=.function
 glob:X.env.globals=BN
 blt:X.env.builtins=Za
 above:X.s₀.heap.objs.size<=X.env.locals
 inj:∀x y c,X.env.cells.lookup x=some c->X.env.cells.lookup y=some c->x=y
 has:∀x,(X.env.kindOf x=some .cell∨X.env.kindOf x=some .free)->∃c,X.env.cells.lookup x=some c
 cab:∀x c,X.fn x=true->X.env.cells.lookup x=some c->X.s₀.heap.objs.size<=c
 hd:X.calm=true->X.A.handled=none
 frames:X.A.frames=some X.stack
 stk:X.stack=X.outer∨(X.stack=X.env :: X.outer/\X.env.frame=some X.env.locals)
 exf:∀b∈X.ex,b≠X.env.locals/\∀x c,X.env.cells.lookup x=some c->c≠b
 bs:∀b o,X.base.get? b=some o->X.s₀.heap.get? b=some o/\X.H₀ b=none
 bsz:X.base.objs.size<=X.s₀.heap.objs.size
 noex:∀b o,X.base.get? b=some o->b∉X.ex
 exfs:∀b∈X.ex,b∉X.fs
 funs:X.s₀.heap.FunFrames X.base X.outer
 frf:∀b∈X.fs,X.H₀ b=none
structure Inv(X:Cx)(ζ:List (AT×Obj))(σ:List (Option V))(H:Hp)(s:AK):Prop where
 ok:X.Ok
 os:s.os=X.s₀.os
 bare:KL s.gens
 base:Un X.fs X.ex X.H₀ H X.s₀.heap s.heap
 loc:∃m,s.heap.Ns X.env.locals m/\∀(i:Nat) (x:Str) (v:V),X.N[i]?=some x->σ[i]?=some (some v)->Vis X.env.scope x->∃u,RelV v u/\Look X.env s.heap m x u
 cell:∀x c,X.env.cells.lookup x=some c->∃v,s.heap.IsCell c v
 free:H X.env.locals=none
 freeC:∀x c,X.env.cells.lookup x=some c->H c=none
 pin:∀p∈X.pn++ζ,s.heap.get? p.1=some p.2/\H p.1=none/\p.1≠X.env.locals/\p.1∉X.fs/\∀v,p.2.data≠.cell v
 hok:HOk X.prog X.w H s.heap
 len:σ.length=X.N.length
section
variable{X:Cx}{ζ:List (AT×Obj)}{σ:List (Option V)}{H H':Hp}{s:AK}{h':DA}
def Cx.Ok.nofr(ok:X.Ok)(e:X.base.get? b=some o):b∉X.fs:=λhb=>by
 have:=(ok.funs.mem hb).1;rw[e]at this;cases this
def Inv.bs(I:Inv X ζ σ H s):∀b o,X.base.get? b=some o->s.heap.get? b=some o/\H b=none:=λb o e=>
 ⟨I.base.keep b o (I.ok.bs b o e).1 (I.ok.bs b o e).2 (I.ok.nofr e) (I.ok.noex b o e),I.base.free b o (I.ok.bs b o e).1 (I.ok.bs b o e).2 (I.ok.noex b o e)⟩
def Inv.bk(I:Inv X ζ σ H s):∀b o,X.base.get? b=some o->s.heap.get? b=some o:=λb o e=>(I.bs b o e).1
def Inv.mod(I:Inv X ζ σ H s):Mod X.K X.mg X.base:=I.ok.mod
def Inv.kIn(I:Inv X ζ σ H s):X.K.In s.heap:=I.ok.mod.kin.keeps I.bk
def Inv.lt(I:Inv X ζ σ H s):X.env.locals < s.heap.objs.size:=let ⟨_,l,_⟩:=I.loc;l.lt
def Inv.sz(I:Inv X ζ σ H s):X.s₀.heap.objs.size<=s.heap.objs.size:=Aw I.ok.above (NR I.lt)
def Inv.nofs(I:Inv X ζ σ H s)(h:s.heap.objs.size<=a):a∉X.fs:=λhb=>by
 obtain⟨_,o,l,_⟩:=I.ok.funs.mem hb;exact zX (AV (Ad l) (Aw I.sz h)) (EE _)
def Inv.cne(I:Inv X ζ σ H s):∀x c,X.env.cells.lookup x=some c->c≠X.env.locals:=λx c e z=>by
 obtain⟨v,o,l,A⟩:=I.cell x c e;obtain⟨m,⟨E,G,J,B,C,_⟩,_⟩:=I.loc;rw[z,B]at l;cases l;rw[C]at A;cases A
theorem Inv.funs(I:Inv X ζ σ H s):s.heap.FunFrames X.base X.outer:=by
 have all:∀(l:List Env),(∀b∈frs l,b∈X.fs)->X.s₀.heap.FunFrames X.base l->s.heap.FunFrames X.base l:=by
  intro l
  induction l with
  | nil=>intro _ _;trivial
  | cons C r E=>
   intro B G;obtain⟨J,⟨L,o,m,N,O,P⟩,Q⟩:=G;have A:L∈X.fs:=B L (by unfold frs;rw[Pi,m];exact AW)
   obtain⟨sl,e⟩:=I.base.slot L o O (I.ok.frf L A) A λz=>I.ok.exfs L z A
   exact⟨J,⟨L,_,m,N,e,P⟩,E (λb hb=>B b (by unfold frs;rw[Pi,m];exact AQ _ hb)) Q⟩
 exact all X.outer (λ_ hb=>hb) I.ok.funs
theorem Inv.stack(I:Inv X ζ σ H s):s.heap.FunFrames X.base X.stack:=by
 rcases I.ok.stk with e | ⟨e,l⟩
 ·rw[e];exact I.funs
 ·rw[e]
  obtain⟨m,o,_⟩:=I.loc;refine .cons (by rw[I.ok.kind];decide) l o ?_ I.funs;exact bb (Aw I.ok.bsz I.ok.above)
def Inv.stkSub(I:Inv X ζ σ H s):∀b∈frs X.stack,b∈X.env.locals :: X.fs:=λb hb=>by
 rcases I.ok.stk with e | ⟨e,l⟩
 ·rw[e]at hb;exact AQ _ hb
 ·rw[e]at hb
  unfold frs at hb;rw[Pi,l]at hb;exact hb
def Inv.stkFree(I:Inv X ζ σ H s):∀b∈frs X.stack,H b=none:=λb hb=>by
 rcases Ai.mp (I.stkSub b hb)with e | hb
 ·rw[e];exact I.free
 ·obtain⟨_,o,l,_⟩:=I.ok.funs.mem hb
  exact I.base.free b o l (I.ok.frf b hb) λz=>I.ok.exfs b z hb
def Inv.step{g':Array GenState}{t':Nat}{d':Drawn}{ch:List AT}(I:Inv X ζ σ H s)
  (J:∀b∈ch,(b∈X.ex∨X.s₀.heap.objs.size<=b)/\b≠X.env.locals/\(∀x c,X.env.cells.lookup x=some c->c≠b)/\∀p∈X.pn++ζ,p.1≠b)
  (keep:∀b o,b≠X.env.locals->b∉X.fs->b∉ch->s.heap.get? b=some o->H b=none->h'.get? b=some o)
  (E:∀b o,b≠X.env.locals->b∈X.fs->b∉ch->s.heap.get? b=some o->H b=none->∃sl,h'.get? b=some { o with slots:=sl }) (free:∀b o,b∉ch->s.heap.get? b=some o->H b=none->H' b=none)
  (there:∀b o,b∉ch->s.heap.get? b=some o->∃o',h'.get? b=some o')
  (L:∀b xs,H b=some (.tup xs)->H' b=some (.tup xs)) (N:∀b o u,H b=some (.frz o u)->H' b=some (.frz o u)) (O:∀b ps,H b=some (.tbl ps)->∃more,H' b=some (.tbl (ps++more)))
  (ns:∀m,s.heap.Ns X.env.locals m->h'.Ns X.env.locals m) (S:HOk X.prog X.w H' h') (hg:KL g') :
  Inv X ζ σ H' { s with heap:=h',gens:=g',drawn:=d',toks:=t' }:=by
 have Y:∀b o,X.s₀.heap.get? b=some o->b≠X.env.locals:=λb o e=>A0 (AV (Ad e) I.ok.above)
 have R:∀b o,X.s₀.heap.get? b=some o->b∉X.ex->b∉ch:=λb o e A hb=>by
  rcases(J b hb).1 with z | z
  ·exact A z
  ·exact zX (AV (Ad e) z) (EE _)
 have B:∀x c,X.env.cells.lookup x=some c->∀v,s.heap.IsCell c v->h'.IsCell c v:=by
  rintro x c e v ⟨o,G,T⟩
  have P:c∉ch:=λz=>(J c z).2.2.1 x c e rfl
  by_cases Z:c∈X.fs
  ·obtain⟨sl,q⟩:=E c o (I.cne x c e) Z P G (I.freeC x c e)
   exact⟨_,q,T⟩
  ·exact⟨o,keep c o (I.cne x c e) Z P G (I.freeC x c e),T⟩
 refine⟨I.ok,I.os,hg,⟨λb o e n hb A=>?_,λb o e n hb A=>?_,λb o e n A=>?_,λb o e A=>?_,λb xs e=>L b xs (I.base.tups b xs e),λb o xs e=>N b o xs (I.base.frzs b o xs e),λb ps e=>?_⟩,?_,λx c e=>?_,?_,λx c e=>?_,λp hp=>?_,S,I.len⟩
 ·exact keep b o (Y b o e) hb (R b o e A) (I.base.keep b o e n hb A) (I.base.free b o e n A)
 ·obtain⟨sl,C⟩:=I.base.slot b o e n hb A
  obtain⟨U,Q⟩:=E b _ (Y b o e) hb (R b o e A) C (I.base.free b o e n A);exact⟨U,Q⟩
 ·obtain⟨o',C⟩:=I.base.there b o e A
  exact free b o' (R b o e A) C (I.base.free b o e n A)
 ·obtain⟨o',C⟩:=I.base.there b o e A
  exact there b o' (R b o e A) C
 ·obtain⟨m1,C⟩:=I.base.tbls b ps e
  obtain⟨m2,Q⟩:=O b _ C;exact⟨m1++m2,by rw[Q,dZ]⟩
 ·obtain⟨m,hn,hl⟩:=I.loc
  refine⟨m,ns m hn,λi x v C Q e3=>?_⟩;obtain⟨u,r,l⟩:=hl i x v C Q e3;refine⟨u,r,?_⟩
  rcases l with l | ⟨k,c,e,z⟩
  ·exact .inl l
  ·exact .inr ⟨k,c,e,B x c e _ z⟩
 ·obtain⟨v,z⟩:=I.cell x c e
  exact⟨v,B x c e v z⟩
 ·obtain⟨m,⟨o,_,_,G,_⟩,_⟩:=I.loc
  exact free _ o (λz=>(J _ z).2.1 rfl) G I.free
 ·obtain⟨v,o,G,T⟩:=I.cell x c e
  exact free c o (λz=>(J c z).2.2.1 x c e rfl) G (I.freeC x c e)
 ·obtain⟨e,n,ne,nf,d⟩:=I.pin p hp
  have P:p.1∉ch:=λz=>(J p.1 z).2.2.2 p hp rfl
  exact⟨keep p.1 p.2 ne nf P e n,free p.1 p.2 P e n,ne,nf,d⟩
def Inv.stepN{g':Array GenState}{t':Nat}{d':Drawn}{ch:List AT}(I:Inv X ζ σ H s)
  (J:∀b∈ch,(b∈X.ex∨X.s₀.heap.get? b=none)/\b≠X.env.locals/\(∀x c,X.env.cells.lookup x=some c->c≠b)/\∀p∈X.pn++ζ,p.1≠b)
  (keep:∀b o,b≠X.env.locals->b∉X.fs->b∉ch->s.heap.get? b=some o->H b=none->h'.get? b=some o)
  (E:∀b o,b≠X.env.locals->b∈X.fs->b∉ch->s.heap.get? b=some o->H b=none->∃sl,h'.get? b=some { o with slots:=sl }) (free:∀b o,b∉ch->s.heap.get? b=some o->H b=none->H' b=none)
  (there:∀b o,b∉ch->s.heap.get? b=some o->∃o',h'.get? b=some o')
  (L:∀b xs,H b=some (.tup xs)->H' b=some (.tup xs)) (N:∀b o u,H b=some (.frz o u)->H' b=some (.frz o u)) (O:∀b ps,H b=some (.tbl ps)->∃more,H' b=some (.tbl (ps++more)))
  (ns:∀m,s.heap.Ns X.env.locals m->h'.Ns X.env.locals m) (S:HOk X.prog X.w H' h') (hg:KL g') :
  Inv X ζ σ H' { s with heap:=h',gens:=g',drawn:=d',toks:=t' }:=by
 have Y:∀b o,X.s₀.heap.get? b=some o->b≠X.env.locals:=λb o e=>A0 (AV (Ad e) I.ok.above)
 have R:∀b o,X.s₀.heap.get? b=some o->b∉X.ex->b∉ch:=λb o e A hb=>by
  rcases(J b hb).1 with z | z
  ·exact A z
  ·rw[z]at e;cases e
 have B:∀x c,X.env.cells.lookup x=some c->∀v,s.heap.IsCell c v->h'.IsCell c v:=by
  rintro x c e v ⟨o,G,T⟩
  have P:c∉ch:=λz=>(J c z).2.2.1 x c e rfl
  by_cases Z:c∈X.fs
  ·obtain⟨sl,q⟩:=E c o (I.cne x c e) Z P G (I.freeC x c e)
   exact⟨_,q,T⟩
  ·exact⟨o,keep c o (I.cne x c e) Z P G (I.freeC x c e),T⟩
 refine⟨I.ok,I.os,hg,⟨λb o e n hb A=>?_,λb o e n hb A=>?_,λb o e n A=>?_,λb o e A=>?_,λb xs e=>L b xs (I.base.tups b xs e),λb o xs e=>N b o xs (I.base.frzs b o xs e),λb ps e=>?_⟩,?_,λx c e=>?_,?_,λx c e=>?_,λp hp=>?_,S,I.len⟩
 ·exact keep b o (Y b o e) hb (R b o e A) (I.base.keep b o e n hb A) (I.base.free b o e n A)
 ·obtain⟨sl,C⟩:=I.base.slot b o e n hb A
  obtain⟨U,Q⟩:=E b _ (Y b o e) hb (R b o e A) C (I.base.free b o e n A);exact⟨U,Q⟩
 ·obtain⟨o',C⟩:=I.base.there b o e A
  exact free b o' (R b o e A) C (I.base.free b o e n A)
 ·obtain⟨o',C⟩:=I.base.there b o e A
  exact there b o' (R b o e A) C
 ·obtain⟨m1,C⟩:=I.base.tbls b ps e
  obtain⟨m2,Q⟩:=O b _ C;exact⟨m1++m2,by rw[Q,dZ]⟩
 ·obtain⟨m,hn,hl⟩:=I.loc
  refine⟨m,ns m hn,λi x v C Q e3=>?_⟩;obtain⟨u,r,l⟩:=hl i x v C Q e3;refine⟨u,r,?_⟩
  rcases l with l | ⟨k,c,e,z⟩
  ·exact .inl l
  ·exact .inr ⟨k,c,e,B x c e _ z⟩
 ·obtain⟨v,z⟩:=I.cell x c e
  exact⟨v,B x c e v z⟩
 ·obtain⟨m,⟨o,_,_,G,_⟩,_⟩:=I.loc
  exact free _ o (λz=>(J _ z).2.1 rfl) G I.free
 ·obtain⟨v,o,G,T⟩:=I.cell x c e
  exact free c o (λz=>(J c z).2.2.1 x c e rfl) G (I.freeC x c e)
 ·obtain⟨e,n,ne,nf,d⟩:=I.pin p hp
  have P:p.1∉ch:=λz=>(J p.1 z).2.2.2 p hp rfl
  exact⟨keep p.1 p.2 ne nf P e n,free p.1 p.2 P e n,ne,nf,d⟩
def Inv.un{t':Nat}(I:Inv X ζ σ H s)(u:Un X.fs [] H H' s.heap h')(l:HOk X.prog X.w H' h'):Inv X ζ σ H' { s with heap:=h',toks:=t' }:=by
 obtain⟨m,⟨o,N,O,C,r⟩,_⟩:=id I.loc;obtain⟨sl,G⟩:=u.any C I.free (by simp)
 exact I.step (g':=s.gens) (d':=s.drawn) (ch:=[]) (λ_ z=>nomatch z) (λb o _ hb _ e n=>u.keep b o e n hb (by simp)) (λb o _ hb _ e n=>u.slot b o e n hb (by simp)) (λb o _ e n=>u.free b o e n (by simp)) (λb o _ e=>u.there b o e (by simp)) u.tups u.frzs u.tbls (λP J=>by
  obtain⟨Q,A,B,E,L⟩:=J;rw[C]at E;cases E
  exact⟨_,A,B,G,L⟩) l I.bare
def Inv.call{g':Array GenState}{t':Nat}{d':Drawn}{ch:List AT}(I:Inv X ζ σ H s)(u:Un (frs X.stack) ch H H' s.heap h')(A:HOk X.prog X.w H' h')(N:KL g')
  (G:∀b∈ch,(b∈X.ex∨X.s₀.heap.objs.size<=b)/\b≠X.env.locals/\(∀x c,X.env.cells.lookup x=some c->c≠b)/\∀p∈X.pn++ζ,p.1≠b) :
  Inv X ζ σ H' { s with heap:=h',gens:=g',drawn:=d',toks:=t' }:=by
 obtain⟨m,⟨o,Q,R,J,r⟩,_⟩:=id I.loc
 obtain⟨sl,B⟩:=u.any J I.free λz=>(G _ z).2.1 rfl
 exact I.step (ch:=ch) G (λb o B hb l e n=>u.keep b o e n (λz=>(Ai.mp (I.stkSub b z)).elim B hb) l) (λb o _ _ l e n=>u.any e n l) (λb o l e n=>u.free b o e n l) (λb o l e=>u.there b o e l) u.tups u.frzs u.tbls (λS O=>by
  obtain⟨T,C,E,L,P⟩:=O;rw[J]at L;cases L
  exact⟨_,C,E,B,P⟩) A N
def Inv.turned{t':Nat}{it:AT}(I:Inv X ζ σ H s)(k:∀b o,b≠it->s.heap.get? b=some o->h'.get? b=some o)(C:H it=none)(B:it≠X.env.locals)
  (E:it∈X.ex∨X.s₀.heap.objs.size<=it) (G:∀x c,X.env.cells.lookup x=some c->c≠it) (J:∀p∈X.pn++ζ,p.1≠it):Inv X ζ σ H { s with heap:=h',toks:=t' }:=by
 have A:∀b u,H b=some u->b≠it:=λb u e z=>by rw[z,C]at e;cases e
 refine I.step (g':=s.gens) (d':=s.drawn) (ch:=[it]) (λb hb=>?_) (λb o _ _ l e _=>k b o (λz=>l (by simp[z])) e) (λb o _ _ l e _=>⟨o.slots,k b o (λz=>l (by simp[z])) e⟩) (λ_ _ _ _ n=>n)
  (λb o l e=>⟨o,k b o (λz=>l (by simp[z])) e⟩) (λ_ _ e=>e) (λ_ _ _ e=>e) (λb Q e=>⟨#[],by rw[e];simp⟩) (λm L=>?_) (λb u e=>?_) I.bare
 ·have e:b=it:=by simpa using hb
  subst e;exact⟨E,B,G,J⟩
 ·obtain⟨o,N,O,P,r⟩:=L
  exact⟨o,N,O,k _ o (CF B) P,r⟩
 ·refine(I.hok b u e).stay (λc v l q=>k c v ?_ q) (λ_ q=>q) λ_ _ q=>q
  rcases l with z | z
  ·rw[z];exact A b u e
  ·exact A c _ z
def Inv.tok(I:Inv X ζ σ H s)(t:Nat):Inv X ζ σ H { s with toks:=t }:=I.un (h':=s.heap) (t':=t) Un.refl I.hok
def Inv.kept(I:Inv X ζ σ H s)(k:∀b u,s.heap.get? b=some u->h'.get? b=some u):Inv X ζ σ H { s with heap:=h',toks:=t' }:=I.un (Un.kept k) (I.hok.kept k)
def Inv.laid(I:Inv X ζ σ H s)(k:∀b u,s.heap.get? b=some u->h'.get? b=some u)(l:s.heap.objs.size<=a)(new:Ck X.prog X.w (upd H a o) h' a o) :
  Inv X ζ σ (upd H a o) { s with heap:=h',toks:=t' }:=I.un (Un.laid k l (I.hok.fresh l)) (I.hok.laid k l new)
def Inv.write(I:Inv X ζ σ H s)(l:Mut (H x))(m:e=x∨H e=some (.own x))(k:∀b u,b≠e->s.heap.get? b=some u->h'.get? b=some u)(Ϩ:∃u,h'.get? e=some u)
  (new:Ck X.prog X.w (upd H x o) h' x o):Inv X ζ σ (upd H x o) { s with heap:=h',toks:=t' }:=I.un (Un.write l m k Ϩ) (I.hok.write l m k Ϩ new)
def Inv.pins_of(I:Inv X ζ σ H s)(h:∀p∈pins',s.heap.get? p.1=some p.2/\H p.1=none/\p.1≠X.env.locals/\p.1∉X.fs/\∀v,p.2.data≠.cell v):Inv X pins' σ H s:=
 ⟨I.ok,I.os,I.bare,I.base,I.loc,I.cell,I.free,I.freeC,λp l=>(Av.mp l).elim (λz=>I.pin p (BL _ z)) (h p),I.hok,I.len⟩
def Tp{N:List Str}(hN:N.Nodup){i j:Nat}{x:Str}(a:N[i]?=some x)(b:N[j]?=some x):i=j:=by
 obtain⟨o,l⟩:=AG.mp a;obtain⟨A,m⟩:=AG.mp b;exact(List.getElem_inj hN).mp (l.trans m.symm)
def Vc{M:Zk}{A:Bs}{E:AI->AK->Prop}{i:Nat}{x:Str}{v:V}{u:AI}{Q:Unit->AK->Prop}(I:Inv X ζ σ H s)(hN:X.N.Nodup)(hi:X.N[i]?=some x)(J:Loc X.env.scope x)(r:RelV v u)
  (h:∀s',Inv X ζ (σ.set i (some v)) H s'->(∃a,FK a s.heap s'.heap/\(a=X.env.locals∨X.env.cells.lookup x=some a))->Q () s') (hf:X.fn x=true∨X.env.scope.names.lookup x=some .local:=by first | exact .inl rfl | exact .inr rfl | assumption):Am M A (uc X.env x u) Q E s:=by
 obtain⟨m,hn,hl⟩:=id I.loc
 have T:(X.env.scope.kind==.class||(X.env.scope.kind==.module&&X.env.locals != X.env.globals))=false:=by rw[I.ok.kind];rfl
 have O:i < σ.length:=by rw[I.len];exact(AG.mp hi).1
 have cne:=I.cne
 have B:∀{a:AT} {h':DA},(∃o,s.heap.get? a=some o/\H a=none)->FK a s.heap h'->HOk X.prog X.w H h':=λ{a h'} ha l b ob e=>by
  obtain⟨_,_,yS⟩:=ha
  refine(I.hok b ob e).stay (λc w' G q=>(l.2 c ?_).trans q) (λ_ q=>q) λ_ _ q=>q
  rintro rfl
  rcases G with rfl | G
  ·rw[yS]at e;cases e
  ·rw[yS]at G;cases G
 rcases J with P | P
 ·refine wpAny_storeName_local P hn (λh' yy l=>?_) T
  obtain⟨oL,_,_,hoL,_⟩:=id hn;refine h _ ⟨I.ok,I.os,I.bare,⟨λb o e n hb J=>?_,λb o e n hb J=>?_,I.base.free,λb o e J=>?_,I.base.tups,I.base.frzs,I.base.tbls⟩,⟨_,yy,λj y v' C L e3=>?_⟩,λy c e=>?_,I.free,I.freeC,λp hp=>?_,B ⟨oL,hoL,I.free⟩ l,by simpa using I.len⟩ ⟨_,l,.inl rfl⟩
  ·exact(l.2 b (A0 (AV (Ad e) I.ok.above))).trans (I.base.keep b o e n hb J)
  ·obtain⟨sl,C⟩:=I.base.slot b o e n hb J
   exact⟨sl,(l.2 b (A0 (AV (Ad e) I.ok.above))).trans C⟩
  ·obtain⟨o',C⟩:=I.base.there b o e J
   exact⟨o',(l.2 b (A0 (AV (Ad e) I.ok.above))).trans C⟩
  ·by_cases R:j=i
   ·subst R
    rw[hi]at C;cases C;rw[At O]at L;cases L;exact⟨u,r,.inl ⟨P,by simp⟩⟩
   ·rw[Aa (CF R)]at L
    obtain⟨u',r',q⟩:=hl j y v' C L e3;refine⟨u',r',?_⟩
    rcases q with⟨k,e⟩ | ⟨k,c,e,z⟩
    ·refine .inl ⟨k,?_⟩
     have:y≠x:=λe=>R (Tp hN C (e▸hi))
     simp[this,e]
    ·exact .inr ⟨k,c,e,z.sameBut l (cne y c e)⟩
  ·obtain⟨w',z⟩:=I.cell y c e
   exact⟨w',z.sameBut l (cne y c e)⟩
  ·obtain⟨e,n,ne,nf,d⟩:=I.pin p hp
   exact⟨(l.2 p.1 ne).trans e,n,ne,nf,d⟩
 ·have S:X.fn x=true:=by
   rcases hf with z | z
   ·exact z
   ·rw[z]at P;cases P
  obtain⟨c,G⟩:=I.ok.has x (.inl P);obtain⟨w',z⟩:=I.cell x c G;refine wpAny_storeName_cell I.ok.kind P G z (λh' ya l=>?_);obtain⟨oc,U,Y⟩:=id z;refine h { s with heap:=h' } ⟨I.ok,I.os,I.bare,⟨λb o e n hb J=>?_,λb o e n hb J=>?_,I.base.free,λb o e J=>?_,I.base.tups,I.base.frzs,I.base.tbls⟩,⟨m,hn.sameBut l (CF (cne x c G)),λj y v' C L e3=>?_⟩,λy c' e=>?_,I.free,I.freeC,λp hp=>?_,B ⟨oc,U,I.freeC x c G⟩ l,by simpa using I.len⟩ ⟨c,l,.inr G⟩
  ·exact(l.2 b (A0 (AV (Ad e) (I.ok.cab x c S G)))).trans (I.base.keep b o e n hb J)
  ·obtain⟨sl,C⟩:=I.base.slot b o e n hb J
   exact⟨sl,(l.2 b (A0 (AV (Ad e) (I.ok.cab x c S G)))).trans C⟩
  ·obtain⟨o',C⟩:=I.base.there b o e J
   exact⟨o',(l.2 b (A0 (AV (Ad e) (I.ok.cab x c S G)))).trans C⟩
  ·by_cases R:j=i
   ·subst R
    rw[hi]at C;cases C;rw[At O]at L;cases L;exact⟨u,r,.inr ⟨.inl P,c,G,ya⟩⟩
   ·rw[Aa (CF R)]at L
    obtain⟨u',r',q⟩:=hl j y v' C L e3;refine⟨u',r',?_⟩
    rcases q with q | ⟨k,c',e,z'⟩
    ·exact .inl q
    ·refine .inr ⟨k,c',e,z'.sameBut l ?_⟩
     rintro rfl;exact R (Tp hN C (I.ok.inj _ _ _ e G▸hi))
  ·by_cases Z:c'=c
   ·subst Z;exact⟨_,ya⟩
   ·obtain⟨w2,z2⟩:=I.cell y c' e
    exact⟨w2,z2.sameBut l Z⟩
  ·obtain⟨e,n,ne,nf,d⟩:=I.pin p hp
   refine⟨(l.2 p.1 ?_).trans e,n,ne,nf,d⟩;intro q;rw[q,U]at e;have q':oc=p.2:=B2 e;exact d w' (by rw[<-q'];exact Y)
def Pz(I:Inv X ζ σ H s)(hN:X.N.Nodup)(hi:X.N[i]?=some x)(l:Loc X.env.scope x)(r:RelV v u)
  (h:∀s',Inv X ζ (σ.set i (some v)) H s'->Q () s') (m:X.fn x=true∨X.env.scope.names.lookup x=some .local:=by first | exact .inl rfl | exact .inr rfl | assumption):Am M A (uc X.env x u) Q E s:=
 Vc I hN hi l r (λs' o _=>h s' o) m
def Inv.call'(I:Inv X ζ σ H s)(ho:s'.os=s.os)(u:Un (frs X.stack) ch H H' s.heap s'.heap)(l:HOk X.prog X.w H' s'.heap)(m:KL s'.gens)
  (o:∀b∈ch,(b∈X.ex∨X.s₀.heap.objs.size<=b)/\b≠X.env.locals/\(∀x c,X.env.cells.lookup x=some c->c≠b)/\∀p∈X.pn++ζ,p.1≠b):Inv X ζ σ H' s':=by
 obtain⟨h',g',d',t',A⟩:=s';have e:A=s.os:=ho;subst e;exact I.call (g':=g') (t':=t') (d':=d') u l m o
end
abbrev XK:=AI->Option AT->Hp->Prop
abbrev St:=List (Option V)
abbrev VK:=V->Hp->Prop
abbrev TE:=St->Hp->VK->Prop
abbrev TT:=St->Hp->(Bool->Hp->Prop)->Prop
abbrev TA:=St->Hp->(List V->Hp->Prop)->Prop
structure bP where
 nx:St->Hp->Prop
 rt:VK
 bk:St->Hp->Prop:=λ_ _=>False
 ct:St->Hp->Prop:=λ_ _=>False
abbrev TS:=bP->St->Hp->Prop
def EP(X:Cx)(m:List (AT×Obj))(σ:St)(Q:VK)(u:AI)(s':AK):Prop:=∃v l,Inv X m σ l s'/\RelV v u/\Q v l
def TP(X:Cx)(m:List (AT×Obj))(σ:St)(Q:Bool->Hp->Prop)(b:Bool)(s':AK):Prop:=∃l,Inv X m σ l s'/\Q b l
def AP(X:Cx)(o:List (AT×Obj))(σ:St)(Q:List V->Hp->Prop)(us:List AI)(s':AK):Prop:=∃l m,Inv X o σ m s'/\CQ l us/\Q l m
def SP(X:Cx)(o:List (AT×Obj))(D:bP)(f:Flow)(s':AK):Prop:=
 match f with
 | .next=>∃l m,Inv X o l m s'/\D.nx l m
 | .brk=>∃l m,Inv X o l m s'/\D.bk l m
 | .cont=>∃l m,Inv X o l m s'/\D.ct l m
 | .ret u=>∃v l m,Inv X o l m s'/\RelV v u/\D.rt v m
def PE(X:Cx)(e:Expr)(t:TE):Prop:=
 ∀(m:List (AT×Obj)) (s:AK) (l:St) (H:Hp) (Q:VK),Inv X m l H s->t l H Q->Am (Ag X.prog X.w) X.A (Cd e X.env) (EP X m l Q) X.xe s
def PT(X:Cx)(e:Expr)(t:TT):Prop:=
 ∀(m:List (AT×Obj)) (s:AK) (l:St) (H:Hp) (Q:Bool->Hp->Prop),Inv X m l H s->t l H Q->Am (Ag X.prog X.w) X.A (qN e X.env (Cd e X.env)) (TP X m l Q) X.xe s
def PW(X:Cx)(e:Expr)(t:TT):Prop:=
 ∀(l:Sem AI) (o:List (AT×Obj)) (s:AK) (m:St) (H:Hp) (Q:Bool->Hp->Prop),Inv X o m H s->t m H Q->Am (Ag X.prog X.w) X.A (qN e X.env l) (TP X o m Q) X.xe s
def PW.pt(h:PW X e t):PT X e t:=h _
def PA(X:Cx)(es:List Expr)(t:TA):Prop:=
 ∀(l:Pos) (o:List (AT×Obj)) (s:AK) (m:St) (H:Hp) (Q:List V->Hp->Prop),Inv X o m H s->t m H Q->Am (Ag X.prog X.w) X.A (spliced (ER l (AY es X.env))) (AP X o m Q) X.xe s
def PS(X:Cx)(st:DQ)(t:TS):Prop:=
 ∀(l:List (AT×Obj)) (s:AK) (m:St) (H:Hp) (D:bP),Inv X l m H s->t D m H->Am (Ag X.prog X.w) X.A (exec st X.env) (SP X l D) X.xe s
def PSs(X:Cx)(st:List DQ)(t:TS):Prop:=
 ∀(l:List (AT×Obj)) (s:AK) (m:St) (H:Hp) (D:bP),Inv X l m H s->t D m H->Am (Ag X.prog X.w) X.A (execs st X.env) (SP X l D) X.xe s
def thn{l:Type}{t:Sem l}{Q m:l->AK->Prop}{M:Zk}{A:Bs}{E:AI->AK->Prop}{s:AK}(h:Am M A t Q E s)(o:∀a s,Q a s->m a s):Am M A t m E s:=Fq h o λ_ _ x=>x
section
variable{X:Cx}
def rB(i:Nat):TE:=λl H Q=>∃v,l[i]?=some (some v)/\Q v H
def tC(v:V):TE:=λ_ H Q=>Q v H
def rj(hN:X.N[i]?=some x)(E:Vis X.env.scope x)(A:(x==("__debug__" : Str))=false:=by decide) (G:(x==("__classdict__" : Str))=false:=by decide):PE X (.Name x pos) (rB i):=by
 intro J s L H Q I h;obtain⟨v,e,h⟩:=h;obtain⟨m,O,P⟩:=I.loc;obtain⟨u,r,l⟩:=P i x v hN e E;have fin:EP X J L Q u s:=⟨v,H,I,r,h⟩
 rcases l with⟨o,R⟩ | ⟨o,c,B,C⟩
 ·exact qM (lN I.ok.kind o O R fin) A
 ·rcases o with o | o
  ·exact qM (pZ I.ok.kind o B C fin) A
  ·exact qM (wpAny_loadName_free I.ok.kind o B C fin G) A
def sC{i j pos}:PE X (.Constant (.int i) j pos) (tC (.int i)):=λ_ _ _ H _ I h=>wpAny_Constant_int ⟨.int i,H,I.tok _,⟨_,rfl⟩,h⟩
def vW{b j pos}:PE X (.Constant (.bool b) j pos) (tC (.bl b)):=λ_ _ _ H _ I h=>Constant_bool ⟨.bl b,H,I,rfl,h⟩
def rp{j pos}:PE X (.Constant .none j pos) (tC .non):=λ_ _ _ H _ I h=>Constant_none ⟨.non,H,I,rfl,h⟩
def rl{x j pos}:PE X (.Constant (.str x) j pos) (tC (.str x)):=λ_ _ _ H _ I h=>Calls.Constant_str ⟨.str x,H,I.tok _,⟨_,rfl⟩,h⟩
def Gl(X:Cx)(x:Str):Prop:=X.env.kindOf x=some .globalImplicit
def QD(I:Inv X B σ H s)(l:Gl X x)(m:X.mg x=some u)(h:Q u s)
  (o:(x==("__debug__" : Str))=false:=by decide):Am (Ag X.prog X.w) X.A (Cd (.Name x pos) X.env) Q E s:=
 Uo I.ok.kind l (Calls.loadGlobal_global (by rw[I.ok.glob];exact I.mod.glob.keeps I.bk) m h) o
def PN(I:Inv X L σ H s)(l:Gl X x)(m:X.mg x=none)(o:Fs x=some u)(h:Q u s)
  (B:x≠"__name__":=by decide) (C:(x==("__debug__" : Str))=false:=by decide):Am (Ag X.prog X.w) X.A (Cd (.Name x pos) X.env) Q E s:=by
 obtain⟨N,G,J⟩:=I.mod.blt;exact Uo I.ok.kind l (Calls.loadGlobal_builtin (by rw[I.ok.glob];exact I.mod.glob.keeps I.bk) m (by rw[I.ok.blt];exact G.keeps I.bk) ((J x B).trans o) h) C
def Wm(l:Gl X x)(m:X.mg x=some u)(r:RelV v u)(o:(x==("__debug__" : Str))=false:=by decide):PE X (.Name x pos) (tC v):=
 λ_ _ _ H _ I h=>QD I l m ⟨v,H,I,r,h⟩ o
def nq(l:Gl X x)(m:X.mg x=none)(o:Fs x=some u)(r:RelV v u)(s:x≠"__name__":=by decide) (A:(x==("__debug__" : Str))=false:=by decide):PE X (.Name x pos) (tC v):=
 λ_ _ _ H _ I h=>PN I l m o ⟨v,H,I,r,h⟩ s A
variable{a b:Expr}{ta tb:TE}{pos:Pos}
def PC(X:Cx)(op:CmpOp)(a b:Expr)(t:TE):Prop:=
 ∀(B:List (AT×Obj)) (s:AK) (o:St) (H:Hp) (Q:VK),Inv X B o H s->t o H Q ->
  Am (Ag X.prog X.w) X.A (Cd a X.env) (λv l=>Am (Ag X.prog X.w) X.A (Cd b X.env) (λu m=>Am (Ag X.prog X.w) X.A (CS op v u) (EP X B o Q) X.xe m) X.xe l) X.xe s
def tB(t:TE):TT:=λl H Q=>t l H λx m=>∃c,x=.bl c/\Q c m
def sE(h:PC X op a b t)(l:Cq op b=false:=by first | exact nobehind _ (by decide) (by decide) | rfl):PE X (.Compare a [op] [b] pos) t:=λm s o H Q I hw=>wpAny_Compare1 (h m s o H Q I hw) l
def ij(h:PC X op a b t)(l:Cq op b=false:=by first | exact nobehind _ (by decide) (by decide) | rfl):PT X (.Compare a [op] [b] pos) (tB t):=by
 intro m s o H Q I hw;refine lA (thn (h m s o H _ I hw) λv J l=>thn l λu L A=>thn A λc N ⟨x,B,C,E,G⟩=>?_) l;obtain⟨d,rfl,q⟩:=G;cases E;exact DC ⟨B,C,q⟩
variable{tA tB':TT}{rest:List Expr}
def vF(t u:TT):TT:=λl H Q=>t l H λc m=>if c=true then u l m Q else Q false m
def tOr(t u:TT):TT:=λl H Q=>t l H λc m=>if c=true then Q true m else u l m Q
def tNot(t:TT):TT:=λl H Q=>t l H λc m=>Q (!c) m
def nH(l:PT X a tA):PW X (.BoolOp .And [a] pos) tA:=by
 intro A m s o H Q I h;refine isTrue_and (thn (l m s o H Q I h) λc B e=>?_)
 cases c with
 | true=>exact isTrue_and_nil e
 | false=>exact e
def rR(l:PT X a tA):PW X (.BoolOp .Or [a] pos) tA:=by
 intro A m s o H Q I h;refine isTrue_or (thn (l m s o H Q I h) λc B e=>?_)
 cases c with
 | false=>exact isTrue_or_nil e
 | true=>exact e
def rS(C:PT X a tA)(hb:PW X (.BoolOp .And (b :: rest) pos) tB'):PW X (.BoolOp .And (a :: b :: rest) pos) (vF tA tB'):=by
 intro E l s m H Q I h;refine isTrue_and (thn (C l s m H _ I h) λc G ⟨o,A,B⟩=>?_)
 cases c with
 | true=>exact hb E l G m o Q A B
 | false=>exact⟨o,A,B⟩
def vQ(C:PT X a tA)(hb:PW X (.BoolOp .Or (b :: rest) pos) tB'):PW X (.BoolOp .Or (a :: b :: rest) pos) (tOr tA tB'):=by
 intro E l s m H Q I h;refine isTrue_or (thn (C l s m H _ I h) λc G ⟨o,A,B⟩=>?_)
 cases c with
 | true=>exact⟨o,A,B⟩
 | false=>exact hb E l G m o Q A B
def rT(l:PT X a tA):PT X (.UnaryOp .Not a pos) (tNot tA):=by
 intro m s o H Q I h;exact isTrue_not (l m s o H (λc A=>Q (!c) A) I h)
def vE(ta tb:TE):TE:=λl H Q=>ta l H λx m=>∃c,x=.bl c/\if c=true then tb l m Q else Q (.bl false) m
def tOrV(ta tb:TE):TE:=λl H Q=>ta l H λx m=>∃c,x=.bl c/\if c=true then Q (.bl true) m else tb l m Q
def u0(ta:TE):TE:=λl H Q=>ta l H λx m=>∃c,x=.bl c/\Q (.bl (!c)) m
def rm{op}{t}(h:PE X a t):PE X (.BoolOp op [a] pos) t:=λl s m H Q I hw=>BoolOp_one (h l s m H Q I hw)
def sH(C:PE X a ta)(hb:PE X (.BoolOp .And (b :: rest) pos) tb):PE X (.BoolOp .And (a :: b :: rest) pos) (vE ta tb):=by
 intro m s o H Q I h;refine BoolOp_and (thn (C m s o H _ I h) λv E ⟨x,A,B,G,l⟩=>?_);obtain⟨c,rfl,l⟩:=l;cases G;refine DC ?_
 cases c with
 | true=>exact hb m E o A Q B l
 | false=>exact⟨.bl false,A,B,rfl,l⟩
def vT(C:PE X a ta)(hb:PE X (.BoolOp .Or (b :: rest) pos) tb):PE X (.BoolOp .Or (a :: b :: rest) pos) (tOrV ta tb):=by
 intro m s o H Q I h;refine BoolOp_or (thn (C m s o H _ I h) λv E ⟨x,A,B,G,l⟩=>?_);obtain⟨c,rfl,l⟩:=l;cases G;refine DC ?_
 cases c with
 | false=>exact hb m E o A Q B l
 | true=>exact⟨.bl true,A,B,rfl,l⟩
def rn(m:PE X a ta):PE X (.UnaryOp .Not a pos) (u0 ta):=by
 intro o s A H Q I h;refine UnaryOp_ (thn (m o s A H _ I h) λv G ⟨x,B,C,E,l⟩=>?_);obtain⟨c,rfl,l⟩:=l;cases E;exact not_of (DC ⟨.bl (!c),B,C,rfl,l⟩)
def tIf(t:TT)(ta tb:TE):TE:=λl H Q=>t l H λc m=>if c=true then ta l m Q else tb l m Q
def iu(E:PT X c tA)(G:PE X a ta)(hb:PE X b tb):PE X (.IfExp c a b pos) (tIf tA ta tb):=by
 intro l s m H Q I h;refine wpAny_IfExp (thn (E l s m H _ I h) λd o ⟨A,B,C⟩=>?_)
 cases d with
 | true=>exact G l o m A Q B C
 | false=>exact hb l o m A Q B C
end
def SqL(K:AE)(H:Hp)(a:AT)(xs:List V):Prop:=
 Rd H a (.lst xs) ∨
  ∃(o:Obj) (l:Array AI) (n:Nat),K.lookup a=some o/\o.cls=.type "list"/\o.dict=none/\o.data=.seq l n/\l.size<=sizeLine/\CQ xs l.toList
def SqT(K:AE)(H:Hp)(a:AT)(xs:List V):Prop:=
 Rd H a (.tup xs) ∨
  ∃(o:Obj) (l:Array AI) (n:Nat),K.lookup a=some o/\o.cls=.type "tuple"/\o.data=.seq l n/\l.size<=sizeLine/\CQ xs l.toList
noncomputable def absV:AI->Option V
 | .none=>some .non
 | .bool b=>some (.bl b)
 | .int i _=>some (.int i)
 | .str x _=>some (.str x)
 | .bytes b _=>some (.byt b)
 | .float b _=>some (.flt b)
 | .ref a=>some (.ref a)
 | .type n=>some (.ty n)
 | _=>none
def RelV.abs(r:RelV x u):absV u=some x:=by
 cases x with
 | non=>cases r;rfl
 | bl _=>cases r;rfl
 | int _=>obtain⟨t,rfl⟩:=r;rfl
 | str _=>obtain⟨t,rfl⟩:=r;rfl
 | byt _=>obtain⟨t,rfl⟩:=r;rfl
 | flt _=>obtain⟨t,rfl⟩:=r;rfl
 | ref _=>cases r;rfl
 | ty _=>cases r;rfl
def RelV.inj(r:RelV x u)(q:RelV y u):x=y:=B2 (r.abs.symm.trans q.abs)
theorem CQ.inj:∀{xs l:List V} {us:List AI},CQ xs us->CQ l us->xs=l
 | _,_,_,.nil,.nil=>rfl
 | _,_,_,.cons r t,.cons m o=>by rw[r.inj m,CQ.inj t o]
section
variable{X:Cx}{ζ:List (AT×Obj)}{σ:St}{H:Hp}{s:AK}{a:AT}{xs ys:List V}
def Inv.list(I:Inv X ζ σ H s)(h:SqL X.K H a xs):∃l:List AI,CQ xs l/\PlainL s.heap a l.toArray/\xs.length<=sizeLine:=by
 rcases h with h | ⟨o,l,n,m,A,B,C,E,r⟩
 ·obtain⟨z,l,n,r,e⟩:=h.ok I.hok
  exact⟨l,r,⟨_,n,e,rfl,rfl,rfl⟩,z⟩
 ·refine⟨l.toList,r,⟨o,n,I.kIn a o m,A,B,by simpa using C⟩,?_⟩
  have e:=r.length;simp only[Bg]at e
  lia
def Inv.tuple(I:Inv X ζ σ H s)(h:SqT X.K H a xs):∃l:List AI,CQ xs l/\lb s.heap a l.toArray/\xs.length<=sizeLine:=by
 rcases h with h | ⟨o,l,n,m,A,B,C,r⟩
 ·obtain⟨z,l,r,p⟩:=h.ok I.hok
  exact⟨l,r,p,z.1⟩
 ·refine⟨l.toList,r,⟨o,I.kIn a o m,A,n,by simpa using B⟩,?_⟩
  have e:=r.length;simp only[Bg]at e
  lia
def Inv.list_inj(I:Inv X ζ σ H s)(h:SqL X.K H a xs)(h':SqL X.K H a ys):xs=ys:=by
 obtain⟨A,r,⟨o,n,e,_,_,d⟩,_⟩:=I.list h;obtain⟨its',B,⟨C,E,l,_,_,m⟩,_⟩:=I.list h';rw[e]at l;cases l;rw[d]at m
 injection m with d1 _
 have:A=its':=by simpa using congrArg qT d1
 subst this;exact r.inj B
def Inv.tuple_inj(I:Inv X ζ σ H s)(h:SqT X.K H a xs)(h':SqT X.K H a ys):xs=ys:=by
 obtain⟨A,r,⟨o,e,_,n,d⟩,_⟩:=I.tuple h;obtain⟨its',B,⟨C,l,_,E,m⟩,_⟩:=I.tuple h';rw[e]at l;cases l;rw[d]at m
 injection m with d1 _
 have:A=its':=by simpa using congrArg qT d1
 subst this;exact r.inj B
end
section
variable{X:Cx}{st:DQ}{rest:List DQ}{t u:TS}{e:Expr}{te:TE}{pos:Pos}
def u5:TS:=λD l H=>D.nx l H
def tSeq(t u:TS):TS:=λD l H=>t { D with nx:=u D } l H
def nK:PSs X [] u5:=λ_ _ l H _ I h=>Kk ⟨l,H,I,h⟩
def il(o:PS X st t)(A:PSs X rest u):PSs X (st :: rest) (tSeq t u):=by
 intro m s B H D I h;refine uX (thn (o m s B H { D with nx:=u D } I h) λf C q=>?_)
 cases f with
 | next=>
  obtain⟨l,E,G,q⟩:=q;exact A m C l E D G q
 | ret v=>exact q
 | brk=>exact q
 | cont=>exact q
def nJ(l:PS X st t):PSs X [st] t:=by
 intro m s o H D I h;refine uX (thn (l m s o H D I h) λf A q=>?_)
 cases f with
 | next=>exact Kk q
 | ret v=>exact q
 | brk=>exact q
 | cont=>exact q
def Inv.quiet(I:Inv X l σ H s):interactive X.env=false:=by simp[interactive,I.ok.kind]
def u7(te:TE):TS:=λD l H=>te l H λ_ m=>D.nx l m
def nL(m:PE X e te)(o:HI e none pos.line X.env=pure false:=by rfl):PS X (.Expr e pos) (u7 te):=by
 intro A s l H D I h;exact wpAny_Expr_any (thn (m A s l H _ I h) λv G ⟨x,B,C,J,E⟩=>⟨l,B,C,E⟩) I.quiet o
def tRet(te:TE):TS:=λD l H=>te l H D.rt
def rX(m:PE X e te):PS X (.Return (some e) pos) (tRet te):=by
 intro o s l H D I h;exact wpAny_Return_some (thn (m o s l H _ I h) λv G ⟨x,A,B,C,E⟩=>⟨x,l,A,B,C,E⟩)
def tIfS(c:TT)(t u:TS):TS:=λD l H=>c l H λb m=>if b=true then t D l m else u D l m
def vR(E:PT X c tc)(G:PSs X a t)(hb:PSs X b u):PS X (.If c a b pos) (tIfS tc t u):=by
 intro l s m H D I h;refine wpAny_If (thn (E l s m H _ I h) λd o ⟨A,B,C⟩=>?_)
 cases d with
 | true=>exact G l o m A D B C
 | false=>exact hb l o m A D B C
def rE:TS:=λ_ _ _=>False
def io:PS X st rE:=λ_ _ _ _ _ _ h=>h.elim
end
abbrev TG:=V->St->Hp->(St->Hp->Prop)->Prop
abbrev TGs:=List V->St->Hp->(St->Hp->Prop)->Prop
def PG(X:Cx)(C:Expr)(t:TG):Prop:=
 ∀(m:List (AT×Obj)) (s:AK) (o:St) (H:Hp) (v:V) (u:AI) (Q:St->Hp->Prop),Inv X m o H s->RelV v u->t v o H Q ->
  Am (Ag X.prog X.w) X.A (Zd C X.env u) (λ_ E=>∃l B,Inv X m l B E/\Q l B) X.xe s
def PGs(X:Cx)(ts:List Expr)(t:TGs):Prop:=
 ∀(m:List (AT×Obj)) (s:AK) (o:St) (H:Hp) (B:List V) (C:List AI) (Q:St->Hp->Prop),Inv X m o H s->CQ B C->t B o H Q ->
  Am (Ag X.prog X.w) X.A (assignInOrder ((IJ ts X.env).map (·.2)) C) (λ_ G=>∃l E,Inv X m l E G/\Q l E) X.xe s
abbrev wb:=V->V->V->Hp->(Hp->Prop)->Prop
def wf(X:Cx)(t:wb):Prop:=
 ∀(l:List (AT×Obj)) (s:AK) (m:St) (H:Hp) (o i v:V) (B C u:AI) (Q:Hp->Prop),Inv X l m H s->RelV o B->RelV i C->RelV v u->t o i v H Q ->
  Am (Ag X.prog X.w) X.A (uO B C u) (λ_ G=>∃E,Inv X l m E G/\Q E) X.xe s
abbrev TIp:=V->V->Hp->VK->Prop
def PIp(X:Cx)(op:Operator)(t:TIp):Prop:=
 ∀(l:List (AT×Obj)) (s:AK) (m:St) (H:Hp) (x y:V) (v u:AI) (Q:VK),Inv X l m H s->RelV x v->RelV y u->t x y H Q ->
  Am (Ag X.prog X.w) X.A (inplaceOp op v u) (EP X l m Q) X.xe s
section
variable{X:Cx}{pos:Pos}
def cn(i:Nat):TG:=λv l H Q=>Q (l.set i (some v)) H
def nU(hN:X.N.Nodup)(hi:X.N[i]?=some x)(l:Loc X.env.scope x)(m:X.fn x=true∨X.env.scope.names.lookup x=some .local:=by first | exact .inl rfl | exact .inr rfl | assumption):PG X (.Name x pos) (cn i):=by
 intro A s B H v u Q I r h;exact uM (Pz I hN hi l r (λC o=>⟨_,H,o,h⟩) m)
def gNil:TGs:=λl m H Q=>l=[]/\Q m H
def wO(t:TG)(u:TGs):TGs:=λm o H Q=>∃v r,m=v :: r/\t v o H λl s=>u r l s Q
def nS:PGs X [] gNil:=by
 intro m s l H o A Q I r h;obtain⟨e,h⟩:=h;subst e;cases r;exact assignInOrder_nil ⟨l,H,I,h⟩
def ir(o:PG X e t)(A:PGs X es u)
  (B:(IJ (e :: es) X.env).map (·.2)=Zd e X.env :: (IJ es X.env).map (·.2):=by rfl):PGs X (e :: es) (wO t u):=by
 intro m s C H P R Q I r h;obtain⟨v,S,E,h⟩:=h;subst E
 cases r with
 | cons r G=>
  rw[B];refine assignInOrder_cons (thn (o m s C H _ _ _ I r h) λ_ J ⟨l,L,N,O⟩=>?_);exact A m J l L _ _ Q N G O
def gTup(K:AE)(n:Nat)(t:TGs):TG:=λv m H Q=>∃a l,v=.ref a/\SqT K H a l/\l.length=n/\t l m H Q
def rh(B:X.calm=true)(h:PGs X es t)
  (C:(IJ es X.env).length=n:=by rfl) (E:(IJ es X.env).findIdx? (·.1)=none:=by rfl):PG X (.Tuple es k pos) (gTup X.K n t):=by
 intro l s m H v u Q I r hw;obtain⟨a,G,J,L,N,hw⟩:=hw;subst J;cases r;obtain⟨T,A,O,U⟩:=I.tuple L
 refine assign_Tuple_tuple (I.ok.hd B) O (by simp[C,<-N,A.length]) E λP R=>?_
 have S:Inv X l m H { s with heap:=P }:=I.kept (t':=s.toks) λb o e=>R b o (A0 (Ad e)) e
 exact h l _ m H G _ Q S (by simpa using A) hw
def vD(te:TE)(g:TG):TS:=λD l H=>te l H λx m=>g x l m D.nx
def rW(hN:X.N.Nodup)(hi:X.N[i]?=some x)(m:Loc X.env.scope x)(o:PE X e te)(A:HI e (some (.Name x l)) pos.line X.env=pure false:=by rfl)(B:X.fn x=true∨X.env.scope.names.lookup x=some .local:=by first | exact .inl rfl | exact .inr rfl | assumption) :
  PS X (.Assign [.Name x l] e pos) (vD te (cn i)):=by
 intro C s E H D I h;refine wpAny_Assign_Name (thn (o C s E H _ I h) λv Q ⟨y,G,J,L,O⟩=>?_) A;exact Pz J hN hi m L (λR P=>⟨_,G,P,O⟩) B
def tAug(i:Nat)(te:TE)(m:TIp):TS:=λD l H=>∃x,l[i]?=some (some x)/\te l H λy o=>m x y o λz s=>D.nx (l.set i (some z)) s
def rc(hN:X.N.Nodup)(hi:X.N[i]?=some x)(E:Loc X.env.scope x)(P:PE X e te)(ho:PIp X op Q)(R:X.fn x=true∨X.env.scope.names.lookup x=some .local:=by first | exact .inl rfl | exact .inr rfl | assumption) :
  PS X (.AugAssign (.Name x L) op e pos) (tAug i te Q):=by
 intro G s O H D I h;obtain⟨v,S,h⟩:=h;obtain⟨m,T,U⟩:=I.loc
 have J:Vis X.env.scope x:=by rcases E with k | k;exact .inl k;exact .inr (.inl k)
 obtain⟨u,r,l⟩:=U i x v hi S J;refine wpAny_AugAssign_Name ?_
 have go:Am (Ag X.prog X.w) X.A (Cd e X.env) (λw B=>Am (Ag X.prog X.w) X.A (inplaceOp op u w) (λr C=>Am (Ag X.prog X.w) X.A (uc X.env x r) (λ_=>SP X G D .next) X.xe C) X.xe B) X.xe s:=by
  refine thn (P G s O H _ I h) λw Y ⟨y,Z,I1,r1,q1⟩=>?_
  refine thn (ho G Y O Z v y u w _ I1 r r1 q1) λz s2 ⟨zv,H2,I2,r2,q2⟩=>?_
  exact Pz I2 hN hi E r2 (λs3 I3=>⟨_,H2,I3,q2⟩) R
 rcases l with⟨o,hm⟩ | ⟨o,c,hc,xU⟩
 ·exact lN I.ok.kind o T hm go
 ·rcases o with o | o
  ·exact pZ I.ok.kind o hc xU go
  ·rcases E with k | k
   ·have:X.env.scope.names.lookup x=some .free:=o
    rw[k]at this;cases this
   ·have:X.env.scope.names.lookup x=some .free:=o
    rw[k]at this;cases this
def vC(to s te:TE)(A:V->V->Hp->VK->Prop)(m:TIp)(B:wb):TS:=λD l H=>to l H λo C=>s l C λi E=>A o i E λx G=>te l G λy I=>m x y I λz J=>B o i z J λL=>D.nx l L
def wg(X:Cx)(t:V->V->Hp->VK->Prop):Prop:=
 ∀(l:List (AT×Obj)) (s:AK) (m:St) (H:Hp) (o i:V) (B C:AI) (Q:VK),Inv X l m H s->RelV o B->RelV i C->t o i H Q ->
  Am (Ag X.prog X.w) X.A (ZH B C) (EP X l m Q) X.xe s
def nO(ho:PE X o to)(hi:PE X i N)(O:wg X P)(Q:PE X e te)(R:PIp X op C)(S:wf X T)
  (U:∀l m new,augStore i l m new=(do ZG [new,l,m] (uO l m new);release [new,l,m] [];pure .next):=by intros;rfl):PS X (.AugAssign (.Subscript o i tpos) op e pos) (vC to N te P C T):=by
 intro B s A H D I h;refine wpAny_AugAssign_SubscriptAny (thn (ho B s A H _ I h) λl Y ⟨E,Z,I1,G,q1⟩=>?_) U
 refine thn (hi B Y A Z _ I1 q1) λm s2 ⟨J,H2,I2,L,q2⟩=>?_
 refine thn (O B s2 A H2 E J l m _ I2 G L q2) λold s3 ⟨x3,H3,I3,r3,q3⟩=>?_
 refine thn (Q B s3 A H3 _ I3 q3) λv s4 ⟨x4,H4,I4,r4,q4⟩=>?_
 refine thn (R B s4 A H4 x3 x4 old v _ I4 r3 r4 q4) λnew s5 ⟨x5,H5,I5,r5,q5⟩=>?_
 exact thn (S B s5 A H5 E J x5 l m new _ I5 G L r5 q5) λ_ s6 ⟨H6,I6,q6⟩=>⟨A,H6,I6,q6⟩
def ipI(f:Int->Int->Int):TIp:=λx y H Q=>∃i j,x=.int i/\y=.int j/\Q (.int (f i j)) H
def tE:PIp X .Add (ipI λi j=>i+j):=by
 intro B s C H x y v u Q I l m h;obtain⟨i,j,o,A,q⟩:=h;subst o;subst A;obtain⟨t,rfl⟩:=l;obtain⟨E,rfl⟩:=m;exact iadd_int ⟨.int _,H,I.tok _,⟨_,rfl⟩,q⟩
def rA(c:TT)(C:TS):TS:=λD l H=>∃W:Nat->St->Hp->Prop,(∃m,W m l H)/\∀m l H,W m l H ->
 c l H λb s=>if b=true then ∃N:St->Hp->Prop,(∀o A,N o A->∃B,B < m/\W B o A)/\C { D with nx:=N,ct:=N,bk:=D.nx } l s else D.nx l s
def im(R:RH (Ag X.prog X.w) X.A X.env X.xe)(hc:PT X c tc)(hb:PSs X body tb):PS X (.While c body [] pos) (rA tc tb):=by
 intro G s σ H D I h;obtain⟨W,⟨m0,w0⟩,turn⟩:=h;refine wpAny_While (codeAny_whileLoop (λn s'=>∃o S,Inv X G o S s'/\W n o S) ?_ m0 ⟨σ,H,I,w0⟩);rintro n s1 ⟨m,T,I1,w1⟩;refine GU R (thn (hc G s1 m T _ I1 (turn n m T w1)) λb s2 ⟨U,Y,C⟩=>?_)
 cases b with
 | true=>
  obtain⟨N,Z,C⟩:=C;rw[qX rfl];refine GU R (thn (hb G s2 m U _ Y C) λf s3 E=>?_)
  cases f with
  | next=>
   obtain⟨l,B,J,L⟩:=E;obtain⟨O,P,Q⟩:=Z l B L;exact⟨O,P,l,B,J,Q⟩
  | cont=>
   obtain⟨l,B,J,L⟩:=E;obtain⟨O,P,Q⟩:=Z l B L;exact⟨O,P,l,B,J,Q⟩
  | brk=>exact E
  | ret v=>exact E
 | false=>
  rw[qY AH];exact Kk ⟨m,U,Y,C⟩
end
structure It where
 go:Nat->Hp->Prop
 yld:Nat->Hp->V->Hp->Prop
 stop:Nat->Hp->Prop
def Pa(X:Cx)(l:List (AT×Obj))(H:Hp)(b:AT):Prop:=
 H b=none/\b≠X.env.locals/\b∉X.fs/\(b∈X.ex∨X.s₀.heap.objs.size<=b)/\(∀x c,X.env.cells.lookup x=some c->c≠b)/\∀p∈X.pn++l,p.1≠b
def Inv.fpOk(I:Inv X l σ H s)(hb:s.heap.objs.size<=b)(m:o b=none):Pa X l o b:=by
 refine⟨m,Eo (AV I.lt hb),I.nofs hb,.inr (Aw I.sz hb),λx c e z=>?_,λp A z=>?_⟩
 ·obtain⟨v,q⟩:=I.cell x c e
  exact zX (AV q.lt (by rw[z];exact hb)) (EE _)
 ·exact zX (AV (Ad (I.pin p A).1) (by rw[z];exact hb)) (EE _)
structure VC(P:Bf)(w:CH)(K:AE)(tg:Expr)(J:It)(fp:List AT)(it:AT)(tn:Nat->DA->Prop):Prop where
 mem:it∈fp
 obj:∀i h,tn i h->∀b∈fp,∃o,h.get? b=some o/\∀v,o.data≠.cell v
 keep:∀i h h',tn i h->(∀b∈fp,∀o,h.get? b=some o->h'.get? b=some o)->tn i h'
 item:∀(X:Cx),X.prog=P->X.w=w->X.K=K->X.calm=true->∀(i:Nat) (ζ:List (AT×Obj)) (s:AK) (σ:St) (H:Hp) (E:AI->AK->Prop),Inv X ζ σ H s->(∀b∈fp,Pa X ζ H b)->tn i s.heap->J.go i H ->
  Am (Ag P w) X.A (V5 (.ref it)) (λr s1=>∃u,r=some u /\
   Am (Ag P w) X.A (Pc tg (.ref it) u) (λ_ s2=>∃x H',Inv X ζ σ H' s2/\RelV x u/\J.yld i H x H'/\tn (i+1) s2.heap/\∀b∈fp,H' b=none) E s1) E s
 done:∀(X:Cx),X.prog=P->X.w=w->X.K=K->X.calm=true->∀(i:Nat) (ζ:List (AT×Obj)) (s:AK) (σ:St) (H:Hp) (E:AI->AK->Prop),Inv X ζ σ H s->(∀b∈fp,Pa X ζ H b)->tn i s.heap->J.stop i H ->
  Am (Ag P w) X.A (V5 (.ref it)) (λr s1=>r=none/\Inv X ζ σ H s1) E s
 self:∀(A:Bs) (i:Nat) (s:AK) (Q:AI->AK->Prop) (E:AI->AK->Prop),tn i s.heap->Q (.ref it) s->Am (Ag P w) A (gV (.ref it)) Q E s
abbrev TI:=St->Hp->(It->Hp->Prop)->Prop
def PIE(X:Cx)(o:List (AT×Obj))(σ:St)(tg:Expr)(R:It->Hp->Prop)(l:AI)(s:AK):Prop:=
 ∃(it:AT) (A:List AT) (B:Nat->DA->Prop) (J:It) (m:Hp),l=.ref it/\Inv X o σ m s/\VC X.prog X.w X.K tg J A it B/\B 0 s.heap/\(∀b∈A,Pa X o m b)/\R J m
def PI(X:Cx)(tg iter:Expr)(o:TI):Prop:=
 ∀(m:List (AT×Obj)) (s:AK) (l:St) (H:Hp) (R:It->Hp->Prop),Inv X m l H s->o l H R ->
  Am (Ag X.prog X.w) X.A (Cd iter X.env) (λv B=>Am (Ag X.prog X.w) X.A (gV v) (PIE X m l tg R) X.xe B) X.xe s
def Yu(ho:s.heap.get? it=some o)(m:o.cls=.type n)(B:o.data=.fields vs)
  (C:["enumerate", "zip", "dict_itemiterator", "dict_reverseitemiterator", "odict_iterator", "itertools.zip_longest", "itertools.pairwise"].contains n=false) (l:Q () s):Am M A (Pc tg (.ref it) u) Q E s:=by
 unfold Pc
 cases tg <;> first
  | exact AN l
  | (cases u <;> first
    | exact AN l
    | (refine AB (wpAny_load ho ?_)
       rw[m,B];show Am M A (if (["enumerate", "zip", "dict_itemiterator", "dict_reverseitemiterator", "odict_iterator", "itertools.zip_longest", "itertools.pairwise"].contains n&&vs[0]?==some (FO _))=true then _ else _) Q E s;rw[qY (by intro h;rw[C,Bool.false_and]at h;cases h)]
       exact AN l))
def Itl(K:AE)(a:AT):It:=
 ⟨λi H=>∃l x,SqL K H a l/\l[i]?=some x,λi H x m=>m=H/\∀l,SqL K H a l->l[i]?=some x,λi H=>∃l,SqL K H a l/\l.length<=i⟩
def Itt(K:AE)(a:AT):It:=
 ⟨λi H=>∃l x,SqT K H a l/\l[i]?=some x,λi H x m=>m=H/\∀l,SqT K H a l->l[i]?=some x,λi H=>∃l,SqT K H a l/\l.length<=i⟩
def Itr(lo:Int)(n:Nat):It:=⟨λi _=>i < n,λi H x l=>l=H/\x=.int (lo+i),λi _=>n<=i⟩
def dj{P}{w}{K}{tg}(a it:AT):VC P w K tg (Itl K a) [it] it (λi h=>h.IsListIter it a i) where
 mem:=by simp
 obj:=λi h st b hb=>by
  have e:b=it:=by simpa using hb
  subst e;obtain⟨o,e,c,d⟩:=st;exact⟨o,e,λv z=>by rw[d]at z;cases z⟩
 keep:=λi h m st k=>st.at λo e=>k it (by simp) o e
 item:=by
  intro X C hw G U i Y s Z H E I A st J;subst C hw G;obtain⟨xs,x,B,L⟩:=J;obtain⟨j',N,p,hz⟩:=I.list B;obtain⟨u,hu,ru⟩:=N.get L;obtain⟨O,Q,f2,R,S,T⟩:=A it (by simp)
  refine wpAny_pyNext_list_item st p.isList (x:=u) (by simpa using hu) λm l sb=>?_
  have I1:Inv X Y Z H { s with heap:=m }:=I.turned (t':=s.toks) (λb o hb e=>(sb.2 b hb).trans e) O Q R S T;obtain⟨o,e,c,d⟩:=id l;exact⟨u,rfl,Yu (s:={ s with heap:=m }) e c d (by decide) ⟨x,H,I1,ru,⟨rfl,λys hy=>by rw[I.list_inj hy B];exact L⟩,l,λb hb=>(A b hb).1⟩⟩
 done:=by
  intro X C hw G U i Y s Z H E I A st J;subst C hw G;obtain⟨xs,B,L⟩:=J;obtain⟨j',N,p,hz⟩:=I.list B;obtain⟨O,Q,f2,R,S,T⟩:=A it (by simp);have hl:=N.length
  exact wpAny_pyNext_list_end (I.ok.hd U) st p.isList (by simp;lia) λm eb=>⟨rfl,I.turned (t':=s.toks) (λb o hb e=>eb b o hb e) O Q R S T⟩
 self:=λ_ _ _ _ _ st h=>wpAny_pyIter_listiter st h
def Z2{P}{w}{K}{tg}(a it:AT):VC P w K tg (Itt K a) [it] it (λi h=>h.IsTupleIter it a i) where
 mem:=by simp
 obj:=λi h st b hb=>by
  have e:b=it:=by simpa using hb
  subst e;obtain⟨o,e,c,d⟩:=st;exact⟨o,e,λv z=>by rw[d]at z;cases z⟩
 keep:=λi h m st k=>st.at λo e=>k it (by simp) o e
 item:=by
  intro X C hw G Y i Z s σ H E I A st J;subst C hw G;obtain⟨xs,x,B,L⟩:=J;obtain⟨N,O,p,hz⟩:=I.tuple B;obtain⟨u,hu,ru⟩:=O.get L;obtain⟨Q,R,f2,S,T,U⟩:=A it (by simp)
  refine wpAny_pyNext_tuple_item st (show s.heap.IsTuple a N.toArray from p) (x:=u) (by simpa using hu) λm l sb=>?_
  have I1:Inv X Z σ H { s with heap:=m }:=I.turned (t':=s.toks) (λb o hb e=>(sb.2 b hb).trans e) Q R S T U;obtain⟨o,e,c,d⟩:=id l;exact⟨u,rfl,Yu (s:={ s with heap:=m }) e c d (by decide) ⟨x,H,I1,ru,⟨rfl,λys hy=>by rw[I.tuple_inj hy B];exact L⟩,l,λb hb=>(A b hb).1⟩⟩
 done:=by
  intro X C hw G Y i Z s σ H E I A st J;subst C hw G;obtain⟨xs,B,L⟩:=J;obtain⟨N,O,p,hz⟩:=I.tuple B;obtain⟨Q,R,f2,S,T,U⟩:=A it (by simp);have hl:=O.length
  exact wpAny_pyNext_tuple_end (I.ok.hd Y) st (show s.heap.IsTuple a N.toArray from p) (by simp;lia) λm eb=>⟨rfl,I.turned (t':=s.toks) (λb o hb e=>eb b o hb e) Q R S T U⟩
 self:=λ_ _ _ _ _ st h=>wpAny_pyIter_tupleiter st h
def Z3{P}{w}{K}{tg}(it:AT)(lo:Int)(n:Nat):VC P w K tg (Itr lo n) [it] it (λi h=>IsRangeIter h it (lo+(i:Nat) * 1) ((n:Int) - (i:Nat)) 1) where
 mem:=by simp
 obj:=λi h st b hb=>by
  have e:b=it:=by simpa using hb
  subst e
  exact⟨_,st,λv z=>by
   have U:bf _=lH v:=z
   cases U⟩
 keep:=λi h m st k=>k it (by simp) _ st
 item:=by
  intro X B hw C G i S s T H E I A st J;subst B hw C;obtain⟨L,N,Y,O,Q,R⟩:=A it (by simp);have W:=Walks.range (prog:=X.prog) (w:=X.w) (I.ok.hd G) it lo 1 n
  refine W.item i s _ _ J st λv m tk Z l kk=>?_
  obtain⟨t,rfl⟩:=Z;have I1:Inv X S T H { s with heap:=m,toks:=tk }:=I.turned (λb o hb e=>kk b o (by simpa using hb) e) L N O Q R;refine⟨_,rfl,Yu (s:={ s with heap:=m,toks:=tk }) (n:="range_iterator") l rfl rfl (by decide) ⟨.int (lo+i),H,I1,⟨t,?_⟩,⟨rfl,rfl⟩,l,λb hb=>(A b hb).1⟩⟩;rw[Int.mul_one]
 done:=by
  intro X B hw C G i S s T H E I A st J;subst B hw C;obtain⟨L,N,Y,O,Q,R⟩:=A it (by simp)
  exact wpAny_pyNext_range_end (I.ok.hd G) st (by have:n<=i:=J;lia) λm eb=>⟨rfl,I.turned (t':=s.toks) (λb o hb e=>eb b o hb e) L N O Q R⟩
 self:=λ_ _ _ _ _ st h=>wpAny_pyIter_rangeiter st h
section
variable{X:Cx}
def wG(K:AE)(m:TE):TI:=λo H R=>m o H λx l=>∃a,x=.ref a/\(∃s,SqL K l a s)/\R (Itl K a) l
def iTup(K:AE)(m:TE):TI:=λo H R=>m o H λx l=>∃a,x=.ref a/\(∃s,SqT K l a s)/\R (Itt K a) l
def nP{l}{B}(C:PE X l B):PI X tg l (wG X.K B):=by
 intro E s G H R I h
 refine thn (C E s G H _ I h) λv m ⟨x,J,A,L,N⟩=>?_
 obtain⟨a,e,⟨P,O⟩,q⟩:=N;subst e;cases L;obtain⟨Q,S,p,T⟩:=A.list O;refine uL p.isList ?_;refine⟨m.heap.objs.size,[m.heap.objs.size],_,_,J,rfl,A.kept (t':=m.toks) λb o e=>AR _ e,dj a _,⟨_,Al _ rfl,rfl,rfl⟩,λb hb=>?_,q⟩
 have e:b=m.heap.objs.size:=by simpa using hb
 subst e;exact A.fpOk (AO _) (A.hok.fresh (AO _))
def re{l}{B}(C:PE X l B):PI X tg l (iTup X.K B):=by
 intro E s G H R I h
 refine thn (C E s G H _ I h) λv m ⟨x,J,A,L,N⟩=>?_
 obtain⟨a,e,⟨Q,O⟩,q⟩:=N;subst e;cases L;obtain⟨P,S,p,T⟩:=A.tuple O;refine IH (show m.heap.IsTuple a P.toArray from p) ?_;refine⟨m.heap.objs.size,[m.heap.objs.size],_,_,J,rfl,A.kept (t':=m.toks) λb o e=>AR _ e,Z2 a _,⟨_,Al _ rfl,rfl,rfl⟩,λb hb=>?_,q⟩
 have e:b=m.heap.objs.size:=by simpa using hb
 subst e;exact A.fpOk (AO _) (A.hok.fresh (AO _))
def YT{l}{σ}{H}{s}{R}{E}{lo hi}{t u v}{tk}(I:Inv X l σ H s)(B:-(2 ^ 62)<=lo)(C:lo < 2 ^ 62)(G:-(2 ^ 62)<=hi)(J:hi < 2 ^ 62)
  (q:R (Itr lo (hi - lo).toNat) H):Am (Ag X.prog X.w) X.A (gV (.ref s.heap.objs.size)) (PIE X l σ tg R) E { s with heap:=s.heap.push { cls:=.type "range",data:=.fields #[.int lo t,.int hi u,.int 1 v] },toks:=tk }:=by
 refine wpAny_pyIter_range (IsRange.new ..) (small_one B C G J) ?_
 have m:Inv X l σ H { s with heap:=s.heap.push { cls:=.type "range",data:=.fields #[.int lo t,.int hi u,.int 1 v] },toks:=tk }:=I.kept λb o e=>AR _ e
 refine⟨(s.heap.push { cls:=.type "range",data:=.fields #[.int lo t,.int hi u,.int 1 v] }).objs.size,[(s.heap.push { cls:=.type "range",data:=.fields #[.int lo t,.int hi u,.int 1 v] }).objs.size],_,_,H,rfl,
  m.kept (t':=tk) λb o e=>AR _ e,Z3 _ lo (hi - lo).toNat,?_,λb hb=>?_,q⟩
 ·have L:lo+((0:Nat):Int) * 1=lo:=by simp
  have N:(((hi - lo).toNat:Nat):Int) - ((0:Nat):Int)=ur lo hi 1:=by rw[rangeSize_one];split <;> lia
  show IsRangeIter _ _ (lo+((0:Nat):Int) * 1) ((((hi - lo).toNat:Nat):Int) - ((0:Nat):Int)) 1;rw[L,N];exact Al _ rfl
 ·have e:b=(s.heap.push { cls:=.type "range",data:=.fields #[.int lo t,.int hi u,.int 1 v] }).objs.size:=by simpa using hb
  subst e;exact m.fpOk (AO _) (m.hok.fresh (AO _))
def wD(l:TA):TI:=λm H R=>l m H λo s=>∃j:Int,o=[.int j]/\-(2 ^ 62)<=j/\j < 2 ^ 62/\R (Itr 0 j.toNat) s
def wC(l:TA):TI:=λm H R=>l m H λo s=>∃i j:Int,o=[.int i,.int j]/\(-(2 ^ 62)<=i/\i < 2 ^ 62/\-(2 ^ 62)<=j/\j < 2 ^ 62)/\R (Itr i (j - i).toNat) s
def eZ{a}{m}{p pos}(o:Gl X "range") (A:X.mg "range" = none) (B:PA X [a] m) (C:AY [a] X.env=[(false,Cd a X.env)]:=by rfl):PI X tg (.Call (.Name "range" p) [a] [] pos) (wD m):=by
 intro E s G H R I h;refine Call_ (PN I o A boot_range (Dj (thn (B pos E s G H _ I h) λP Q ⟨S,T,J,L,l⟩=>?_) C rfl));obtain⟨j,e,l,N,q⟩:=l;subst e
 cases L with
 | cons r O=>
  cases O;obtain⟨t,rfl⟩:=r;exact call_range_1 (YT J (by lia) (by lia) l N (by simpa using q))
def eY(A:Gl X "range") (B:X.mg "range" = none) (C:PA X [a,b] E) (G:AY [a,b] X.env=[(false,Cd a X.env),(false,Cd b X.env)]:=by rfl) (o:AY [b] X.env=[(false,Cd b X.env)]:=by rfl) :
  PI X tg (.Call (.Name "range" p) [a,b] [] pos) (wC E):=by
 intro J s L H R I h;refine Call_ (PN I A B boot_range (Dj (thn (C pos J s L H _ I h) λU Y ⟨Z,H1,N,O,l⟩=>?_) (by rw[G,o]) (by rw[o];rfl)));obtain⟨i,j,e,⟨l,P,Q,S⟩,q⟩:=l;subst e
 cases O with
 | cons r m=>
  cases m with
  | cons T m=>
   cases m;obtain⟨t,rfl⟩:=r;obtain⟨t',rfl⟩:=T;exact call_range_2 (YT N l P Q S q)
def tFor(C:TI)(g:TG)(E:TS):TS:=λD l H=>C l H λJ G=>∃W:Nat->Nat->St->Hp->Prop,(∃m,W 0 m l G)/\∀i m l H,W i m l H ->
 (J.stop i H/\D.nx l H)∨(J.go i H/\∃N:St->Hp->Prop,(∀o s,N o s->∃B,B < m/\W (i+1) B o s)/\∀x s,J.yld i H x s->g x l s λA I=>E { D with nx:=N,ct:=N,bk:=D.nx } A I)
def TZ(fp:List AT)(h:DA):List (AT×Obj):=fp.filterMap λb=>(h.get? b).map λo=>(b,o)
def Ma(hb:b∈fp)(e:h.get? b=some o):(b,o)∈TZ fp h:=gM.mpr ⟨b,hb,by rw[e];rfl⟩
def ei(l:p∈TZ fp h):p.1∈fp/\h.get? p.1=some p.2:=by
 obtain⟨b,hb,e⟩:=gM.mp l
 cases q:h.get? b with
 | none=>rw[q]at e;cases e
 | some o=>
  rw[q]at e;have m:(b,o)=p:=B2 e;subst m;exact⟨hb,q⟩
def Inv.pinned(I:Inv X l σ H s)(A:∀b∈fp,Pa X l H b)(ho:∀b∈fp,∃o,s.heap.get? b=some o/\∀v,o.data≠.cell v):Inv X (l++TZ fp s.heap) σ H s:=
 I.pins_of λp B=>(Av.mp B).elim (λz=>I.pin p (Ba _ z)) λz=>by
  obtain⟨hb,e⟩:=ei z;obtain⟨C,E,G,_⟩:=A p.1 hb;obtain⟨o,m,d⟩:=ho p.1 hb;rw[e]at m;cases m;exact⟨e,C,E,G,d⟩
def Inv.unpinned(I:Inv X (l++pl) σ H s):Inv X l σ H s:=I.pins_of λp m=>I.pin p (Ba _ (BL _ m))
def rY(P:RH (Ag X.prog X.w) X.A X.env X.xe)(hc:X.calm=true)(hi:PI X tg iter wi)(hg:PG X tg g)(hb:PSs X body tb)
  (hs:∀x,Gq iter X.env x=pure x:=by intro _;rfl):PS X (.For tg iter body [] pos) (tFor wi g tb):=by
 intro O s σ H D I h;refine wpAny_For (thn (hi O s σ H _ I h) λv s1 h1=>thn h1 λitv s2 h2=>?_) hs;obtain⟨it,Q,tn,J,H2,e,I2,T,vp,f2,W,⟨m0,w0⟩,turn⟩:=h2;subst e
 have Z:∀{H':Hp},(∀b∈Q,H' b=none)->∀b∈Q,Pa X O H' b:=λhn b hb=>⟨hn b hb,(f2 b hb).2⟩
 refine codeAny_forLoop_any (λn s'=>∃i B H',Inv X O B H' s'/\tn i s'.heap/\(∀b∈Q,H' b=none)/\W i n B H') ?_ m0 ⟨0,σ,H2,I2,vp,λb hb=>(f2 b hb).1,w0⟩;rintro n s3 ⟨i,C,Y,I3,yA,R,w3⟩
 rcases turn i n C Y w3 with⟨S,qn⟩ | ⟨go,N,hN,step⟩
 ·refine GU P (thn (T.done X rfl rfl rfl hc i O s3 C Y X.xe I3 (Z R) yA S) λr s4 ⟨hr,I4⟩=>?_)
  subst hr;exact Kk ⟨C,Y,I4,qn⟩
 ·refine GU P (thn (T.item X rfl rfl rfl hc i O s3 C Y X.xe I3 (Z R) yA go) λr s4 ⟨u,hr,h4⟩=>?_)
  subst hr;refine GU P (thn h4 λ_ s5 ⟨x,H5,I5,r5,y5,zz,fr5⟩=>?_);have I5':=I5.pinned (Z fr5) (T.obj _ _ zz);refine GU P (thn (hg _ s5 C H5 x u _ I5' r5 (step x H5 y5)) λ_ s6 ⟨σ6,H6,I6,q6⟩=>?_);refine GU P (thn (hb _ s6 σ6 H6 _ I6 q6) λf s7 L=>?_)
  have uQ:∀{l:St} {E:Hp},Inv X (O++TZ Q s5.heap) l E s7->N l E->∃m,m < n/\∃i B H',Inv X O B H' s7/\tn i s7.heap/\(∀b∈Q,H' b=none)/\W i m B H':=λ{l E} G U=>by
   obtain⟨m',hm,w7⟩:=hN l E U;refine⟨m',hm,i+1,l,E,G.unpinned,T.keep _ _ _ zz λb hb o e=>(G.pin (b,o) (Ba _ (Ba _ (Ma hb e)))).1,λb hb=>?_,w7⟩;obtain⟨o,e,d⟩:=T.obj _ _ zz b hb;exact(G.pin (b,o) (Ba _ (Ba _ (Ma hb e)))).2.1
  cases f with
  | next=>obtain⟨l,E,G,U⟩:=L;exact uQ G U
  | cont=>obtain⟨l,E,G,U⟩:=L;exact uQ G U
  | brk=>obtain⟨l,E,G,L⟩:=L;exact⟨l,E,G.unpinned,L⟩
  | ret v=>obtain⟨x7,l,E,G,r7,L⟩:=L;exact⟨x7,l,E,G.unpinned,r7,L⟩
end
abbrev R2:=V->V->Hp->VK->Prop
def OpR(X:Cx)(f:AI->AI->Sem AI)(r:R2):Prop:=
 ∀(l:List (AT×Obj)) (s:AK) (m:St) (H:Hp) (x y:V) (v u:AI) (Q:VK),Inv X l m H s->RelV x v->RelV y u->r x y H Q ->
  Am (Ag X.prog X.w) X.A (f v u) (EP X l m Q) X.xe s
def UnR(X:Cx)(f:AI->Sem AI)(r:V->Hp->VK->Prop):Prop:=
 ∀(l:List (AT×Obj)) (s:AK) (m:St) (H:Hp) (x:V) (v:AI) (Q:VK),Inv X l m H s->RelV x v->r x H Q ->
  Am (Ag X.prog X.w) X.A (f v) (EP X l m Q) X.xe s
def JU(X:Cx)(f:AI)(r:List V->Hp->VK->Prop):Prop:=
 ∀(l:List (AT×Obj)) (s:AK) (m:St) (H:Hp) (o:List V) (B:List AI) (Q:VK),Inv X l m H s->CQ o B->r o H Q ->
  Am (Ag X.prog X.w) X.A (call f B) (EP X l m Q) X.xe s
def TruR(X:Cx)(r:V->Hp->(Bool->Hp->Prop)->Prop):Prop:=
 ∀(l:List (AT×Obj)) (s:AK) (m:St) (H:Hp) (x:V) (v:AI) (Q:Bool->Hp->Prop),Inv X l m H s->RelV x v->r x H Q ->
  Am (Ag X.prog X.w) X.A (truthy v) (TP X l m Q) X.xe s
def tOp(r:R2)(m o:TE):TE:=λl H Q=>m l H λx s=>o l s λy A=>r x y A Q
def tUn(r:V->Hp->VK->Prop)(l:TE):TE:=λm H Q=>l m H λx o=>r x o Q
def rI(C:Int->Int->Prop)(g:Int->Int->V):R2:=λx y H Q=>∃i j,x=.int i/\y=.int j/\C i j/\Q (g i j) H
def rI0(g:Int->Int->V):R2:=λx y H Q=>∃i j,x=.int i/\y=.int j/\Q (g i j) H
def rU(g:Int->V):V->Hp->VK->Prop:=λx H Q=>∃i,x=.int i/\Q (g i) H
section
variable{X:Cx}{a b:Expr}{ta tb:TE}{pos:Pos}
def uE(G:PE X a ta)(hb:PE X b tb){B:List (AT×Obj)}{s:AK}{σ:St}{H:Hp}{R:V->V->Hp->Prop}(I:Inv X B σ H s)
  (h:ta σ H λx E=>tb σ E λy l=>R x y l) {Q:AI->AK->Prop} {f:AI->AI->Sem AI}
  (J:∀v u C x y l,Inv X B σ l C->RelV x v->RelV y u->R x y l->Am (Ag X.prog X.w) X.A (f v u) Q X.xe C) :
  Am (Ag X.prog X.w) X.A (Cd a X.env) (λv m=>Am (Ag X.prog X.w) X.A (Cd b X.env) (λu o=>Am (Ag X.prog X.w) X.A (f v u) Q X.xe o) X.xe m) X.xe s:=by
 refine thn (G B s σ H _ I h) λv L ⟨x,E,N,O,P⟩=>?_
 refine thn (hb B L σ E _ N P) λu C ⟨y,l,S,T,U⟩=>?_
 exact J v u C x y l S O T U
def vU{op:Operator}{r:R2}(ho:OpR X (DM op) r)(l:PE X a ta)(hb:PE X b tb):PE X (.BinOp a op b pos) (tOp r ta tb):=by
 intro m s o H Q I h;exact wpAny_BinOp (uE l hb I h λv u A x y B C E G q=>ho m A o B x y v u Q C E G q)
def vS(ho:UnR X (unaryOp op) r)(o:PE X a ta):PE X (.UnaryOp op a pos) (tUn r ta):=by
 intro l s m H Q I h;exact UnaryOp_ (thn (o l s m H _ I h) λv A ⟨x,B,C,E,G⟩=>ho l A m B x v Q C E G)
def opI{f:AI->AI->Sem AI}{C:Int->Int->Prop}{g:Int->Int->Int}
  (rule:∀(i j:Int) (t u:Tok) (s:AK) (Q:AI->AK->Prop) (E:AI->AK->Prop),C i j->Q (.int (g i j) s.toks) { s with toks:=s.toks+1 }->Am (Ag X.prog X.w) X.A (f (.int i t) (.int j u)) Q E s) :
  OpR X f (rI C λi j=>.int (g i j)):=by
 intro G s J H x y v u Q I l m h;obtain⟨i,j,rfl,rfl,o,q⟩:=h;obtain⟨t,rfl⟩:=l;obtain⟨B,rfl⟩:=m;exact rule i j t B s _ _ o ⟨.int (g i j),H,I.tok _,⟨_,rfl⟩,q⟩
def sV{f:AI->AI->Sem AI}{g:Int->Int->Int}
  (rule:∀(i j:Int) (t u:Tok) (s:AK) (Q:AI->AK->Prop) (E:AI->AK->Prop),Q (.int (g i j) s.toks) { s with toks:=s.toks+1 }->Am (Ag X.prog X.w) X.A (f (.int i t) (.int j u)) Q E s) :
  OpR X f (rI0 λi j=>.int (g i j)):=by
 intro B s C H x y v u Q I l m h;obtain⟨i,j,rfl,rfl,q⟩:=h;obtain⟨t,rfl⟩:=l;obtain⟨o,rfl⟩:=m;exact rule i j t o s _ _ ⟨.int (g i j),H,I.tok _,⟨_,rfl⟩,q⟩
def oA{f:AI->AI->Sem AI}{g:Int->Int->Bool}
  (rule:∀(i j:Int) (t u:Tok) (s:AK) (Q:AI->AK->Prop) (E:AI->AK->Prop),Q (.bool (g i j)) s->Am (Ag X.prog X.w) X.A (f (.int i t) (.int j u)) Q E s) :
  OpR X f (rI0 λi j=>.bl (g i j)):=by
 intro B s C H x y v u Q I l m h;obtain⟨i,j,rfl,rfl,q⟩:=h;obtain⟨t,rfl⟩:=l;obtain⟨o,rfl⟩:=m;exact rule i j t o s _ _ ⟨.bl (g i j),H,I,rfl,q⟩
def k9(i j:Int):Prop:=0 < j/\j < 1073741824
def kz(i j:Int):Prop:=0<=j/\j<=1000000/\i.natAbs < 2 ^ 64
def bR(i j:Int):Prop:=(-(2 ^ 64) < i/\i < 2 ^ 64)∨(-(2 ^ 64) < j/\j < 2 ^ 64)
def bR.ok(h:bR i j):IntMulOk i j:=by
 rcases h with⟨l,m⟩ | ⟨l,m⟩
 ·exact .of_left (intBits_le_64 l m)
 ·exact .of_right (intBits_le_64 l m)
def Z1(k:Nat):(0:Int)<=2 ^ k:=by
 rw[two_pow_cast];exact Kn _
def sU:OpR X (DM .Add) (rI0 λi j=>.int (i+j)):=sV λ_ _ _ _ _ _ _ q=>add_int q
def sL:OpR X (DM .Sub) (rI0 λi j=>.int (i - j)):=sV λ_ _ _ _ _ _ _ q=>sub_int q
def sP:OpR X (DM .Mult) (rI bR λi j=>.int (i * j)):=opI λ_ _ _ _ _ _ _ l q=>mul_int q l.ok
def nz:OpR X (DM .FloorDiv) (rI k9 λi j=>.int (i / j)):=opI λi j _ _ _ _ _ l q=>by
 have m:(0:Int) < j:=l.1;have o:j < 1073741824:=l.2;exact floordiv_int (by lia) (by rw[WG i (by lia)];exact q) (.inl (PyProof.noPylong_small (by omega)))
def sQ:OpR X (DM .Mod) (rI (λ_ j=>0 < j) λi j=>.int (i % j)):=opI λi j _ _ _ _ _ l q=>by
 have m:(0:Int) < j:=l;exact mod_int' (by lia) (by rw[Int.fmod_eq_emod_of_nonneg i (by lia)];exact q)
def sO:OpR X (DM .LShift) (rI kz λi j=>.int (i * 2 ^ j.toNat)):=opI λ_ _ _ _ _ _ _ l q=>lshift_int_small l.1 l.2.1 l.2.2 q
def sM:OpR X (DM .RShift) (rI (λ_ j=>0<=j) λi j=>.int (i / 2 ^ j.toNat)):=opI λi j _ _ _ _ _ l q=>
 rshift_int l (by rw[WG i (Z1 _)];exact q)
def sT:OpR X (DM .BitAnd) (rI0 λi j=>.int (Bi i j)):=sV λ_ _ _ _ _ _ _ q=>and_int q
def unI{f:AI->Sem AI}{g:Int->Int}
  (rule:∀(i:Int) (t:Tok) (s:AK) (Q:AI->AK->Prop) (E:AI->AK->Prop),Q (.int (g i) s.toks) { s with toks:=s.toks+1 }->Am (Ag X.prog X.w) X.A (f (.int i t)) Q E s) :
  UnR X f (rU λi=>.int (g i)):=by
 intro m s o H x v Q I l h;obtain⟨i,rfl,q⟩:=h;obtain⟨t,rfl⟩:=l;exact rule i t s _ _ ⟨.int (g i),H,I.tok _,⟨_,rfl⟩,q⟩
def qu:UnR X (unaryOp .USub) (rU λi=>.int (-i)):=unI λ_ _ _ _ _ q=>neg_int q
end
section
variable{X:Cx}{a b c:Expr}{ta tb tc:TE}{pos:Pos}
def vX:OpR X (CS .Lt) (rI0 λi j=>.bl (decide (i < j))):=oA λ_ _ _ _ _ _ _ q=>lt_int q
def vY:OpR X (CS .LtE) (rI0 λi j=>.bl (decide (i<=j))):=oA λ_ _ _ _ _ _ _ q=>le_int q
def vZ:OpR X (CS .Gt) (rI0 λi j=>.bl (decide (j < i))):=oA λ_ _ _ _ _ _ _ q=>gt_int q
def vb:OpR X (CS .GtE) (rI0 λi j=>.bl (decide (j<=i))):=oA λ_ _ _ _ _ _ _ q=>ge_int q
def OpR.or(h:OpR X f r)(h':OpR X f B):OpR X f (λx y H Q=>r x y H Q∨B x y H Q):=by
 intro l s m H x y v u Q I o A q
 rcases q with q | q
 ·exact h l s m H x y v u Q I o A q
 ·exact h' l s m H x y v u Q I o A q
def CT(b:Expr)(h:op≠.In:=by decide)(l:op≠.NotIn:=by decide):Cq op b=false:=by
 have m:(op==CmpOp.In)=false:=by cases op <;> first | rfl | exact zX rfl h
 have o:(op==CmpOp.NotIn)=false:=by cases op <;> first | rfl | exact zX rfl l
 cases b <;> simp[Cq,m,o]
def nh{op:CmpOp}{r:R2}(ho:OpR X (CS op) r)(l:PE X a ta)(hb:PE X b tb)(m:Cq op b=false):PE X (.Compare a [op] [b] pos) (tOp r ta tb):=by
 intro o s A H Q I h;exact wpAny_Compare1 (uE l hb I h λv u B x y C E G J q=>ho o B A C x y v u Q E G J q) m
def pz(t:TE):TT:=λl H Q=>t l H λx m=>∃k,x=.bl k/\Q k m
def nI(ho:OpR X (CS op) r)(o:PE X a ta)(hb:PE X b tb)(A:Cq op b=false):PT X (.Compare a [op] [b] pos) (pz (tOp r ta tb)):=by
 intro l s m H Q I h
 refine lA (thn (o l s m H _ I h) λv B ⟨x,C,E,G,J⟩=>thn (hb l B m C _ E J) λu L ⟨y,N,O,P,R⟩=>
  thn (ho l L m N x y v u _ O G P R) λc Z ⟨z,S,T,U,k,e,Y⟩=>?_) A
 subst e;cases U;exact DC ⟨S,T,Y⟩
def iK(r o:R2)(ta tb tc:TE):TE:=λl H Q=>ta l H λx s=>tb l s λy A=>r x y A λz m=>∃k,z=.bl k /\
 (if k=true then tc l m λw' B=>o y w' B Q else Q (.bl false) m)
def ik(ho:OpR X (CS op) r)(G:OpR X (CS l) J)(L:PE X a ta)(hb:PE X b tb)(N:PE X c tc)
  (O:lastMarks [op,l] [b,c]=false:=by with_unfolding_all rfl):PT X (.Compare a [op,l] [b,c] pos) (pz (iK r J ta tb tc)):=by
 intro m s o H Q I h
 refine isTrue_chain (thn (L m s o H _ I h) λv P ⟨x,R,S,T,U⟩=>test_link (thn (hb m P o R _ S U) λu Y ⟨y,Z,I2,A,q2⟩=>
  thn (ho m Y o Z x y v u _ I2 T A q2) λd s3 ⟨z,B,C,r3,k,e,E⟩=>?_)) O
 subst e;cases r3;refine DC ?_
 cases k with
 | false=>
  obtain⟨k',e',q'⟩:=E;cases e';exact ite_ff ⟨B,C,q'⟩
 | true=>
  refine ite_tt (test_last (thn (N m s3 o B _ C E) λw' s4 ⟨z',H4,I4,r4,q4⟩=>thn (G m s4 o H4 y z' u w' _ I4 A r4 q4) λd' s5 ⟨z2,H5,I5,r5,k2,e2,q5⟩=>?_));subst e2;cases r5;exact DC ⟨H5,I5,q5⟩
def uH(K:AE)(x:V)(H:Hp)(k:Bool):Prop:=
 match x with
 | .non=>k=false
 | .bl b=>k=b
 | .int i=>k=(i != 0)
 | .str y=>y.length<=sizeLine/\k=((y.length:Int) != 0)
 | .byt y=>y.size<=sizeLine/\k=((y.size:Int) != 0)
 | .ref p=>(∃l,SqL K H p l/\k = !l.isEmpty)∨(∃l,SqT K H p l/\k = !l.isEmpty)∨∃m,H p=some (.dK m)/\k = !m.isEmpty
 | _=>False
def ak{l:Type}{m:List (l×V)}{vs:List (l×AI)}(r:KV m vs):(!vs.isEmpty) = !m.isEmpty:=by
 cases r <;> rfl
def UA(r:CQ xs l):(!l.toArray.isEmpty) = !xs.isEmpty:=by
 cases r <;> simp
def Q0:(sizeLine:Nat) < 2 ^ 63:=by rw[lO];decide
def qz:TruR X (λx H Q=>∃k,uH X.K x H k/\Q k H):=by
 intro R s S H x v Q I B h;obtain⟨k,e,q⟩:=h;have T:=Q0;have U:sizeLine=16777216:=lO
 cases x with
 | non=>
  cases B;have l:k=false:=e;subst l;exact truthy_none ⟨H,I,q⟩
 | bl b=>
  cases B;have l:k=b:=e;subst l;exact DC ⟨H,I,q⟩
 | int i=>
  obtain⟨t,rfl⟩:=B;have l:k=(i != 0):=e;subst l;exact PySem.P.truthy_int ⟨H,I,q⟩
 | str y=>
  obtain⟨t,rfl⟩:=B;obtain⟨L,l⟩:y.length<=sizeLine/\k=((y.length:Int) != 0):=e;subst l;exact PySem.P.truthy_str (by lia) ⟨H,I.tok _,q⟩
 | byt y=>
  obtain⟨t,rfl⟩:=B;obtain⟨L,l⟩:y.size<=sizeLine/\k=((y.size:Int) != 0):=e;subst l;exact PySem.W.truthy_bytes (by lia) ⟨H,I.tok _,q⟩
 | ref p=>
  cases B
  have l:(∃A,SqL X.K H p A/\k = !A.isEmpty)∨(∃A,SqT X.K H p A/\k = !A.isEmpty)∨∃C,H p=some (.dK C)/\k = !C.isEmpty:=e
  rcases l with⟨A,E,l⟩ | ⟨A,E,l⟩ | ⟨C,E,l⟩
  ·subst l
   obtain⟨N,r,G,J⟩:=I.list E;have o:=r.length;exact wpAny_truthy_list G.isList (by simp only[Ax];lia) ⟨H,I.tok _,by rw[UA r];exact q⟩
  ·subst l
   obtain⟨N,r,G,J⟩:=I.tuple E;have o:=r.length;exact truthy_tuple G (by simp only[Ax];lia) ⟨H,I.tok _,by rw[UA r];exact q⟩
  ·subst l
   obtain⟨J,O,vs,r,m⟩:C.length<=sizeLine/\(p==D7)=false/\∃vs,KV C vs/\s.heap.DictOf (Es X.prog X.w) p vs:=I.hok p _ E
   have o:C.length=vs.length:=FQ r;exact wpAny_truthy_dict O m (by lia) ⟨H,I.tok _,by rw[ak r];exact q⟩
 | _=>exact(show False from e).elim
def ii(A:PE X a ta)(B:∀l,qN a X.env l=(do let v <-l;uN a.pos;ZG [v] (truthy v))) :
  PT X a (λσ H Q=>ta σ H λx m=>∃k,uH X.K x m k/\Q k m):=by
 intro o s σ H Q I h;exact isTrue_plain (thn (A o s σ H _ I h) λv C ⟨x,E,G,J,L⟩=>qz o C σ E x v Q G J L) (B _)
def vals1(r:CQ [x] us):∃u,us=[u]/\RelV x u:=by
 cases r with
 | cons l m=>cases m;exact⟨_,rfl,l⟩
def vals2(r:CQ [x,y] us):∃u w',us=[u,w']/\RelV x u/\RelV y w':=by
 cases r with
 | cons l m=>
  cases m with
  | cons o s=>cases s;exact⟨_,_,rfl,l,o⟩
def fm(m:X.calm=true):JU X (.builtin "max") (λxs H Q=>∃i j,xs=[.int i,.int j]/\Q (.int (if j > i then j else i)) H):=by
 intro o s A H xs B Q I r h;obtain⟨i,j,rfl,q⟩:=h;obtain⟨u,w',rfl,⟨t,rfl⟩,⟨C,rfl⟩⟩:=vals2 r
 refine max_two_ints (I.ok.hd m) λE tk k=>⟨_,H,I.kept k,?_,q⟩
 by_cases l:j > i
 ·rw[qX l,qX l];exact⟨_,rfl⟩
 ·rw[qY l,qY l];exact⟨_,rfl⟩
def fj(m:X.calm=true):JU X (.builtin "min") (λxs H Q=>∃i j,xs=[.int i,.int j]/\Q (.int (if j < i then j else i)) H):=by
 intro o s A H xs B Q I r h;obtain⟨i,j,rfl,q⟩:=h;obtain⟨u,w',rfl,⟨t,rfl⟩,⟨C,rfl⟩⟩:=vals2 r
 refine min_two_ints (I.ok.hd m) λE tk k=>⟨_,H,I.kept k,?_,q⟩
 by_cases l:j < i
 ·rw[qX l,qX l];exact⟨_,rfl⟩
 ·rw[qY l,qY l];exact⟨_,rfl⟩
def fo:JU X (.type "int") (λxs H Q=>(∃i,xs=[.int i]/\Q (.int i) H)∨∃k,xs=[.bl k]/\Q (.int (if k then 1 else 0)) H):=by
 intro m s o H xs A Q I r h
 rcases h with⟨i,rfl,q⟩ | ⟨k,rfl,q⟩
 ·obtain⟨u,rfl,t,rfl⟩:=vals1 r
  exact call_int_int ⟨.int i,H,I,⟨_,rfl⟩,q⟩
 ·obtain⟨u,rfl,l⟩:=vals1 r
  cases l;exact call_int_bool ⟨.int (if k then 1 else 0),H,I.tok _,⟨_,rfl⟩,q⟩
end
structure bN(h:DA)(x dx C:AT)(mA:Str->Option AI):Prop where
 obj:h.get? x=some (EZ C dx)
 ns:h.Ns1 dx mA
 ne:dx≠x
def eu{h:DA}{l:AT}{m:Str->Option AI}(n:h.Ns1 l m):∃s,h.get? l=some s/\∀name,NO name s=some (m name):=by
 obtain⟨o,A,L,B,C,E,_,G⟩:=n;refine⟨o,B,λname=>?_⟩;have e:=G name;unfold nsFind findBy at e;rw[<-Array.find?_toList]at e;unfold NO;rw[C];dsimp only;split
 ·rename_i y q
  rw[q]at e;exact congrArg some e
 ·rename_i q
  rw[q]at e
  have a:A.toList.any (·.refKey)=false:=by
   rw[gd];intro y H;obtain⟨z,t,I⟩:=E y (Bj.mp H);simp[RO.refKey,I]
  have J:¬A.toList.any (·.refKey)=true:=by rw[a];exact AH
  rw[qY J];exact congrArg some e
def bN.look{h}{x m C}{o}(I:bN h x m C o):∃l,gX h x (EZ C m) C (some l)/\∀name,NO name l=some (o name):=
 let ⟨l,s,A⟩:=eu I.ns
 ⟨l,⟨I.obj,rfl,rfl,s⟩,A⟩
section
variable{prog:Bf}{w:CH}{A:Bs}{E:AI->AK->Prop}{s:AK}{K:AE}{x dx C f:AT}{mA:Str->Option AI}{name:Str}{v:AI}
def oi(X:K.In s.heap)(I:bN s.heap x dx C mA)(l:LK K C name=true)(m:Pl K C=true)
  (o:Cg K (.ref C) name=some none) (B:mA name=some v) (G:dQ v=true) (h:Q v { s with toks:=s.toks+1 }) :
  Am (Ag prog w) A (getAttr (.ref x) name expr) Q E s:=by
 obtain⟨L,J,H⟩:=I.look;exact PySem.W.get_value X J (OY l).1 (PySem.W.findObj_own m o rfl (by rw[H,B])) G h
def jx(X:K.In s.heap)(I:bN s.heap x dx C mA)(l:LK K C name=true)
  (m:Cg K (.ref C) name=some (some (.ref f))) (o:V7 K (.ref f)=true) (B:mA name=none) (h:Q (.ref f,[.ref x]) s) :
  Am (Ag prog w) A (fy (.ref x) name pl) Q E s:=by
 obtain⟨G,J,H⟩:=I.look;exact PySem.W.method_fn X J (OY l).1 (OY l).2 m (beq_iff_eq.mp o) (by show(NO name G).map (·.isSome)=some false;rw[H,B];rfl) h
def m9(X:K.In s.heap)(I:bN s.heap x dx C mA)
  (H:Cg K (.ref C) "__setattr__" = some (some (.builtin "object.__setattr__"))) (L:bU K C=true) (N:Rn K C name=some none) (O:Pl K C=true)
  (hw:Xi mA ns) (hsz:ns.length<=sizeLine)
  (h:∀h',bN h' x dx C (λy=>if y=name then some v else mA y)->FK dx s.heap h'->Q () { s with heap:=h',toks:=s.toks+2 }) :
  Am (Ag prog w) A (setAttr (.ref x) name v) Q E s:=by
 obtain⟨Y,J,Z⟩:=I.look;refine PySem.W.set_plain X J H (PySem.W.osa_open (s:={ s with toks:=s.toks+1 }) (r:=none) X J L N λb=>?_);obtain⟨cd,P,R⟩:=PySem.W.any_some O;have S:s.heap.get? x=some ⟨.ref C,some dx,.plain,#[]⟩:=I.obj;refine AB (AN (AB (AB (ZU S (AB (ug (s:={ s with toks:=s.toks+1 }) (PySem.W.looks_clsIn X P) ?_))))));rw[R];refine AN (a:=some dx) (AB (AN (AB ?_)))
 refine wpAny_nsSet1 (s:={ s with toks:=s.toks+1 }) I.ns λh' B G=>?_
 obtain⟨oD,T,U,l,m,o⟩:=B.count (wt name v hw);refine AB (wpAny_lookBehind l (by rw[m];exact pastItsLine_dict (Aw o (by rw[Aj];lia))) ?_);exact AN (h _ ⟨(G.2 _ (CF I.ne)).trans I.obj,B,I.ne⟩ G)
def jN(X:K.In s.heap)(o:gF K C=true)
  (hi:Cg K (.ref C) "__init__" = some (some (.ref f))) (B:Jh K (.ref f)=some (.type "function"))
  (h:Ox (Ag prog w) (A.under (.builtin "type.__call__" ⟨.ref C :: vs,m⟩)) (.call (.ref f) ⟨.ref (s.heap.objs.size+1) :: vs,m⟩) (PySem.W.InitBack (s.heap.objs.size+1) R)
   { s with heap:=(s.heap.push DI).push (EZ C s.heap.objs.size) }) :
  Ox (Ag prog w) A (.call (.ref C) ⟨vs,m⟩) R s:=by
 obtain⟨G,g,d,t,os⟩:=s;exact PySem.W.make_core (PySem.W.makes_of X o) (NN X hi) (λl=>PySem.W.bind_fn X l B) (.inl rfl) h
end
def putF(f:Str)(v:V):List (Str×V)->List (Str×V)
 | []=>[(f,v)]
 | (g,x) :: r=>if g=f then(g,v) :: r else(g,x) :: putF f v r
theorem Re(f g:Str)(v:V):∀fs:List (Str×V),(putF f v fs).lookup g=if g=f then some v else fs.lookup g
 | []=>by
  show JN g [(f,v)]=_
  by_cases h:g=f
  ·have hb:(g==f)=true:=beq_iff_eq.mpr h
   simp only[JN,hb,qX h]
  ·have hb:(g==f)=false:=beq_eq_false_iff_ne.mpr h
   simp only[JN,hb,qY h]
 | (k,x) :: r=>by
  have m:=Re f g v r;rw[show putF f v ((k,x) :: r)=(if k=f then(k,v) :: r else(k,x) :: putF f v r)from rfl]
  by_cases l:k=f
  ·rw[qX l]
   by_cases h:g=k
   ·have hb:(g==k)=true:=beq_iff_eq.mpr h
    simp only[JN,hb,qX (h.trans l)]
   ·have hb:(g==k)=false:=beq_eq_false_iff_ne.mpr h
    simp only[JN,hb,qY (λe:g=f=>h (e.trans l.symm))]
  ·rw[qY l]
   by_cases h:g=k
   ·have hb:(g==k)=true:=beq_iff_eq.mpr h
    simp only[JN,hb,qY (λe:g=f=>l (h.symm.trans e))]
   ·have hb:(g==k)=false:=beq_eq_false_iff_ne.mpr h
    simp only[JN,hb];exact m
theorem Q2(f:Str)(v:V):∀fs:List (Str×V),f∈(putF f v fs).map (·.1)/\∀g,g∈fs.map (·.1)->g∈(putF f v fs).map (·.1)
 | []=>⟨by simp[putF],λg h=>by simp at h⟩
 | (k,x) :: r=>by
  obtain⟨m,o⟩:=Q2 f v r;rw[show putF f v ((k,x) :: r)=(if k=f then(k,v) :: r else(k,x) :: putF f v r)from rfl]
  by_cases l:k=f
  ·rw[qX l]
   subst l;exact⟨by simp,λg h=>by simpa using h⟩
  ·rw[qY l]
   refine⟨?_,λg h=>?_⟩
   ·rw[As]
    exact AQ _ m
   ·rw[As]at h ⊢
    rcases Ai.mp h with e | e
    ·exact Ai.mpr (.inl e)
    ·exact AQ _ (o g e)
theorem Rg(f:Str)(v:V):∀fs:List (Str×V),(putF f v fs).length<=fs.length+1
 | []=>by simp[putF]
 | (k,x) :: r=>by
  have m:=Rg f v r;rw[show putF f v ((k,x) :: r)=(if k=f then(k,v) :: r else(k,x) :: putF f v r)from rfl]
  by_cases l:k=f
  ·rw[qX l,Aj,Aj];lia
  ·rw[qY l,Aj,Aj];lia
def Oe.some_of(r:Oe (some v) o):∃u,o=some u/\RelV v u:=by
 cases o with
 | none=>exact(show False from r).elim
 | some u=>exact⟨u,rfl,r⟩
def Oe.none_of(r:Oe none o):o=none:=by
 cases o with
 | none=>rfl
 | some u=>exact(show False from r).elim
def fG(r:RelV v u):dQ u=true:=by
 cases v with
 | non=>cases(show u=Bn from r);rfl
 | bl b=>cases(show u=M6 b from r);rfl
 | int i=>obtain⟨t,e⟩:=(show ∃t,u=Ri i t from r);cases e;rfl
 | str x=>obtain⟨t,e⟩:=(show ∃t,u=Rh x t from r);cases e;rfl
 | byt b=>obtain⟨t,e⟩:=(show ∃t,u=uS b t from r);cases e;rfl
 | flt b=>obtain⟨t,e⟩:=(show ∃t,u=Zf b t from r);cases e;rfl
 | ref a=>cases(show u=BB a from r);rfl
 | ty n=>cases(show u=Da n from r);rfl
section
variable{P:Bf}{w:CH}{H:Hp}{h:DA}{a C dx:AT}{fs:List (Str×V)}
def SN(m:HOk P w H h)(e:H a=some (.ins C dx fs)):∃l,bN h a dx C l/\(∀f,Oe (fs.lookup f) (l f))/\Xi l (fs.map (·.1))/\fs.length<=1000/\H dx=some (.own a):=by
 obtain⟨d,z,o,s,l,n,r,q⟩:=(show Ck P w H h a (.ins C dx fs)from m a _ e);exact⟨l,⟨s,n,o⟩,r,q,z,d⟩
end
structure Cls(K:AE)(C:AT):Prop where
 pg:LK K C ZI=true
 hd:Pl K C=true
 po:bU K C=true
 sa:Cg K (.ref C) "__setattr__" = some (some (.builtin "object.__setattr__"))
def Cls.get{K}{C}(c:Cls K C)(f:Str):LK K C f=true:=c.pg
def FW(K:AE)(C:AT)(f:Str):Prop:=Cg K (.ref C) f=some none
def FW.taker{K}{C}{f}(n:FW K C f):Rn K C f=some none:=by
 unfold Rn;rw[show Cg K (.ref C) f=some none from n];rfl
structure XV(K:AE)(C:AT)(m:Str)(f:AT):Prop where
 at_:Cg K (.ref C) m=some (some (.ref f))
 fn:V7 K (.ref f)=true
 kp:Ft K (.ref f)=true
section
variable{X:Cx}{ζ:List (AT×Obj)}{σ:St}{H:Hp}{s:AK}{a C dx:AT}{fs:List (Str×V)}{f:Str}{v:V}{A:Bs}{E:AI->AK->Prop}
def ao(I:Inv X ζ σ H s)(e:H a=some (.ins C dx fs))(c:Cls X.K C)(n:FW X.K C f)(l:fs.lookup f=some v)
  (h:∀u s',Inv X ζ σ H s'->RelV v u->Q u s'):Am (Ag X.prog X.w) A (getAttr (.ref a) f b) Q E s:=by
 obtain⟨B,O,r,_,_,_⟩:=SN I.hok e;obtain⟨u,G,m⟩:=Oe.some_of (v:=v) (o:=B f) (by rw[<-l];exact r f);exact oi I.kIn O (c.get f) c.hd n G (fG m) (h u _ (I.tok _) m)
def am(I:Inv X ζ σ H s)(e:H a=some (.ins C dx fs))(c:Cls X.K C)(k:XV X.K C m g)(l:fs.lookup m=none)
  (h:Q (.ref g,[.ref a]) s):Am (Ag X.prog X.w) A (fy (.ref a) m pl) Q E s:=by
 obtain⟨o,O,r,_,_,_⟩:=SN I.hok e;have B:o m=none:=Oe.none_of (by rw[<-l];exact r m);exact jx I.kIn O (c.get m) k.at_ k.fn B h
def aC(I:Inv X ζ σ H s)(e:H a=some (.ins C dx fs))(c:Cls X.K C)(n:FW X.K C f)(U:fs.length < 1000)(J:RelV y u)
  (h:∀s',Inv X ζ σ (upd H a (.ins C dx (putF f y fs))) s'->Q () s'):Am (Ag X.prog X.w) A (setAttr (.ref a) f u) Q E s:=by
 obtain⟨m,O,r,B,_,G⟩:=SN I.hok e
 have L:(fs.map (·.1)).length<=sizeLine:=by rw[AF,lO];lia
 refine m9 I.kIn O c.sa c.po n.taker c.hd B L λN l P=>h _ ?_
 have R:∃o,N.get? dx=some o:=let ⟨o,_,_,S,_⟩:=l.ns;⟨o,S⟩
 refine I.write (x:=a) (e:=dx) (by rw[e];exact FJ) (.inr G) (λb q hb z=>(P.2 b hb).trans z) R ?_;refine⟨by rw[Bb O.ne];exact G,?_,O.ne,l.obj,_,l.ns,λg=>?_,λg T=>?_⟩
 ·have:=Rg f y fs;lia
 ·show Oe ((putF f y fs).lookup g) (if g=f then some u else m g)
  rw[Re]
  by_cases q:g=f
  ·rw[qX q,qX q];exact J
  ·rw[qY q,qY q];exact r g
 ·by_cases q:g=f
  ·rw[q];exact(Q2 f y fs).1
  ·refine(Q2 f y fs).2 g (B g λz=>T ?_)
   show(if g=f then some u else m g)=none;rw[qY q];exact z
def Inv.made(I:Inv X ζ σ H s):Inv X ζ σ (upd (upd H s.heap.objs.size (.own (s.heap.objs.size+1))) (s.heap.objs.size+1) (.ins C s.heap.objs.size []))
  { s with heap:=(s.heap.push DI).push (EZ C s.heap.objs.size) }:=by
 have l:(s.heap.push DI).get? s.heap.objs.size=some DI:=Al s.heap rfl
 have B:((s.heap.push DI).push (EZ C s.heap.objs.size)).get? (s.heap.objs.size+1)=some (EZ C s.heap.objs.size):=by
  have:=Al (s.heap.push DI) (o:=EZ C s.heap.objs.size) rfl;rwa [E5]at this
 have G:(s.heap.push DI).Ns s.heap.objs.size (λ_=>none):=⟨DI,#[],_,l,rfl,(λe J=>zX J (by simp)),λ_=>rfl⟩;have L:=I.laid (a:=s.heap.objs.size) (o:=.own (s.heap.objs.size+1)) (h':=s.heap.push DI) (t':=s.toks) (λb u q=>AR _ q) (AO _) ⟨_,l⟩;refine L.laid (a:=s.heap.objs.size+1) (o:=.ins C s.heap.objs.size []) (t':=s.toks) (λb u q=>AR _ q) (Zj (E5 _ _)) ?_;have m:s.heap.objs.size≠s.heap.objs.size+1:=A0 (Dc _);refine⟨by rw[Bb m,CG],Dp _,m,B,λ_=>none,(DA.Ns1.of_empty G).at λo q=>AR _ q,λ_=>FJ,λy N=>zX rfl N⟩
def pP(hb:Gi e f env (Cd e env)=Cd e env)
  (h:Am (Ag prog w) A (Cd e env) (λo l=>Am (Ag prog w) A (getAttr o f true) Q E l) E s):Am (Ag prog w) A (Cd (.Attribute e f pos) env) Q E s:=
 Attribute_any_ h (by rw[arm_eval_Attribute,hb])
end
def tFld(K:AE)(m:TE)(f:Str):TE:=λo H Q=>m o H λx l=>∃a C s fs v,x=.ref a/\l a=some (.ins C s fs)/\Cls K C/\FW K C f/\fs.lookup f=some v/\Q v l
def sFld(K:AE)(s A:TE)(f:Str):TS:=λD l H=>A l H λy B=>s l B λx m=>∃a C o fs,x=.ref a/\m a=some (.ins C o fs)/\Cls K C/\FW K C f/\fs.length < 1000 /\
 D.nx l (upd m a (.ins C o (putF f y fs)))
section
variable{X:Cx}{o e value:Expr}{f:Str}{pos pos':Pos}{ta tv:TE}
def sD(m:PE X e ta)(hb:Gi e f X.env (Cd e X.env)=Cd e X.env):PE X (.Attribute e f pos) (tFld X.K ta f):=by
 intro A s B H Q I h;refine pP hb (thn (m A s B H _ I h) λu P ⟨x,E,G,J,a,C,R,fs,v,ex,L,c,n,l,q⟩=>?_);subst ex;obtain rfl:u=BB a:=J
 exact ao G L c n l λS T N O=>⟨v,E,N,O,q⟩
def rZ(B:PE X o ta)(E:PE X value tv)(G:HI value (some (.Attribute o f pos')) pos.line X.env=pure false):PS X (.Assign [.Attribute o f pos'] value pos) (sFld X.K ta tv f):=by
 intro A s m H D I h;refine plainObj_wpAny_Assign_Attribute (thn (E A s m H _ I h) λu J ⟨y,L,N,O,q⟩=>thn (B A J m L _ N q) λP Y ⟨x,Z,Q,R,a,C,dx,fs,ex,S,c,n,l,T⟩=>?_) G;subst ex;obtain rfl:P=BB a:=R
 exact aC Q S c n l O λs3 U=>⟨m,_,U,T⟩
end
section
variable{X:Cx}{ζ:List (AT×Obj)}{σ:St}{H:Hp}{s:AK}{A:Bs}{E:AI->AK->Prop}{Q:AI->AK->Prop}{c:AI}{b:Bool}
inductive QQ(K:AE)(H:Hp):V->AI->Prop where
 | non:QQ K H .non (.type "NoneType")
 | bl (x:Bool):QQ K H (.bl x) (.type "bool")
 | int (i:Int):QQ K H (.int i) (.type "int")
 | str (x:Str):QQ K H (.str x) (.type "str")
 | flt (x:UInt64):QQ K H (.flt x) (.type "float")
 | lst {a:AT} {xs:List V} (e:H a=some (.lst xs)):QQ K H (.ref a) (.type "list")
 | frz {a:AT} {o:Obj} {xs:List V} (e:H a=some (.frz o (.lst xs))):QQ K H (.ref a) (.type "list")
 | tup {a:AT} {xs:List V} (e:H a=some (.tup xs)):QQ K H (.ref a) (.type "tuple")
 | dK {a:AT} {i':List (Key×V)} (e:H a=some (.dK i')):QQ K H (.ref a) (.type "dict")
 | dT {a:AT} {i':List (List Key×V)} (e:H a=some (.dT i')):QQ K H (.ref a) (.type "dict")
 | ins {a C dx:AT} {fs:List (Str×V)} (e:H a=some (.ins C dx fs)) (cl:Cls K C) (ha:Cg K (.ref C) "__class__" = some (some (.builtin "object.__class__")))
   (hn:bT K (.builtin "object.__class__") "__get__" = some (some (.builtin "getset_descriptor.__get__"))) (htk:gD K (.builtin "object.__class__")=some true)
   (hm:Og K C (.type "object")=some true):QQ K H (.ref a) (.ref C)
def fC(I:Inv X ζ σ H s)(l:RelV x u)(ty:QQ X.K H x t)(e:CW X.K t c=some b)(h:∀tk,Q (.bool b) { s with toks:=tk }) :
  Am (Ag X.prog X.w) A (call (.builtin "isinstance") [u,c]) Q E s:=by
 cases ty with
 | non=>cases(show u=Bn from l);exact Ci PySem.W.kitx_none I.kIn FJ e (λz=>nomatch z) h
 | bl y=>cases(show u=M6 y from l);exact Ci PySem.W.kitx_bool I.kIn FJ e (λz=>nomatch z) h
 | int i=>obtain⟨t,q⟩:=(show ∃t,u=Ri i t from l);cases q;exact Ci PySem.W.kitx_int I.kIn FJ e (λz=>nomatch z) h
 | str y=>obtain⟨t,q⟩:=(show ∃t,u=Rh y t from l);cases q;exact Ci PySem.W.kitx_str I.kIn FJ e (λz=>nomatch z) h
 | flt y=>obtain⟨t,q⟩:=(show ∃t,u=Zf y t from l);cases q;exact Ci PySem.W.kitx_float I.kIn FJ e (λz=>nomatch z) h
 | @lst a G m=>
  cases(show u=BB a from l);obtain⟨_,_,n,_,B⟩:=(show Ck X.prog X.w H s.heap a (.lst G)from I.hok a _ m);exact Ci bV I.kIn ⟨_,B,rfl⟩ e (λz=>nomatch z) h
 | @frz a S G m=>
  cases(show u=BB a from l);obtain⟨_,_,_,n,_,B⟩:=(show Ck X.prog X.w H s.heap a (.frz S (.lst G))from I.hok a _ m);exact Ci bV I.kIn ⟨_,B,rfl⟩ e (λz=>nomatch z) h
 | @tup a G m=>
  cases(show u=BB a from l);obtain⟨_,_,_,p⟩:=(show Ck X.prog X.w H s.heap a (.tup G)from I.hok a _ m);obtain⟨o,B,L,_⟩:=p;exact Ci PySem.W.kitx_tuple I.kIn ⟨o,B,L⟩ e (λz=>nomatch z) h
 | @dK a N m=>
  cases(show u=BB a from l);obtain⟨_,_,vs,_,p⟩:=(show Ck X.prog X.w H s.heap a (.dK N)from I.hok a _ m);obtain⟨o,T,U,B,L,_⟩:=p;exact Ci bW I.kIn ⟨o,B,L.1⟩ e (λz=>nomatch z) h
 | @dT a N m=>
  cases(show u=BB a from l);obtain⟨_,_,G,_,o,T,U,B,L,_⟩:=(show Ck X.prog X.w H s.heap a (.dT N)from I.hok a _ m);exact Ci bW I.kIn ⟨o,B,L.1⟩ e (λz=>nomatch z) h
 | @ins a C dx fs m R Y Z P hm=>
  cases(show u=BB a from l);obtain⟨mA,O,_⟩:=SN I.hok m;obtain⟨od,J,_⟩:=O.look;exact Ci (PySem.W.kitx_own (R.get _) R.hd Y Z P hm) I.kIn J e (λz=>nomatch z) h
end
structure IB(k:Nat)(A:Bs):Prop where
 hd:A.handled=none
 dp:A.depth+3 * k+5 < recursionLimit
 un:A.units+16 * k+200 < EY
def IB.mono(r:IB k A)(h:j<=k):IB j A:=⟨r.hd,by have:=r.dp;lia,by have:=r.un;lia⟩
def IB.deeper(r:IB (k+1) A)(env:Env):IB k (A.deeper env):=
 ⟨r.hd,by have:=r.dp;show A.depth+1+3 * k+5 < _;lia,by have:=r.un;show A.units+3+16 * k+200 < _;lia⟩
def aV{A:Bs}{C:AT}{us:List AI}{l:List (Str×AI)}:(A.under (.builtin "type.__call__" ⟨.ref C :: us,l⟩)).depth=A.depth+1:=by
 first | rfl | simp[Xf,Code.weight,Code.isCreation,Code.isGuard,Code.isCaller,uo,ZR,guardIds]
def aU{A:Bs}{C:AT}{us:List AI}{l:List (Str×AI)}:(A.under (.builtin "type.__call__" ⟨.ref C :: us,l⟩)).units=A.units+1:=by
 first | rfl | simp[Xf,Code.cUnits,uo,ZR]
def IB.make{k}{A}(r:IB (k+1) A)(C:AT)(us:List AI)(l:List (Str×AI)):IB k (A.under (.builtin "type.__call__" ⟨.ref C :: us,l⟩)):=
 ⟨r.hd,by have:=r.dp;rw[aV];lia,by have:=r.un;rw[aU];lia⟩
def IB.depth(r:IB k A):A.depth < recursionLimit:=by have:=r.dp;lia
def IB.units(r:IB k A):A.units+64 < EY:=by have:=r.un;lia
def tNil:TA:=λ_ H Q=>Q [] H
def vA(m:TE)(o:TA):TA:=λl H Q=>m l H λx s=>o l s λA B=>Q (x :: A) B
section
variable{X:Cx}{e:Expr}{es:List Expr}{te:TE}{t:TA}{pos:Pos}
def IP:PA X [] tNil:=λ_ _ _ _ H Q I h=>Calls.spliced_nil ⟨[],H,I,.nil,h⟩
def Fe(o:PE X e te)(A:PA X es t)(B:AY (e :: es) X.env=(false,Cd e X.env) :: AY es X.env:=by rfl):PA X (e :: es) (vA te t):=by
 intro pos l s m H Q I h;rw[B];show Am _ _ (spliced ((false,Cd e X.env) :: ER pos (AY es X.env))) _ _ s;refine Calls.spliced_cons (thn (o l s m H _ I h) λu C ⟨x,E,G,J,L⟩=>?_)
 exact thn (A pos l C m E _ G L) λT U ⟨N,O,P,R,S⟩=>⟨x :: N,O,P,.cons J R,S⟩
def tTup(t:TA):TE:=λo H Q=>t o H λl m=>l.length<=sizeLine/\∀p,m p=none->Q (.ref p) (upd m p (.tup l))
def tLst(t:TA):TE:=λo H Q=>t o H λl m=>l.length<=sizeLine/\∀p,m p=none->Q (.ref p) (upd m p (.lst l))
def rk{A}(h:PA X es t):PE X (.Tuple es A pos) (tTup t):=by
 intro B s C H Q I E;refine wpAny_Tuple_spliced (thn (h pos B s C H _ I E) λG l ⟨J,m,o,r,z,q⟩=>⟨by rw[<-r.length];exact z,?_⟩);have L:m l.heap.objs.size=none:=o.hok.fresh (AO _);refine⟨.ref l.heap.objs.size,upd m l.heap.objs.size (.tup J),o.laid (t':=l.toks) (λb u e=>AR _ e) (AO _) ?_,rfl,q _ L⟩;exact⟨⟨z,⟨_,Al _ rfl,rfl⟩⟩,G,r,⟨_,Al _ rfl,rfl,_,rfl⟩⟩
def rq(h:PA X es t):PE X (.List es pos) (tLst t):=by
 intro A s B H Q I C;refine wpAny_List_spliced (thn (h pos A s B H _ I C) λE l ⟨G,m,o,r,z,q⟩=>⟨by rw[<-r.length];exact z,?_⟩);have J:m l.heap.objs.size=none:=o.hok.fresh (AO _);refine⟨.ref l.heap.objs.size,upd m l.heap.objs.size (.lst G),o.laid (t':=l.toks) (λb u e=>AR _ e) (AO _) ?_,rfl,q _ J⟩;exact⟨z,E,0,r,Al _ rfl⟩
end
abbrev Sp:=List V->Hp->VK->XK->Prop
abbrev CXT:=List Env->Hp->AK->XK->AI->AK->Prop
structure bO(P:Bf)(w:CH)(K:AE)(mg:Str->Option AI)(base:DA)(A:Bs)(outer:List Env)(s:AK)(H:Hp):Prop where
 frames:A.frames=some outer
 mod:Mod K mg base
 bs:∀b o,base.get? b=some o->s.heap.get? b=some o/\H b=none
 bsz:base.objs.size<=s.heap.objs.size
 funs:s.heap.FunFrames base outer
 frf:∀b∈frs outer,H b=none
 hok:HOk P w H s.heap
 bare:KL s.gens
def CE(l:List Env)(P:Bf)(w:CH)(H:Hp)(s:AK)(Q:VK)(u:AI)(s':AK):Prop:=
 ∃v m,s'.os=s.os/\KL s'.gens/\Un (frs l) [] H m s.heap s'.heap/\HOk P w m s'.heap/\RelV v u/\Q v m
def CR(CX:CXT)(l:List Env)(P:Bf)(w:CH)(H:Hp)(s:AK)(Q:VK)(E:XK)(r:Result)(s':AK):Prop:=
 match r with
 | .ok (.ret u)=>CE l P w H s Q u s'
 | .ok _=>False
 | .error e=>CX l H s E e s'
structure DF(P:Bf)(w:CH)(K:AE)(mg:Str->Option AI)(base:DA)(CX:CXT)(k:Nat)(f:AT)(fd:KN)(ps:List Str)(sp:Sp):Prop where
 len:∀vs H Q E,sp vs H Q E->vs.length=ps.length
 run:∀(A:Bs) (outer:List Env) (s:AK) (H:Hp) (args:Args) (us:List AI) (vs:List V) (Q:VK) (E:XK),IB k A->bO P w K mg base A outer s H->ZS s fd args (ps.zip us)->CQ vs us->sp vs H Q E ->
  Ox (Ag P w) A (.call (.ref f) args) (CR CX outer P w H s Q E) s
def DF.imp{P}{w}{K}{o}{base}{CX}{k}{f}{fd}{ps}{sp sp'}(F:DF P w K o base CX k f fd ps sp)
  (h:∀vs H Q E,sp' vs H Q E->sp vs H Q E):DF P w K o base CX k f fd ps sp':=
 ⟨λvs H Q E q=>F.len vs H Q E (h _ _ _ _ q),λA l s H m B vs Q E C G hb I J=>F.run A l s H m B vs Q E C G hb I (h _ _ _ _ J)⟩
def bO.make{P}{w}{K}{m}{base}{A}{l}{s}{H}(e:bO P w K m base A l s H)(C:AT)(us:List AI)(o:List (Str×AI)) :
  bO P w K m base (A.under (.builtin "type.__call__" ⟨.ref C :: us,o⟩)) l s H:=⟨by first | exact e.frames | (simpa[Xf,Code.envs,ZR,pushEnvs]using e.frames),e.mod,e.bs,e.bsz,e.funs,e.frf,e.hok,e.bare⟩
section
variable{X:Cx}{ζ:List (AT×Obj)}{σ:St}{H:Hp}{s s':AK}
def Inv.env0(I:Inv X ζ σ H s):bO X.prog X.w X.K X.mg X.base X.A X.stack s H:=
 ⟨I.ok.frames,I.ok.mod,I.bs,Aw I.ok.bsz I.sz,I.stack,I.stkFree,I.hok,I.bare⟩
def Inv.after(I:Inv X ζ σ H s)(h:CE X.stack X.prog X.w H s Q u s'):EP X ζ σ Q u s':=by
 obtain⟨v,A,os,l,un,m,r,q⟩:=h;obtain⟨B,g,d,t,o⟩:=s';obtain rfl:o=s.os:=os;exact⟨v,A,I.call (h':=B) (g':=g) (d':=d) (t':=t) (ch:=[]) un m l (λb z=>zX z (by simp)),r,q⟩
end
def vB(sp:Sp)(m:List V)(E:St->XK)(t:TA):TE:=λl H Q=>t l H λo s=>sp (o++m) s Q (E l)
def p0(C:AT)(m:Str)(sp:Sp)(s:List V)(E:St->XK)(A:TE)(t:TA):TE:=λl H Q=>A l H λx o=>∃a B fs,x=.ref a/\o a=some (.ins C B fs)/\fs.lookup m=none /\
 t l o λG I=>sp (x :: (G++s)) I Q (E l)
def u6(C:AT)(sp:Sp)(s:List V)(E:St->XK)(t:TA):TE:=λo H Q=>t o H λA m=>∀x l,m x=none->m l=none->l≠x ->
 sp (.ref x :: (A++s)) (upd (upd m l (.own x)) x (.ins C l [])) (λv B=>v=.non/\Q (.ref x) B) (E o)
def Binds(K:AE)(fd:KN)(ps:List Str)(ds:List AI):Prop:=
 ∀(s:AK) (l:List AI),K.In s.heap->(l++ds).length=ps.length->ZS s fd ⟨l,[]⟩ (ps.zip (l++ds))
def Binds.all{K}{fd}{ps}(h:∀us:List AI,us.length=ps.length->lT fd ⟨us,[]⟩=pure (ps.zip us)):Binds K fd ps []:=λs us _ l=>by
 rw[Bh]at l ⊢;exact .of_eq (h us l)
def Mw(CX:CXT)(X:Cx)(E:St->XK):Prop:=∀(o:List (AT×Obj)) (l:St) (H:Hp) (s:AK) (e:AI) (m:AK),Inv X o l H s->CX X.stack H s (E l) e m->X.xe e m
section
variable{X:Cx}{k:Nat}{f C:AT}{fd:KN}{ps:List Str}{sp:Sp}{E:St->XK}{x m:Str}{p pos apos:Pos}{e o:Expr}{es:List Expr}{ta:TE}{t:TA}
def iY(F:DF X.prog X.w X.K X.mg X.base CX k f fd ps sp)(L:IB k X.A)(hb:Binds X.K fd ps ds)(N:CQ B ds)(O:Mw CX X E)
  (I:Inv X G σ H s) (r:CQ vs us) (h:sp (vs++B) H Q (E σ)):Am (Ag X.prog X.w) X.A (call (.ref f) us) (EP X G σ Q) X.xe s:=by
 have J:CQ (vs++B) (us++ds):=r.append N
 have P:(us++ds).length=ps.length:=by rw[<-J.length];exact F.len _ _ _ _ h
 refine ZV (Uh (F.run X.A X.stack s H ⟨us,[]⟩ (us++ds) (vs++B) Q (E σ) L I.env0 (hb s us I.kIn P) J h) λr R l=>?_)
 cases r with
 | error e=>exact O G σ H s e R I l
 | ok S=>
  cases S with
  | ret u=>exact I.after l
  | next=>exact Ep l
  | brk=>exact Ep l
  | cont=>exact Ep l
def nj(F:DF X.prog X.w X.K X.mg X.base CX k f fd ps sp)(B:IB k X.A)(G:Gl X x)(J:X.mg x=some (.ref f))(L:Ft X.K (.ref f)=true)(hb:Binds X.K fd ps ds)(N:CQ O ds)(P:Mw CX X E)
  (R:PA X (e :: es) t) (S:(x==("__debug__" : Str))=false:=by decide) (T:AY (e :: es) X.env=(false,Cd e X.env) :: AY es X.env:=by rfl) (U:(ER pos (AY es X.env)).any (·.1)=false:=by rfl) :
  PE X (.Call (.Name x p) (e :: es) [] pos) (vB sp O E t):=by
 intro Y s Z H Q I h;refine Ln (QD I G J ?_ S);refine Oz (h₀:=X.base) I.ok.mod.kin L (thn (R pos Y s Z H _ I h) λus s1 ⟨vs,H1,l,r,q⟩=>⟨l.kIn,?_⟩) T U;exact iY F B hb N P l r q
def nW(P:PE X o ta)(c:Cls X.K C)(B:XV X.K C m f)(F:DF X.prog X.w X.K X.mg X.base CX k f fd ps sp)(R:IB k X.A)(hb:Binds X.K fd ps ds)(S:CQ T ds)(U:Mw CX X E)(Y:PA X (e :: es) t)
  (Z:AY (e :: es) X.env=(false,Cd e X.env) :: AY es X.env:=by rfl) (xM:(ER pos (AY es X.env)).any (·.1)=false:=by rfl)
  (ht:Cd (.Call (.Attribute o m apos) (e :: es) [] pos) X.env=(do
   let G <-Cd o X.env
   uN apos.atName
   let (f,fts) <-ZG [G] (fy G m pl)
   callWith pos f fts (ER pos (AY (e :: es) X.env)) (Zb pos (QV [] X.env))):=by rfl) :
  PE X (.Call (.Attribute o m apos) (e :: es) [] pos) (p0 C m sp T E ta t):=by
 intro J s L H Q I h;refine PySem.W.methodCall_KW (pl:=pl) (thn (P J s L H _ I h) λu s1 ⟨x,H1,N,rx,a,dx,fs,ex,ea,l,q⟩=>?_) ht;subst ex;obtain rfl:u=BB a:=rx;refine am N ea c B l ?_;refine Oz (first:=[.ref a]) (h₀:=X.base) I.ok.mod.kin B.kp (thn (Y pos J s1 L H1 _ N q) λus s2 ⟨vs,H2,O,r,q2⟩=>⟨O.kIn,?_⟩) Z xM;exact iY (us:=.ref a :: us) (vs:=.ref a :: vs) F R hb S U O (.cons rfl r) q2
structure Mk(K:AE)(C f:AT):Prop where
 makes:gF K C=true
 init:Cg K (.ref C) "__init__" = some (some (.ref f))
 fn:V7 K (.ref f)=true
 kp:Ft K (.ref C)=true
def iX(M:Mk X.K C f)(F:DF X.prog X.w X.K X.mg X.base CX k f fd ps sp)(P:IB (k+1) X.A)(hb:Binds X.K fd ps ds)(R:CQ J ds)
  (S:Mw CX X E) (I:Inv X L σ H s) (r:CQ vs us)
  (h:∀x B,H x=none->H B=none->B≠x->sp (.ref x :: (vs++J)) (upd (upd H B (.own x)) x (.ins C B [])) (λv T=>v=.non/\Q (.ref x) T) (E σ)) :
  Am (Ag X.prog X.w) X.A (call (.ref C) us) (EP X L σ Q) X.xe s:=by
 have N:=h (s.heap.objs.size+1) s.heap.objs.size (I.hok.fresh (O0 _)) (I.hok.fresh (AO _)) (A0 (Dc _));have G:=Inv.made (C:=C) I;have O:CQ (V.ref (s.heap.objs.size+1) :: (vs++J)) (BB (s.heap.objs.size+1) :: (us++ds)):=.cons rfl (r.append R)
 have U:(BB (s.heap.objs.size+1) :: us++ds).length=ps.length:=by
  have e:=O.length;rw[F.len _ _ _ _ N]at e;exact e.symm
 refine ZV (jN (f:=f) I.kIn M.makes M.init (beq_iff_eq.mp M.fn) (Uh (F.run _ X.stack _ _ ⟨BB (s.heap.objs.size+1) :: us,[]⟩ (BB (s.heap.objs.size+1) :: (us++ds)) _ _ (E σ) (P.make C us [])
  (G.env0.make C us []) (hb _ (BB (s.heap.objs.size+1) :: us) G.kIn U) O N) λr Y l=>?_))
 cases r with
 | error e=>exact S L σ _ _ e Y G l
 | ok Z=>
  cases Z with
  | ret u=>
   obtain⟨v,H',I3,rv,ev,q3⟩:=G.after l;subst ev;exact⟨rv,⟨V.ref (s.heap.objs.size+1),H',I3,rfl,q3⟩⟩
  | next=>exact Ep l
  | brk=>exact Ep l
  | cont=>exact Ep l
def nX(M:Mk X.K C f)(F:DF X.prog X.w X.K X.mg X.base CX k f fd ps sp)(B:IB (k+1) X.A)(G:Gl X x)(J:X.mg x=some (.ref C))(hb:Binds X.K fd ps ds)(L:CQ N ds)(O:Mw CX X E)
  (P:PA X (e :: es) t) (R:(x==("__debug__" : Str))=false:=by decide) (S:AY (e :: es) X.env=(false,Cd e X.env) :: AY es X.env:=by rfl) (T:(ER pos (AY es X.env)).any (·.1)=false:=by rfl) :
  PE X (.Call (.Name x p) (e :: es) [] pos) (u6 C sp N E t):=by
 intro U s Y H Q I h;refine Ln (QD I G J ?_ R);refine Oz (h₀:=X.base) I.ok.mod.kin M.kp (thn (P pos U s Y H _ I h) λZ s1 ⟨vs,H1,l,r,q⟩=>⟨l.kIn,?_⟩) S T;exact iX M F B hb L O l r q
end
structure Bk(N P:List Str)(sc:Uj):Prop where
 kind:sc.kind=.function
 co:sc.isCoroutine=false
 gen:sc.isGenerator=false
 nd:N.Nodup
 pre:N.take P.length=P
 par:∀x∈P,sc.names.lookup x=some .local∨sc.names.lookup x=some .cell
 nofree:∀y∈sc.names,y.2≠.free
theorem Vz{kindOf}{x}:∀{binds:List (Str×AI)} {m:Str->Option AI},(∀v,(x,v)∉binds)->gB kindOf binds m x=m x
 | [],_,_=>rfl
 | (n,v) :: r,m,h=>by
  unfold gB;rw[Vz λw hw=>h w (AQ _ hw)];split
  ·have:x≠n:=by rintro rfl;exact h v AW
   simp[this]
  ·rfl
theorem V1{kindOf}{x}:∀{binds:List (Str×AI)} {m:Str->Option AI},(∀v,(x,v)∉binds)->gC kindOf binds m x=m x
 | [],_,_=>rfl
 | (n,v) :: r,m,h=>by
  unfold gC;rw[V1 λw hw=>h w (AQ _ hw)];split
  ·rfl
  ·have:x≠n:=by rintro rfl;exact h v AW
   simp[this]
theorem V0{kindOf}{x}{v}:∀{P:List Str} {vs:List AI} {i:Nat} {m:Str->Option AI},P.Nodup->P[i]?=some x->vs[i]?=some v->kindOf x=some .local ->
  gB kindOf (P.zip vs) m x=some v
 | [],_,_,_,_,h,_,_=>by simp at h
 | _ :: _,[],_,_,_,_,h,_=>by simp at h
 | p :: P,w :: vs,0,m,s,l,o,A=>by
  simp at l o;subst l;subst o;show gB kindOf ((p,w) :: P.zip vs) m p=_;unfold gB;rw[Vz λv B=>(Bu.mp s).1 (Ue B).1,qX A];simp
 | p :: P,w :: vs,i+1,m,s,l,o,A=>by
  show gB kindOf ((p,w) :: P.zip vs) m x=_;unfold gB;exact V0 (i:=i) (Bu.mp s).2 (by simpa using l) (by simpa using o) A
theorem V2{kindOf}{x}{v}:∀{P:List Str} {vs:List AI} {i:Nat} {m:Str->Option AI},P.Nodup->P[i]?=some x->vs[i]?=some v->kindOf x≠some .local ->
  gC kindOf (P.zip vs) m x=some v
 | [],_,_,_,_,h,_,_=>by simp at h
 | _ :: _,[],_,_,_,_,h,_=>by simp at h
 | p :: P,w :: vs,0,m,s,l,o,A=>by
  simp at l o;subst l;subst o;show gC kindOf ((p,w) :: P.zip vs) m p=_;unfold gC;rw[V1 λv B=>(Bu.mp s).1 (Ue B).1,qY A];simp
 | p :: P,w :: vs,i+1,m,s,l,o,A=>by
  show gC kindOf ((p,w) :: P.zip vs) m x=_;unfold gC;exact V2 (i:=i) (Bu.mp s).2 (by simpa using l) (by simpa using o) A
def start(N:List Str)(vs:List V):St:=vs.map some++Be (N.length - vs.length) none
def XH(CX:CXT)(P:Bf)(w:CH)(K:AE)(mg:Str->Option AI)(base:DA)(N:List Str)(l:Str)(scope:Uj)(f:AT)(m:AI)(A:Bs)(outer:List Env)(s:AK)(H:Hp)(E:XK):Cx where
 prog:=P
 w:=w
 K:=K
 mg:=mg
 base:=base
 A:=A.deeper (Ow l scope s.heap.objs.size f m)
 N:=N
 s₀:=s
 H₀:=H
 env:=Ow l scope s.heap.objs.size f m
 outer:=outer
 stack:=Ow l scope s.heap.objs.size f m :: outer
 ex:=[]
 calm:=true
 fn:=λ_=>true
 pn:=[]
 xe:=λe B=>Am (Ag P w) (A.deeper (Ow l scope s.heap.objs.size f m)) (leaving (Ow l scope s.heap.objs.size f m) e) (λ_ o=>CX outer H s E e o) (λC o=>CX outer H s E C o) B
def Y5{l:Uj}{n:Nat}{x:Str}(h:l.names.lookup x=some .cell):∃c,(Ca n l.names []).lookup x=some c:=by
 have q:=V8 l.names n [] (.inl h);exact Cb.mp q
def fD{CX:CXT}{P:Bf}{w:CH}{K:AE}{R:Str->Option AI}{base:DA}{N ps:List Str}{m:Str}{scope:Uj}{f:AT}{L:AI}{A:Bs}{l:List Env}{s s1:AK}{H:Hp}{E:XK}{us:List AI}{vs:List V}
  (S:Bk N ps scope) (X:A.handled=none) (B:bO P w K R base A l s H) (hl:vs.length=ps.length) (r:CQ vs us)
  (x:InCallC s s.heap.objs.size (gB (Ow m scope s.heap.objs.size f L).kindOf (ps.zip us) λ_=>none) (Ca (s.heap.objs.size+1) scope.names []) (gC (Ow m scope s.heap.objs.size f L).kindOf (ps.zip us) λ_=>none) s1) :
  Inv (XH CX P w K R base N m scope f L A l s H E) [] (start N vs) H s1:=by
 have xM:ps.length<=N.length:=by have:=congrArg JO S.pre;rw[JF]at this;lia
 obtain⟨O,tk,rfl,T⟩:=x.done
 have C:∀b:AT,b∉(XH CX P w K R base N m scope f L A l s H E).ex:=λb z=>zX (show b∈([]:List AT)from z) (by simp)
 refine⟨⟨B.mod,S.kind,rfl,rfl,AO _,λy z c O o=>?_,λy G=>?_,λy c _ h=>?_,λ_=>X,Bs.frames_deeper B.frames,.inr ⟨rfl,rfl⟩,λb z=>zX z (C b),B.bs,B.bsz,λb _ _=>C b,λb z=>zX z (C b),B.funs,B.frf⟩,
  rfl,B.bare,Un.kept T,⟨_,x.toInCall.ns,λi y v O o h3=>?_⟩,λy c h=>⟨_,x.cell y c h⟩,B.hok.fresh (AO _),λy c h=>?_,λp I=>zX (show p∈([]:List (AT×Obj))from I) (by simp),B.hok.kept T,?_⟩
 ·exact name_of_addr x.apart (Dx O) (Dx o)
 ·have G:scope.names.lookup y=some .cell∨scope.names.lookup y=some .free:=G
  rcases G with G | G
  ·exact Y5 G
  ·exact zX rfl (S.nofree _ (Dx G))
 ·exact NR (x.above y c (Dx h))
 ·have Q:i < vs.length:=by
   unfold start at o
   by_cases Q:i < vs.length
   ·exact Q
   ·rw[Bd (by simpa using Q)]at o
    rw[Du]at o
    split at o <;> cases o
  have Y:vs[i]?=some v:=by
   unfold start at o;rw[Au (by simpa using Q),Ac]at o
   cases e:vs[i]? with
   | none=>rw[e]at o;cases o
   | some a=>rw[e]at o;cases o;rfl
  obtain⟨u,U,Z⟩:=r.get Y
  have I:ps[i]?=some y:=by
   rw[<-S.pre,Xa (by lia)];exact O
  have J:ps.Nodup:=by rw[<-S.pre];exact S.nd.sublist (gZ _ _)
  refine⟨u,Z,?_⟩
  rcases S.par y (Bt I)with k | k
  ·exact .inl ⟨k,V0 J I U k⟩
  ·obtain⟨c,e⟩:=Y5 (n:=s.heap.objs.size+1) k
   refine .inr ⟨.inl k,c,e,?_⟩;have q:=x.cell y c e;rw[V2 J I U (by show scope.names.lookup y≠_;rw[k];decide)]at q;exact q
 ·exact B.hok.fresh (NR (x.above y c (Dx h)))
 ·unfold start
  show _=N.length;rw[Ak,AF,OI]
  lia
def wP{CX}{P}{w}{K}{U}{base}{k}{f}{name m}{params}{body}{scope}{dV kV R pm G ct oc}{an od}
  {zh} {N ps} {sp} (lk:K.lookup f=some ⟨oc,od,.func (JV name m params body scope dV kV R pm an G ct),zh⟩) (yJ:SY K G m=true) (S:Bk N ps scope)
  (len:∀vs H Q E,sp vs H Q E->vs.length=ps.length)
  (yF:∀(A:Bs) (l:List Env) (s:AK) (H:Hp) (vs:List V) (Q:VK) (E:XK),IB k (A.deeper (Ow m scope s.heap.objs.size f G))->sp vs H Q E ->
   ∃t,PSs (XH CX P w K U base N m scope f G A l s H E) body t/\t { nx:=λ_ C=>Q .non C,rt:=Q } (start N vs) H) :
  DF P w K U base CX (k+1) f (JV name m params body scope dV kV R pm an G ct) ps sp:=by
 refine⟨len,λA l s H args us vs Q E X T hb r ϩ=>?_⟩;have hl:=len _ _ _ _ ϩ
 have KX:K.In s.heap:=T.mod.kin.keeps λb o e=>(T.bs b o e).1
 have Y:s.heap.NoLimit:=T.mod.nolimit.keeps λb o e=>(T.bs b o e).1
 have L:∀y∈ps.zip us,scope.names.lookup y.1=some .local∨(scope.names.lookup y.1=some .cell/\((Ca (s.heap.objs.size+1) scope.names []).lookup y.1).isSome=true):=by
  rintro ⟨n,v⟩ hy
  rcases S.par n (Ue hy).1 with q | q
  ·exact .inl q
  ·exact .inr ⟨q,V8 _ _ _ (.inl q)⟩
 refine codeAny_call_function X.depth (KX _ _ lk) rfl S.co S.gen rfl (PySem.W.codeRec_of KX yJ) (hb _ _ _ _ ?_)
 refine wpAny_newFunctionEnv_cells S.kind L λenv he s1 x=>?_
 subst he;refine⟨Y.keeps x.toInCall.keep,codeAny_func ?_⟩;obtain⟨t,ht,hq⟩:=yF A l s H vs Q E (X.deeper _) ϩ;have I:Inv (XH CX P w K U base N m scope f G A l s H E) [] (start N vs) H s1:=fD S X.hd T hl r x
 refine Fq (ht [] s1 (start N vs) H _ I hq) (λfl s' O=>?_) λe s' O=>O
 have fin:∀{B:St} {C:Hp} {v:V} {u:AI},Inv (XH CX P w K U base N m scope f G A l s H E) [] B C s'->RelV v u->Q v C->CE l P w H s Q u s':=
  λ{B C v u} J Z q=>⟨v,C,J.os,J.bare,J.base,J.hok,Z,q⟩
 cases fl with
 | ret u=>
  obtain⟨v,B,C,J,Z,q⟩:=O;exact fin J Z q
 | next=>
  obtain⟨B,C,J,q⟩:=O;exact fin (v:=V.non) (u:=Bn) J rfl q
 | brk=>
  obtain⟨_,_,_,q⟩:=O;exact Ep q
 | cont=>
  obtain⟨_,_,_,q⟩:=O;exact Ep q
section
variable{X:Cx}{x:Str}{p pos:Pos}{e:Expr}{es:List Expr}{t:TA}{id T:String}{r:List V->Hp->VK->Prop}
def tCB(r:List V->Hp->VK->Prop)(t:TA):TE:=λl H Q=>t l H λm o=>r m o Q
def LU(o:JU X (.builtin id) r)(A:Gl X x)(B:X.mg x=none)(C:Fs x=some (.builtin id))(E:PA X (e :: es) t)(G:x≠"__name__":=by decide) (J:(x==("__debug__" : Str))=false:=by decide)
  (L:AY (e :: es) X.env=(false,Cd e X.env) :: AY es X.env:=by rfl) (N:(ER pos (AY es X.env)).any (·.1)=false:=by rfl):PE X (.Call (.Name x p) (e :: es) [] pos) (tCB r t):=by
 intro l s m H Q I h;refine Ln (PN I A B C ?_ G J);exact ww (thn (E pos l s m H _ I h) λO P ⟨R,S,U,Y,Z⟩=>o l P m S R O Q U Y Z) L N
def Qt(o:JU X (.type T) r)(A:Gl X x)(B:X.mg x=none)(C:Fs x=some (.type T))(E:PA X (e :: es) t)(G:x≠"__name__":=by decide) (J:(x==("__debug__" : Str))=false:=by decide)
  (L:AY (e :: es) X.env=(false,Cd e X.env) :: AY es X.env:=by rfl) (N:(ER pos (AY es X.env)).any (·.1)=false:=by rfl):PE X (.Call (.Name x p) (e :: es) [] pos) (tCB r t):=by
 intro l s m H Q I h;refine Ln (PN I A B C ?_ G J);exact Dj (thn (E pos l s m H _ I h) λO P ⟨R,S,U,Y,Z⟩=>o l P m S R O Q U Y Z) L N
end
end L2
namespace HT
def lexLt:ZLi->ZLi->Bool
 | [],[]=>false
 | [],_ :: _=>true
 | _ :: _,[]=>false
 | x :: l,y :: m=>if x=y then lexLt l m else decide (x < y)
def ae(x y:Int)(xs l:ZLi):lexLt (x :: xs) (y :: l)=if x=y then lexLt xs l else decide (x < y):=rfl
def U0:lexLt [] []=false:=rfl
def Tt(y:Int)(l:ZLi):lexLt [] (y :: l)=true:=rfl
def Tu(x:Int)(xs:ZLi):lexLt (x :: xs) []=false:=rfl
def kU(A:Bs)(s:AK)(a:Int)(t:Tok)(c:Int)(u:Tok):∃e,SeqAt.EqAt A s (.int a t) (.int c u) e/\(e=true↔a=c):=
 ⟨(a==c),SeqAt.EqAt.int_int a t c u,by simp⟩
def ie(A:Bs)(s:AK)(a:Int)(t:Tok)(c:Int)(u:Tok)(prog:Bf)(w:CH)(E:AI->AK->Prop)(Q:AI->AK->Prop)(h:Q (.bool (decide (a < c))) s) :
  Am (Ag prog w) A (richCompare .Lt (.int a t) (.int c u)) Q E s:=
 (wu h:Am (Ag prog w) A (CS .Lt (.int a t) (.int c u)) Q E s)
section
open PySem.SeqAt
open PySem.AutoSeq1 (wpAny_loadPart')
open PySem.MeetsSeq PySem.MeetsSeq2 PySem.MeetsSeq3
def Ol(l b:AT)(m N:Array AI)(n n2:Nat)(dd zA:Option AT)(sl zB:Array (Option AI))(ns Q:ZLi)(hi:EU m.toList ns)(hj:EU N.toList Q) :
  Meets (Builtin.«tuple.__lt__» ⟨[.ref l,.ref b],[]⟩)
   (λ_ R s=>s.heap.get? l=some { cls:=.type "tuple",dict:=dd,data:=.seq m n,slots:=sl }/\s.heap.get? b=some { cls:=.type "tuple",dict:=zA,data:=.seq N n2,slots:=zB } /\
    R (.ok (.ret (.bool (lexLt ns Q)))) s):=
 .of_wp λE w A R s h=>by
  obtain⟨S,g,d,tk,os⟩:=s;obtain⟨hl,hb,h⟩:=h;have f2:=AutoSeq1.sub_tuple_tuple
  have z1:m.size=ns.length:=by rw[<-hi.length];simp
  have z2:N.size=Q.length:=by rw[<-hj.length];simp
  wp_walk using wpAny_loadPart' hl,wpAny_loadPart' hb,wpAny_forIn_list _ (λG b X=>b.1=none/\X=⟨S,g,d,tk,os⟩/\∃(T U:List AI) (Ϫ ϫ:ZLi),G=T.zip U /\
   EU T Ϫ/\EU U ϫ/\Ϫ.length+N.size=ϫ.length+m.size/\R (.ok (.ret (.bool (lexLt Ϫ ϫ)))) ⟨S,g,d,tk,os⟩) _
  case turn=>
   rintro⟨y,x⟩ G b X ⟨Y,rfl,T,U,Ϫ,ϫ,B,J,C,o,H⟩
   cases J with
   | nil=>rw[gY]at B;cases B
   | cons a t O=>
    cases C with
    | nil=>rw[gK]at B;cases B
    | cons c u P=>
     rw[KP]at B
     injection B with Z L
     injection Z with hy hx
     subst hy hx;rw[ae]at H;simp only[Aj]at o;obtain⟨e,he,I⟩:=kU A.in1 ⟨S,g,d,tk,os⟩ a t c u;refine AB (he E w _ _ ?_)
     cases e with
     | true=>
      rw[qX (I.mp rfl)]at H
      wp_walk
      exact⟨rfl,rfl,_,_,_,_,L,O,P,by lia,H⟩
     | false=>
      rw[qY (λq=>zX (I.mpr q) AH)]at H;have hri:=ie A.in1 ⟨S,g,d,tk,os⟩ a t c u E w
      wp_walk using hri
      exact⟨_,rfl,by simpa using H⟩
  case fin=>
   rintro⟨b1,b2⟩ X ⟨Y,rfl,T,U,Ϫ,ϫ,B,J,C,o,H⟩;simp only at Y;subst Y
   have hv:lexLt Ϫ ϫ=decide (m.size < N.size):=by
    cases J with
    | nil=>
     cases C with
     | nil=>
      simp only[FY]at o;rw[U0];exact(wY (by lia)).symm
     | cons c u hw=>
      simp only[FY,Aj]at o;rw[Tt];exact(wX (by lia)).symm
    | cons a t hv=>
     cases C with
     | nil=>
      simp only[FY,Aj]at o;rw[Tu];exact(wY (by lia)).symm
     | cons c u hw=>
      rw[KP]at B;cases B
   rw[hv]at H
   wp_walk
   exact⟨_,rfl,by simpa[uq]using H⟩
  case h=>
   exact⟨rfl,rfl,m.toList,N.toList,ns,Q,rfl,hi,hj,by lia,h⟩
end
section
variable{prog:Bf}{w:CH}{A:Bs}{E:AI->AK->Prop}{s:AK}
def aY(O:lb s.heap l m)(hb:lb s.heap b C)(hi:EU m.toList ns)(P:EU C.toList B)
  (R:A.units < EY) (h:Q (.bool (lexLt ns B)) s):Am (Ag prog w) A (CS .Lt (.ref l) (.ref b)) Q E s:=by
 obtain⟨⟨cls,S,data,sl⟩,G,H,n,I⟩:=id O;obtain⟨⟨J,T,data2,U⟩,L,N,X,o⟩:=id hb;simp only at H I N o;subst H I N o
 exact richCompare_meets_room (op:=.Lt) ⟨_,G,rfl⟩ ⟨_,L,rfl⟩ M9 WA (VO _ _) (Ol l b m C n X S T sl U ns B hi P)
  ⟨G,L,show M6 (lexLt ns B)≠AI.notImplemented/\Q (.bool (lexLt ns B)) s from⟨(λx=>nomatch x),h⟩⟩ R
def pJ(R:lb s.heap t vs.toArray)(hb:lb s.heap b l.toArray)(C:vs≠[])
  (S:l=[]->Q (.ref t) s) (T:l≠[]->Q (.ref s.heap.objs.size) { s with heap:=s.heap.push { cls:=.type "tuple",data:=.seq (vs++l).toArray } })
  (hsz:vs.length+l.length<=sizeLine):Am (Ag prog w) A (DM .Add (.ref t) (.ref b)) Q E s:=by
 obtain⟨⟨cls,G,data,sl⟩,o,H,n,I⟩:=id R;obtain⟨⟨J,L,data2,N⟩,B,O,P,m⟩:=id hb;simp only at H I O m;subst H I O m
 have e:vs.toArray++l.toArray=(vs++l).toArray:=by simp
 by_cases hw:l=[]
 ·exact gW ⟨_,o,rfl⟩ ⟨_,B,rfl⟩ V6 dN Lr LL (Kl _ _)
   (tuple_addW1 t b vs.toArray l.toArray n P G L sl N (by simpa using C) (by simp[hw])) ⟨o,B,S hw⟩
 ·refine gW ⟨_,o,rfl⟩ ⟨_,B,rfl⟩ V6 dN Lr LL (Kl _ _)
   (tuple_addW2 t b vs.toArray l.toArray n P G L sl N (by simpa using C) (by simpa using hw) (by rw[Ax,Ax];exact hsz)) ⟨o,B,?_⟩
  rw[e];exact T hw
end
end HT
namespace L2
section
def intsAre_of:∀{us:List AI},CQ (ns.map V.int) us->EU us ns:=by
 induction ns with
 | nil=>intro us r;rw[NH]at r;cases r;exact .nil
 | cons n ns l=>
  intro us r;rw[As]at r
  cases r with
  | cons m o=>
   obtain⟨t,e⟩:=m;subst e;exact .cons n t (l o)
section
variable{κ:Type}[DecidableEq κ]
def Lx(l:List (κ×V))(k:κ):Option V:=(l.find? λm=>decide (m.1=k)).map (·.2)
noncomputable def NA(m:List (κ×V))(k:κ)(v:V):List (κ×V):=
 if (m.any λl=>decide (l.1=k))=true then m.map (λl=>if l.1=k then(l.1,v)else l)else m++[(k,v)]
def Sw{p:κ×V}{r:List (κ×V)}{k:κ}(e:p.1=k):Lx (p :: r) k=some p.2:=by simp[Lx,Cc,e]
def Sx{p:κ×V}{r:List (κ×V)}{k:κ}(e:¬p.1=k):Lx (p :: r) k=Lx r k:=by simp[Lx,Cc,e]
theorem Xz(k:κ):∀l:List (κ×V),(l.any λm=>decide (m.1=k))=(Lx l k).isSome
 | []=>rfl
 | p :: r=>by
  rw[JI]
  by_cases e:p.1=k
  ·simp only[Sw e,wX e,Bool.true_or,bX]
  ·rw[Sx e,wY e,qS];exact Xz k r
def Rf(l:List (κ×V))(k:κ)(v:V):(NA l k v).length<=l.length+1:=by
 unfold NA;split
 ·rw[AF];lia
 ·rw[Ak,Aj,FY];lia
def Oe.isSome_eq(r:Oe o u):o.isSome=u.isSome:=by
 cases o with
 | none=>cases u with
  | none=>rfl
  | some _=>exact(show False from r).elim
 | some _=>cases u with
  | none=>exact(show False from r).elim
  | some _=>rfl
def KV.val{o:List (κ×V)}{vs:List (κ×AI)}(r:KV o vs)(k:κ):Oe (Lx o k) (Ug vs k):=by
 unfold KV at r
 induction r with
 | nil=>exact FJ
 | @cons p q C l h t A=>
  obtain⟨s,B⟩:=h
  by_cases e:p.1=k
  ·have m:q.1=k:=s.symm.trans e
   have b:Ug (q :: l) k=some q.2:=by simp[Ug,Cc,m]
   rw[Sw e,b];exact B
  ·have m:¬q.1=k:=λz=>e (s.trans z)
   have b:Ug (q :: l) k=Ug l k:=by simp[Ug,Cc,m]
   rw[Sx e,b];exact A
theorem KV.any(r:KV m vs)(k:κ):(m.any λl=>decide (l.1=k))=vs.any λl=>decide (l.1=k):=by
 unfold KV at r
 induction r with
 | nil=>rfl
 | cons h t o=>rw[JI,JI,o,h.1]
def KV.repl(r:KV o vs)(k:κ)(s:RelV y u) :
  KV (o.map λl=>if l.1=k then(l.1,y)else l) (vs.map λl=>if l.1=k then(l.1,u)else l):=by
 unfold KV at r ⊢
 induction r with
 | nil=>exact .nil
 | @cons p q C E h t A=>
  rw[As,As];refine .cons ?_ A;obtain⟨m,B⟩:=h
  by_cases e:p.1=k
  ·rw[qX e,qX (m.symm.trans e)];exact⟨m,s⟩
  ·rw[qY e,qY (λz=>e (m.trans z))];exact⟨m,B⟩
def KV.put(r:KV m vs)(k:κ)(l:RelV y u):KV (NA m k y) (stored vs k u):=by
 unfold NA stored;rw[r.any k]
 by_cases e:(vs.any λo=>decide (o.1=k))=true
 ·rw[qX e,qX e];exact r.repl k l
 ·rw[qY e,qY e];exact ZM r ⟨rfl,l⟩
def KV.length(r:KV l vs):l.length=vs.length:=FQ r
end
def Yq(r:RelV (kV k) u):(Es P w).is k u=true:=by
 cases k with
 | inl i=>obtain⟨t,e⟩:=(show ∃t,u=Ri i t from r);subst e;exact Yg P w i t
 | inr x=>obtain⟨t,e⟩:=(show ∃t,u=Rh x t from r);subst e;exact Yf P w x t
theorem Vo:∀{l:List Key} {us:List AI},CQ (l.map kV) us->ItemsAre (Es P w) l us
 | [],_,r=>by rw[NH]at r;cases r;exact .nil
 | k :: l,_,r=>by
  rw[As]at r
  cases r with
  | cons h t=>exact .cons (Yq h) (Vo t)
abbrev KT(H:Hp):List (List Key×V)->List (List Key×AT×AI)->Prop:=G9 λp q=>p.1=q.1/\H q.2.1=some (.tup (p.1.map kV))/\RelV p.2 q.2.2
def KT.val{H:Hp}{o:List (List Key×V)}{xs:List (List Key×AT×AI)}(r:KT H o xs)(k:List Key):Oe (Lx o k) ((Zc xs k).map (·.2)):=by
 induction r with
 | nil=>exact FJ
 | @cons p q C l h t A=>
  obtain⟨s,_,B⟩:=h
  by_cases e:p.1=k
  ·have m:q.1=k:=s.symm.trans e
   have b:Zc (q :: l) k=some q.2:=by simp[Zc,Cc,m]
   rw[Sw e,b];exact B
  ·have m:¬q.1=k:=λz=>e (s.trans z)
   have b:Zc (q :: l) k=Zc l k:=by simp[Zc,Cc,m]
   rw[Sx e,b];exact A
def KT.repl(r:KT H s xs)(k:List Key)(A:RelV y u) :
  KT H (s.map λm=>if m.1=k then(m.1,y)else m) (xs.map (putAt k u)):=by
 induction r with
 | nil=>exact .nil
 | @cons p q E G h t B=>
  rw[As,As];refine .cons ?_ B;obtain⟨l,o,C⟩:=h;unfold putAt
  by_cases e:p.1=k
  ·rw[qX e,qX (l.symm.trans e)];exact⟨l,o,A⟩
  ·rw[qY e,qY (λz=>e (l.trans z))];exact⟨l,o,C⟩
def KT.put(r:KT H l xs)(k:List Key)(hb:H b=some (.tup (k.map kV)))(m:RelV y u) :
  KT H (NA l k y) (storedH xs k b u):=by
 have e:(l.any λo=>decide (o.1=k))=(Zc xs k).isSome:=by
  rw[Xz,(r.val k).isSome_eq,Hw]
 unfold NA storedH;rw[e]
 by_cases q:(Zc xs k).isSome=true
 ·rw[qX q,qX q];exact r.repl k m
 ·rw[qY q,qY q];exact ZM r ⟨rfl,hb,m⟩
def KT.keeps(r:KT H m xs)(o:∀b l,H b=some (.tup l)->s b=some (.tup l)):KT s m xs:=
 G9.mapP r λ_ _ z=>⟨z.1,o _ _ z.2.1,z.2.2⟩
variable{X:Cx}{p2:Pos}
def vN(K:AE):R2:=λx y H Q=>∃a b m l,x=.ref a/\y=.ref b/\SqT K H a m/\SqT K H b l/\m≠[]/\m.length+l.length<=sizeLine /\
 (l=[]->Q (.ref a) H)/\(l≠[]->∀p,H p=none->Q (.ref p) (upd H p (.tup (m++l))))
def CQ.nil_iff(r:CQ xs us):us=[]↔xs=[]:=by
 cases r with
 | nil=>simp
 | cons _ _=>simp
def n8:OpR X (DM .Add) (vN X.K):=by
 intro R s S H x y v u Q I B C h;obtain⟨a,b,E,G,rfl,rfl,J,hb,L,A,N,O⟩:=h;cases B;cases C;obtain⟨T,m,P,_⟩:=I.tuple J;obtain⟨U,l,p2,_⟩:=I.tuple hb;refine HT.pJ P p2 (λz=>L (m.nil_iff.mp z)) (λz=>⟨.ref a,H,I,rfl,N (l.nil_iff.mp z)⟩) (λz=>?_) (by rw[<-m.length,<-l.length];exact A);refine⟨.ref s.heap.objs.size,_,I.laid (t':=s.toks) (o:=.tup (E++G)) (λb Y q=>AR _ q) (AO _) ?_,rfl,O (λw=>z (l.nil_iff.mpr w)) _ (I.hok.fresh (AO _))⟩;exact⟨⟨by rw[Ak];exact A,⟨_,Al _ rfl,rfl⟩⟩,_,m.append l,xD _ _⟩
end
section
def ixN(n:Nat)(i:Int):Option Nat:=if 0<=i then(if i < n then some i.toNat else none)else if -(n:Int)<=i then some (i+n).toNat else none
def atI{α:Type}(xs:List α)(i:Int):Option α:=(ixN xs.length i).bind λj=>xs[j]?
def cW(h:ixN n i=some j):seqIndex? i n=some j/\j < n/\-(n:Int)<=i/\i < n:=by
 unfold ixN at h
 by_cases m:0<=i
 ·rw[qX m]at h
  by_cases l:i < n
  ·rw[qX l]at h
   have e:i.toNat=j:=B2 h;exact⟨by rw[lQ m l,e],by lia,by lia,l⟩
  ·rw[qY l]at h;cases h
 ·rw[qY m]at h
  by_cases l:-(n:Int)<=i
  ·rw[qX l]at h
   have e:(i+n).toNat=j:=B2 h;exact⟨by rw[seqIndex_neg (by lia) l,e],by lia,l,by lia⟩
  ·rw[qY l]at h;cases h
def dH{l:Type}{xs:List l}{i:Int}{v:l}(h:atI xs i=some v):∃j,seqIndex? i xs.length=some j/\xs[j]?=some v/\j < xs.length/\-(xs.length:Int)<=i/\i < xs.length:=by
 unfold atI at h
 cases e:ixN xs.length i with
 | none=>rw[e]at h;cases h
 | some j=>
  rw[e]at h;obtain⟨m,o,s,A⟩:=cW e;exact⟨j,m,h,o,s,A⟩
def XU(b:Expr):Prop:=∀o i,XX b false o i=operate [o,i] (ZH o i)
def IxR(X:Cx)(r:R2):Prop:=
 ∀(value l:Expr) (m:List (AT×Obj)) (s:AK) (o:St) (H:Hp) (x y:V) (v u:AI) (Q:VK),Inv X m o H s->RelV x v->RelV y u->r x y H Q ->
  XX l false v u=operate [v,u] (ZH v u)->Am (Ag X.prog X.w) X.A (subscriptTail value l v u) (EP X m o Q) X.xe s
def MtR(X:Cx)(id:String)(r:V->List V->Hp->VK->Prop):Prop:=
 ∀(l:List (AT×Obj)) (s:AK) (m:St) (H:Hp) (x:V) (o:List V) (v:AI) (B:List AI) (Q:VK),Inv X l m H s->RelV x v->CQ o B->r x o H Q ->
  Am (Ag X.prog X.w) X.A (call (.builtin id) (v :: B)) (EP X l m Q) X.xe s
section
variable{P:Bf}{w:CH}{H:Hp}{h:DA}{a:AT}
def p7(ok:HOk P w H h)(e:Rd H a u):Ck P w H h a u:=e.ok ok
def Y0(ok:HOk P w H h)(e:Rd H a (.dK l)):l.length<=sizeLine/\(a==D7)=false/\∃vs,KV l vs/\h.DictOf (Es P w) a vs:=
 show Ck P w H h a (.dK l)from p7 ok e
def wT(ok:HOk P w H h)(e:H a=some (.dK l)):l.length<=sizeLine/\(a==D7)=false/\∃vs,KV l vs/\h.DictOf (Es P w) a vs:=Y0 ok (.inl e)
def Tx(ok:HOk P w H h)(e:H a=some (.tup (l.map kV))):(V4 (Es P w)).is h l a:=by
 obtain⟨_,m,r,o,s,A,n,B⟩:=(show Ck P w H h a (.tup (l.map kV))from ok a _ e);exact⟨o,m.toArray,n,s,A,B,by simpa using Vo r⟩
def Yz(ok:HOk P w H h)(e:Rd H a (.dT A)):A.length<=sizeLine/\(a==D7)=false /\
  ∃xs,KT H A xs/\h.DictOfH (V4 (Es P w)) a xs:=by
 obtain⟨z,y,xs,r,o,C,E,G,I,J,L,N⟩:=(show Ck P w H h a (.dT A)from p7 ok e);refine⟨z,y,xs,r,o,C,E,G,I,J,L,λx s=>?_,N⟩
 have all:∀{l:List (List Key×V)} {m:List (List Key×AT×AI)},KT H l m->∀x∈m,(V4 (Es P w)).is h x.1 x.2.1:=by
  intro l m q
  induction q with
  | nil=>intro x s;exact nomatch s
  | @cons p q Q R B t O=>
   intro x s
   rcases Ai.mp s with e | s
   ·subst e
    exact Tx ok (by rw[<-B.1];exact B.2.1)
   ·exact O x s
 exact all r x s
def wR(ok:HOk P w H h)(e:H a=some (.dT l)):l.length<=sizeLine/\(a==D7)=false /\
  ∃xs,KT H l xs/\h.DictOfH (V4 (Es P w)) a xs:=Yz ok (.inl e)
end
def QS(H:Hp)(a:AT)(y:V)(r:Option V):Prop:=
 (∃l k,Rd H a (.dK l)/\y=kV k/\r=Lx l k)∨∃l k b,Rd H a (.dT l)/\y=.ref b/\H b=some (.tup (k.map kV))/\r=Lx l k
def ZE(H:Hp)(a:AT)(y v:V)(m:Hp):Prop:=
 (∃l k,H a=some (.dK l)/\y=kV k/\l.length < sizeLine/\m=upd H a (.dK (NA l k v))) ∨
 ∃l k b,H a=some (.dT l)/\y=.ref b/\H b=some (.tup (k.map kV))/\l.length < sizeLine/\m=upd H a (.dT (NA l k v))
def QS.k{H}{a}{l}{k}(e:H a=some (.dK l)):QS H a (kV k) (Lx l k):=.inl ⟨l,k,.inl e,rfl,rfl⟩
def QS.t{H}{a b}{l}{k}(e:H a=some (.dT l))(eb:H b=some (.tup (k.map kV))):QS H a (.ref b) (Lx l k):=.inr ⟨l,k,b,.inl e,rfl,eb,rfl⟩
def ZE.k{H}{a}{l}{k}{v}(e:H a=some (.dK l))(m:l.length < sizeLine):ZE H a (kV k) v (upd H a (.dK (NA l k v))):=.inl ⟨l,k,e,rfl,m,rfl⟩
def ZE.t{H}{a b}{l}{k}{v}(e:H a=some (.dT l))(eb:H b=some (.tup (k.map kV)))(m:l.length < sizeLine) :
  ZE H a (.ref b) v (upd H a (.dT (NA l k v))):=.inr ⟨l,k,b,e,rfl,eb,m,rfl⟩
variable{X:Cx}{a b:Expr}{ta tb:TE}{pos:Pos}
def IxR.or(h:IxR X r)(h':IxR X E):IxR X (λx y H Q=>r x y H Q∨E x y H Q):=by
 intro value l m s o H x y v u Q I A B q C
 rcases q with q | q
 ·exact h value l m s o H x y v u Q I A B q C
 ·exact h' value l m s o H x y v u Q I A B q C
def vV(l:IxR X r)(m:PE X a ta)(hb:PE X b tb)(o:XU b):PE X (.Subscript a b pos) (tOp r ta tb):=by
 intro A s B H Q I h;exact Subscript_ (uE m hb I h λv u C x y E G J L q=>l a b A C B E x y v u Q G J L q (o _ _))
def rIxL(K:AE):R2:=λx y H Q=>∃p l i v,x=.ref p/\y=.int i/\SqL K H p l/\atI l i=some v/\Q v H
def rIxT(K:AE):R2:=λx y H Q=>∃p l i v,x=.ref p/\y=.int i/\SqT K H p l/\atI l i=some v/\Q v H
def ix_list:IxR X (rIxL X.K):=by
 intro value m B s C H x y v u Q I L N h E;obtain⟨p,xs,i,z,rfl,rfl,O,P,q⟩:=h;cases L;obtain⟨t,rfl⟩:=N;obtain⟨R,r,o,hz⟩:=I.list O;obtain⟨j,l,S,h3,T,U⟩:=dH P;obtain⟨w,G,Y⟩:=r.get S;have Z:=r.length;have hn:=Q0;have fin:EP X B C Q w s:=⟨z,H,I,Y,q⟩
 by_cases J:0<=i
 ·have A:i.toNat=j:=by
   rw[lQ J U]at l;exact B2 l
  exact item_listR o.isList J (by lia) (by rw[A];simpa using G) fin E
 ·have A:(i+(R.toArray.size:Int)).toNat=j:=by
   rw[seqIndex_neg (by lia) T]at l;rw[Ax,<-Z];exact B2 l
  exact gR (x:=w) o.isList.typeIs slot_list_getitem.lookup
   (wpAny_getItem_list_neg (Q:=λr s'=>r=w/\EP X B C Q r s') o.isList (by lia) (by rw[Ax] <;> lia) (by lia) (by rw[A];simpa using G) ⟨rfl,fin⟩) E
def sw:IxR X (rIxT X.K):=by
 intro value l m s o H x y v u Q I B C h E;obtain⟨p,T,i,z,rfl,rfl,G,J,q⟩:=h;cases B;obtain⟨t,rfl⟩:=C;obtain⟨U,r,A,Y⟩:=I.tuple G;obtain⟨j,L,N,Z,h4,h5⟩:=dH J;obtain⟨w,O,P⟩:=r.get N;have R:=r.length;have hn:=Q0;have fin:EP X m o Q w s:=⟨z,H,I,P,q⟩
 exact gR (x:=w) A.typeIs slot_tuple_getitem.lookup
  (getItem_tuple (j:=j) (Q:=λr S=>r=w/\EP X m o Q r S) A (by lia) (by lia) (by rw[Ax,<-R];exact L) (by simpa using O) ⟨rfl,fin⟩) E
def aT(l:List AI)(n j:Nat)(u:AI):Go (·.setIfInBounds j u) { cls:=.type "list",data:=.seq l.toArray n }={ cls:=.type "list",data:=.seq (l.set j u).toArray n }:=by
 simp[Go]
def Inv.lst(I:Inv X m σ H s)(h:H p=some (.lst xs)) :
  ∃(l:List AI) (n:Nat),CQ xs l/\s.heap.get? p=some { cls:=.type "list",data:=.seq l.toArray n }/\xs.length<=sizeLine:=by
 obtain⟨z,l,n,r,e⟩:=I.hok p _ h;exact⟨l,n,r,e,z⟩
def Inv.lstUpd{o:List (AT×Obj)}{σ:St}{H:Hp}{s:AK}{p:AT}{xs l:List V}{A its':List AI}{n m:Nat}{f:Obj->Obj}(I:Inv X o σ H s)(h:H p=some (.lst xs))
  (ho:s.heap.get? p=some { cls:=.type "list",data:=.seq A.toArray n }) (B:f { cls:=.type "list",data:=.seq A.toArray n }={ cls:=.type "list",data:=.seq its'.toArray m }) (r:CQ l its') (C:l.length<=sizeLine) (t:Nat) :
  Inv X o σ (upd H p (.lst l)) { s with heap:=s.heap.update p f,toks:=t }:=by
 have e:(s.heap.update p f).get? p=some { cls:=.type "list",data:=.seq its'.toArray m }:=by
  rw[EV f ho (by rw[B] <;> rfl),B]
 refine I.write (x:=p) (e:=p) (by rw[h];trivial) (.inl rfl) (λb u hb q=>(D5 _ _ (CF hb)).trans q) ⟨_,e⟩ ?_;exact⟨C,its',m,r,e⟩
def vK:V->V->V->Hp->(Hp->Prop)->Prop:=λo i v H Q=>∃p l k j,o=.ref p/\i=.int k/\H p=some (.lst l)/\ixN l.length k=some j/\Q (upd H p (.lst (l.set j v)))
def iV:wf X vK:=by
 intro O s P H o i v ov iv u Q I R S T h;obtain⟨p,U,k,j,rfl,rfl,C,Y,q⟩:=h;cases R;obtain⟨t,rfl⟩:=S;obtain⟨E,n,r,m,Z⟩:=I.lst C;obtain⟨l,h2,G,J⟩:=cW Y;have A:=r.length;have hn:=Q0
 have L:Inv X O P (upd H p (.lst (U.set j v))) { s with heap:=s.heap.update p (Go (·.setIfInBounds j u)) }:=
  I.lstUpd C m (aT E n j u) (r.set T j) (by rw[Dw];exact Z) s.toks
 by_cases N:0<=k
 ·have B:k.toNat=j:=by
   rw[lQ N J]at l;exact B2 l
  exact PySem.W.ki_setAt m N (by lia) (by rw[Ax,<-A];exact J) (by rw[B];exact⟨_,L,q⟩)
 ·have B:(k+(E.toArray.size:Int)).toNat=j:=by
   rw[seqIndex_neg (by lia) G]at l;rw[Ax,<-A];exact B2 l
  exact PySem.W.ki_setBack m (by lia) (by rw[Ax,<-A];exact G) (by lia) (by rw[B];exact⟨_,L,q⟩)
def XR:JU X (.builtin "len") (λxs H Q=>∃p m,xs=[.ref p]/\(SqL X.K H p m∨SqT X.K H p m)/\Q (.int m.length) H):=by
 intro J s L H xs N Q I r h;obtain⟨p,m,rfl,o,q⟩:=h;obtain⟨u,rfl,C⟩:=vals1 r;cases C;have O:=Q0
 rcases o with o | o
 ·obtain⟨E,A,B,G⟩:=I.list o
  have l:=A.length;exact Calls.call_len_list B.isList (by simp only[Ax] <;> lia) ⟨.int m.length,H,I.tok _,⟨s.toks+1,by rw[Ax,l]⟩,q⟩
 ·obtain⟨E,A,B,G⟩:=I.tuple o
  have l:=A.length;exact len_tuple B (by simp only[Ax] <;> lia) ⟨.int m.length,H,I.tok _,⟨s.toks+1,by rw[Ax,l]⟩,q⟩
def XQ:JU X (.type "list") (λxs H Q=>∃p B,xs=[.ref p]/\(SqL X.K H p B∨SqT X.K H p B)/\∀l,H l=none->Q (.ref l) (upd H l (.lst B))):=by
 intro T s U H xs Z Q I r h;obtain⟨p,B,rfl,G,q⟩:=h;obtain⟨u,rfl,Y⟩:=vals1 r;cases Y
 have fin:∀(A:List AI),CQ B A->B.length<=sizeLine->∀(m:DA) (C:Nat),(∀b S,s.heap.get? b=some S->m.get? b=some S) ->
   m.get? s.heap.objs.size=some { cls:=.type "list",dict:=none,data:=.seq A.toArray C,slots:=#[] }->EP X T U Q (.ref s.heap.objs.size) { s with heap:=m }:=λA E J m C kp e=>
  ⟨.ref s.heap.objs.size,_,I.laid (t':=s.toks) kp (AO _) (show Ck X.prog X.w _ m _ (.lst B)from⟨J,A,C,E,e⟩),rfl,q _ (I.hok.fresh (AO _))⟩
 rcases G with G | G
 ·obtain⟨A,E,N,J⟩:=I.list G
  have L:=E.length;obtain⟨o,O,P,n,R⟩:=N.isList;exact call_list_seq p (.inl rfl) O P R (λm C kp e=>fin A E J m C kp e) (by simp only[Ax] <;> lia)
 ·obtain⟨A,E,N,J⟩:=I.tuple G
  have L:=E.length;obtain⟨o,O,P,n,R⟩:=N;exact call_list_seq p (.inr rfl) O P R (λm C kp e=>fin A E J m C kp e) (by simp only[Ax] <;> lia)
def U9:JU X (.type "tuple") (λxs H Q=>∃p m,xs=[.ref p]/\((SqL X.K H p m/\∀l,H l=none->Q (.ref l) (upd H l (.tup m)))∨(SqT X.K H p m/\Q (.ref p) H))):=by
 intro J s L H xs T Q I r h;obtain⟨p,m,rfl,h⟩:=h;obtain⟨u,rfl,R⟩:=vals1 r;cases R
 rcases h with⟨B,q⟩ | ⟨B,q⟩
 ·obtain⟨C,E,G,N⟩:=I.list B
  have O:=E.length;refine call_tuple_list G.isList (λA kp=>?_) (by simp only[Ax] <;> lia);have P:Inv X J L H { s with heap:=A }:=I.kept (t':=s.toks) kp
  have S:Inv X J L (upd H A.objs.size (.tup m)) { s with heap:=A.push { cls:=.type "tuple",data:=.seq C.toArray } }:=
   P.laid (t':=s.toks) (λb o e=>AR _ e) (AO _) (show Ck X.prog X.w _ _ _ (.tup m)from⟨⟨N,⟨_,Al _ rfl,rfl⟩⟩,C,E,xD _ _⟩)
  exact⟨.ref A.objs.size,_,S,rfl,q _ (P.hok.fresh (AO _))⟩
 ·obtain⟨C,E,G,N⟩:=I.tuple B
  exact call_tuple_same G ⟨.ref p,H,I,rfl,q⟩
def tyV(K:AE)(T:String)(x:V)(H:Hp):Prop:=match x with
 | .str _=>T = "str"
 | .int _=>T = "int"
 | .ref p=>(T = "list"/\∃m,SqL K H p m)∨(T = "tuple"/\∃o,K.lookup p=some o/\o.cls=.type "tuple"/\o.dict=none) ∨
   (T = "dict"/\((∃l,H p=some (.dK l))∨∃l,H p=some (.dT l)))∨(T = "set"/\∃S n,H p=some (.set S n))
 | _=>False
def iD(I:Inv X L σ H s)(r:RelV x v)(ty:tyV X.K T x H) :
  s.TypeIs v T/\∀a,v=.ref a->∃B,s.heap.get? a=some B/\B.dict=none:=by
 cases x with
 | str z=>
  obtain⟨t,rfl⟩:=r;cases(show T = "str" from ty);exact⟨typeIs_str s z t,λ_ e=>nomatch e⟩
 | int i=>
  obtain⟨t,rfl⟩:=r;cases(show T = "int" from ty);exact⟨typeIs_int s i t,λ_ e=>nomatch e⟩
 | ref p=>
  cases r
  rcases ty with⟨rfl,N,E⟩ | ⟨rfl,o,l,G,m⟩ | ⟨rfl,l⟩ | ⟨rfl,S,n,l⟩
  ·obtain⟨O,_,C,_⟩:=I.list E
   refine⟨C.isList.typeIs,λa e=>?_⟩;cases e;obtain⟨o,n,e,c,m,_⟩:=C;exact⟨o,e,m⟩
  ·refine⟨⟨o,I.kIn p o l,G⟩,λa e=>?_⟩
   cases e;exact⟨o,I.kIn _ o l,m⟩
  ·have z:∃o,s.heap.get? p=some o/\o.ExactDict:=by
    rcases l with⟨J,l⟩ | ⟨J,l⟩
    ·obtain⟨_,_,_,_,o,_,_,e,ex,_⟩:=I.hok p _ l
     exact⟨o,e,ex⟩
    ·obtain⟨_,_,_,_,o,_,_,e,ex,_⟩:=I.hok p _ l
     exact⟨o,e,ex⟩
   obtain⟨o,e,ex⟩:=z;refine⟨⟨o,e,ex.1⟩,λa A=>?_⟩;cases A;exact⟨o,e,ex.2.1⟩
  ·obtain⟨o,_,_,_,e,ex,_⟩:=I.hok p _ l
   refine⟨⟨o,e,ex.1⟩,λa A=>?_⟩;cases A;exact⟨o,e,ex.2.1⟩
 | _=>exact Ep ty
def tBM0(K:AE)(T:String)(r:V->List V->Hp->VK->Prop)(to:TE):TE:=λm H Q=>to m H λx l=>tyV K T x l/\r x [] l Q
def tBM(K:AE)(T:String)(r:V->List V->Hp->VK->Prop)(to:TE)(t:TA):TE:=λl H Q=>to l H λx m=>tyV K T x m/\t l m λo s=>r x o s Q
variable{o e:Expr}{es:List Expr}{to:TE}{t:TA}{name:Str}{apos xl:Pos}{T id:String}{r:V->List V->Hp->VK->Prop}
def sG(G:PlainAttrs T)(l:Slot T name id)(m:typeOf (.builtin id)=pure (.type "method_descriptor")) (J:MtR X id r) (ho:PE X o to)
  (L:Gi o name X.env (Cd o X.env)=Cd o X.env:=by rfl) (N:(apos.endLine==xl.line)=true:=by rfl):PE X (.Call (.Attribute o name apos) [] [] xl) (tBM0 X.K T r to):=by
 intro A s B H Q I h;refine wpAny_Call_method0_late L N (thn (ho A s B H _ I h) λv O ⟨x,P,C,E,ty,R⟩=>?_);obtain⟨S,U⟩:=iD C E ty;exact⟨T,id,G,l,m,S,U,Xm rfl (PySem.evalArgs_none (J A O B P x [] v [] Q C E .nil R))⟩
def p8(J:PlainAttrs T)(l:Slot T name id)(m:typeOf (.builtin id)=pure (.type "method_descriptor")) (L:MtR X id r) (ho:PE X o to) (N:PA X (e :: es) t)
  (O:Gi o name X.env (Cd o X.env)=Cd o X.env:=by rfl)
  (P:((ER xl (AY (e :: es) X.env)).all (λx=>!x.1)&&(Zb xl (QV [] X.env)).all (λx=>x.1.isSome)
    &&decide ((e :: es).length+([]:List ZP).length+(if ([]:List ZP).isEmpty then 0 else 1) < 30))=true:=by rfl)
  (R:(apos.endLine==xl.line)=true:=by rfl) (S:AY (e :: es) X.env=(false,Cd e X.env) :: AY es X.env:=by rfl) (U:(ER xl (AY es X.env)).any (·.1)=false:=by rfl) :
  PE X (.Call (.Attribute o name apos) (e :: es) [] xl) (tBM X.K T r to t):=by
 intro A s B H Q I h;refine wpAny_Call_method_late O P R rfl (thn (ho A s B H _ I h) λv Y ⟨x,Z,C,E,ty,q1⟩=>?_);obtain⟨h1,h2⟩:=iD C E ty;refine⟨T,id,J,l,m,h1,h2,?_⟩;have G:=N xl A Y B Z _ C q1;rw[S]at G ⊢;refine Xm (by show(false||(ER xl (AY es X.env)).any (·.1))=false;rw[U] <;> rfl) (Zn ?_)
 exact thn G λus s2 ⟨vs,H2,I2,r2,q2⟩=>L A s2 B H2 x vs v us Q I2 E r2 q2
end
section
def MtM(X:Cx)(id:String)(r:V->List V->Hp->VK->Prop):Prop:=
 ∀(l:List (AT×Obj)) (s:AK) (m:St) (H:Hp) (x:V) (o:List V) (v:AI) (B:List AI) (Q:VK),Inv X l m H s->RelV x v->CQ o B->r x o H Q ->
  Am (Ag X.prog X.w) X.A (call (.builtin id) (v :: B)) (EP X l m Q) X.xe s
def CQ.one:∀{x:V} {us:List AI},CQ [x] us->∃u,us=[u]/\RelV x u
 | _,_,.cons r .nil=>⟨_,rfl,r⟩
section
variable{X:Cx}{ζ:List (AT×Obj)}{σ:St}{H:Hp}{s:AK}{a:AT}{y v:V}{u r:AI}{o:Option V}{A:Bs}{E:AI->AK->Prop}
def Inv.big(I:Inv X ζ σ H s):D7 < s.heap.objs.size:=by
 have h:BN < s.heap.objs.size:=(I.mod.glob.keeps I.bk).lt;exact ui (by decide) h
def fY(J:A.units+1 < EY)(I:Inv X ζ σ H s)(g:QS H a y (some v))(G:RelV y u)(h:∀w' s',Inv X ζ σ H s'->RelV v w'->Q w' s') :
  Am (Ag X.prog X.w) A (ZH (.ref a) u) Q E s:=by
 rcases g with⟨L,k,e,m,l⟩ | ⟨L,k,b,e,m,N,l⟩
 ·subst m
  obtain⟨z,O,P,rel,B⟩:=Y0 I.hok e;obtain⟨w',hw,C⟩:=Oe.some_of (v:=v) (o:=Ug P k) (by rw[l];exact rel.val k);exact wpAny_getItem_of (Yq G) B.mapOf hw (h w' _ (I.tok _) C)
 ·subst m
  cases(show u=BB b from G);obtain⟨z,O,R,rel,B⟩:=Yz I.hok e;obtain⟨w',hw,C⟩:=Oe.some_of (v:=v) (o:=(Zc R k).map (·.2)) (by rw[l];exact rel.val k);obtain⟨p,S,T⟩:=Hv.mp hw;refine wpAny_getItem_heap (Lp J) (Tx I.hok N) B S ?_;rw[T];exact h w' _ (I.tok _) C
def d_in(J:A.units+1 < EY)(I:Inv X ζ σ H s)(g:QS H a y o)(G:RelV y u)(h:∀s',Inv X ζ σ H s'->Q (.bool o.isSome) s') :
  Am (Ag X.prog X.w) A (CS .In u (.ref a)) Q E s:=by
 rcases g with⟨L,k,e,m,l⟩ | ⟨L,k,b,e,m,N,l⟩
 ·subst m
  obtain⟨z,B,O,rel,C⟩:=Y0 I.hok e;refine wpAny_in_of (Yq G) B C.mapOf ?_;rw[<-(rel.val k).isSome_eq,<-l];exact h _ (I.tok _)
 ·subst m
  cases(show u=BB b from G);obtain⟨z,B,P,rel,C⟩:=Yz I.hok e;refine wpAny_in_heap (Lp J) (Tx I.hok N) B C ?_;have q:=(rel.val k).isSome_eq;rw[Hw]at q;rw[<-q,<-l];exact h _ (I.tok _)
def pG(J:A.units+1 < EY)(I:Inv X ζ σ H s)(g:QS H a y o)(G:RelV y u)(h:∀s',Inv X ζ σ H s'->Q (.bool (!o.isSome)) s') :
  Am (Ag X.prog X.w) A (CS .NotIn u (.ref a)) Q E s:=by
 rcases g with⟨L,k,e,m,l⟩ | ⟨L,k,b,e,m,N,l⟩
 ·subst m
  obtain⟨z,B,O,rel,C⟩:=Y0 I.hok e;refine wpAny_notIn_of (Yq G) B C.mapOf ?_;rw[<-(rel.val k).isSome_eq,<-l];exact h _ (I.tok _)
 ·subst m
  cases(show u=BB b from G);obtain⟨z,B,P,rel,C⟩:=Yz I.hok e;refine wpAny_notIn_heap (Lp J) (Tx I.hok N) B C ?_;have q:=(rel.val k).isSome_eq;rw[Hw]at q;rw[<-q,<-l];exact h _ (I.tok _)
def cy(I:Inv X ζ σ H s)(m:Mut (H a))(B:FK a s.heap h')(C:∃q,h'.get? a=some q)(new:Ck X.prog X.w (upd H a l) h' a l) :
  Inv X ζ σ (upd H a l) { s with heap:=h',toks:=t' }:=
 I.write (x:=a) (e:=a) m (.inl rfl) (λb q hb z=>(B.2 b hb).trans z) C new
def uB(z:l.length<=sizeLine)(m:(a==D7)=false)(rel:KV l vs)(dd:h'.DictOf (Es P w) a vs) :
  Ck P w B h' a (.dK l):=⟨z,m,vs,rel,dd⟩
def fX(hu:A.units+1 < EY)(I:Inv X ζ σ H s)(g:ZE H a y v H')(S:RelV y u)(T:RelV v r)(h:∀s',Inv X ζ σ H' s'->Q () s') :
  Am (Ag X.prog X.w) A (uO (.ref a) u r) Q E s:=by
 rcases g with⟨B,k,e,G,l,J⟩ | ⟨B,k,b,e,G,U,l,J⟩
 ·subst G J
  obtain⟨z,L,vs,rel,N⟩:=wT I.hok e
  have O:vs.length<=sizeLine:=by rw[<-rel.length];exact z
  have P:(NA B k v).length<=sizeLine:=by have:=Rf B k v;lia
  refine wpAny_setItem_pairs (hsz:=O) (Yq S) N λY m R=>h _ ?_
  have he:∃q,Y.get? a=some q:=let ⟨q,_,_,C,_⟩:=m;⟨q,C⟩
  exact cy I (by rw[e];exact FJ) R he (uB P L (rel.put k T) m)
 ·subst G J
  cases(show u=BB b from S);obtain⟨z,L,xs,rel,N⟩:=wR I.hok e
  have O:xs.length<=sizeLine:=by rw[<-FQ rel];exact z
  have P:(NA B k v).length<=sizeLine:=by have:=Rf B k v;lia
  refine wpAny_setItem_heap (hsz:=O) (Lp hu) (Tx I.hok U) N λY m R=>h _ ?_
  obtain⟨q,es,ep,C,h2,h3,h4,_,h5⟩:=m;refine cy I (by rw[e];exact FJ) R ⟨q,C⟩ ⟨P,L,_,(rel.put k U T).keeps λc ys Z=>?_,q,es,ep,C,h2,h3,h4,h5⟩;rw[Bb (vk Z e (λz=>nomatch z))];exact Z
variable{X:Cx}{ζ:List (AT×Obj)}{σ:St}{H:Hp}{s:AK}{l:AT}{xs ys:List V}
def Inv.lset{m its':List AI}{n:Nat}{f:Array AI->Array AI}{t':Nat}(I:Inv X ζ σ H s)(B:H l=some (.lst xs))
  (e:s.heap.get? l=some { cls:=.type "list",data:=.seq m.toArray n }) (C:f m.toArray=its'.toArray) (G:CQ ys its') (J:ys.length<=sizeLine) :
  Inv X ζ σ (upd H l (.lst ys)) { s with heap:=s.heap.update l (Go f),toks:=t' }:=by
 have q:=PySem.IsL.update e f;rw[C]at q;refine I.write (x:=l) (e:=l) (by rw[B];exact trivial) (.inl rfl) (λN u hb L=>(D5 s.heap (Go f) (CF hb)).trans L) ⟨_,q⟩ ?_;exact⟨J,its',_,G,q⟩
def Inv.lnew(I:Inv X ζ σ H s)(B:CQ ys m)(C:ys.length<=sizeLine) :
  Inv X ζ σ (upd H s.heap.objs.size (.lst ys)) { s with heap:=s.heap.push { cls:=.type "list",data:=.seq m.toArray },toks:=t' }:=
 I.laid (λ_ _ q=>AR _ q) (AO _) ⟨C,m,0,B,Al _ rfl⟩
def Inv.fresh(I:Inv X ζ σ H s):H s.heap.objs.size=none:=I.hok.fresh (AO _)
def Inv.lstM(I:Inv X ζ σ H s)(B:H l=some (.lst xs)):xs.length<=sizeLine/\∃(m:List AI) (n:Nat),CQ xs m/\xs.length=m.length/\s.heap.get? l=some { cls:=.type "list",data:=.seq m.toArray n }:=by
 obtain⟨z,m,n,r,e⟩:=I.hok l _ B;exact⟨z,m,n,r,r.length,e⟩
def jD(h:n<=sizeLine):Jf n=false:=by
 unfold Jf;exact wY (by lia)
end
def uJ(i:Expr):Prop:=∀l m,XX i false l m=operate [l,m] (ZH l m)
def mw{prog}{w}{A}{E}{s}{env}{value l}{pos}{T id}{Q}
  (J:typeLookup (.type T) "__getitem__" = pure (some (.builtin id))) (L:uJ l)
  (h:Am (Ag prog w) A (Cd value env) (λo B=>Am (Ag prog w) A (Cd l env) (λi s₂=>s₂.TypeIs o T/\Am (Ag prog w) A (ZH o i) Q E s₂) E B) E s) :
  Am (Ag prog w) A (Cd (.Subscript value l pos) env) Q E s:=by
 refine Subscript_ (Fq h (λo B G=>Fq G (λi s₂ m=>?_) λ_ _ x=>x) λ_ _ x=>x);obtain⟨I,m⟩:=m;unfold subscriptTail;refine AB ?_;rw[getitemInPython_of_ne I.not_modules];refine AB (wpAny_specialOf I J ?_)
 have fin:Am (Ag prog w) A (XX l false o i) (λr C=>Am (Ag prog w) A (letTemporaryGo value o r >>= λ_=>pure r) Q E C) E s₂:=by
  rw[L o i];exact wpAny_operating (Fq m (λr C H=>AB (wpAny_letTemporaryGo (AN H))) λ_ _ x=>x)
 first
  | exact AN (AB fin)
  | exact AB (AN (AB fin))
  | exact AB fin
def Y1(I:Inv X A σ H s)(g:QS H a y o):s.TypeIs (.ref a) "dict":=by
 rcases g with⟨m,k,e,_,_⟩ | ⟨m,k,b,e,_,_,_⟩
 ·obtain⟨_,_,B,_,l⟩:=Y0 I.hok e
  exact l.typeIs
 ·obtain⟨_,_,C,_,l⟩:=Yz I.hok e
  exact l.typeIs
def u9(o ty:TE):TE:=λl H Q=>o l H λx s=>ty l s λy m=>∃a v,x=.ref a/\QS m a y (some v)/\Q v m
def u8(ty s:TE):TE:=λl H Q=>ty l H λy A=>s l A λx m=>∃a o,x=.ref a/\QS m a y o/\Q (.bl o.isSome) m
def cB(ty s:TE):TE:=λl H Q=>ty l H λy A=>s l A λx m=>∃a o,x=.ref a/\QS m a y o/\Q (.bl (!o.isSome)) m
def vI(o ty s:TE):TS:=λD l H=>s l H λv A=>o l A λx B=>ty l B λy C=>∃a m,x=.ref a/\ZE C a y v m/\D.nx l m
variable{X:Cx}
def nF:V->List V->Hp->VK->Prop:=λx o H Q=>∃l m y,x=.ref l/\o=[y]/\H l=some (.lst m)/\m.length < sizeLine/\Q .non (upd H l (.lst (m++[y])))
def Vj:MtM X "list.append" nF:=by
 intro E s G H x J v L Q I A B h;obtain⟨l,N,y,rfl,rfl,m,O,q⟩:=h;cases A;obtain⟨u,rfl,C⟩:=B.one;obtain⟨z,o,n,r,P,e⟩:=I.lstM m;refine qO F.slot_list_append ⟨_,e,rfl⟩ F.entry_list_append (F.args_list_append_2 _ _) (PySem.list_append l o.toArray n u (by rw[Ax];lia)) ⟨e,?_⟩;refine⟨.non,_,I.lset (its':=o++[u]) m e (by simp) (r.append (.cons C .nil)) ?_,rfl,q⟩;rw[Ak,BU]
 lia
def nE:V->List V->Hp->VK->Prop:=λx s H Q=>∃l b m o,x=.ref l/\s=[.ref b]/\H l=some (.lst m)/\H b=some (.lst o)/\m.length+o.length<=sizeLine/\Q .non (upd H l (.lst (m++o)))
def en:MtM X "list.extend" nE:=by
 intro R s S H x T v U Q I E G h;obtain⟨l,b,Y,Z,rfl,rfl,C,J,hz,q⟩:=h;cases E;obtain⟨u,rfl,L⟩:=G.one;cases L;obtain⟨z,o,n,r,hl,e⟩:=I.lstM C;obtain⟨z2,A,N,O,yU,P⟩:=I.lstM J
 have B:o.toArray.size+A.toArray.size<=sizeLine:=by rw[Ax,Ax];lia
 have m:¬(!o.toArray.isEmpty&&Jf (o.toArray.size+A.toArray.size))=true:=by
  rw[jD B,Bool.and_false];exact AH
 refine qO F.slot_list_extend ⟨_,e,rfl⟩ F.entry_list_extend (F.args_list_extend_2 _ _)
  (AutoSeq1.list_extend_list_list_0 l o.toArray n b A.toArray N m (by rw[Ax];lia) (by lia)) ⟨e,P,?_⟩
 refine⟨.non,_,I.lset (its':=o++A) C e (by simp) (r.append O) ?_,rfl,q⟩;rw[Ak];omega
def rCat:R2:=λx y H Q=>∃l b m o,x=.ref l/\y=.ref b/\H l=some (.lst m)/\H b=some (.lst o)/\m.length+o.length<=sizeLine/\∀p,H p=none->Q (.ref p) (upd H p (.lst (m++o)))
def sS:OpR X (DM .Add) rCat:=by
 intro N s O H x y v u Q I A B h;obtain⟨l,b,R,S,rfl,rfl,C,E,T,q⟩:=h;cases A;cases B;obtain⟨z,m,n,r,U,e⟩:=I.lstM C;obtain⟨Y,o,Z,G,yU,J⟩:=I.lstM E;refine PySem.P.add_list e J ?_ (by rw[Ax,Ax];lia)
 have L:m.toArray++o.toArray=(m++o).toArray:=by simp
 rw[L];exact⟨.ref _,_,I.lnew (t':=s.toks) (r.append G) (by rw[Ak];omega),rfl,q _ I.fresh⟩
section
variable{X:Cx}{o i value:Expr}{pos pos':Pos}{td ty tv:TE}
def nY(C:X.A.units+1 < EY)(ho:PE X o td)(hi:PE X i ty)(E:uJ i):PE X (.Subscript o i pos) (u9 td ty):=by
 intro l s m H Q I h;refine mw PySem.F.slot_dict_getitem.lookup E (thn (ho l s m H _ I h) λu G ⟨x,J,L,N,O⟩=>thn (hi l G m J _ L O) λY Z ⟨y,P,B,R,a,v,ex,g,S⟩=>?_);subst ex;obtain rfl:u=BB a:=N;exact⟨Y1 B g,fY C B g R λw' s3 T U=>⟨v,P,T,U,S⟩⟩
def sJ(B:X.A.units+1 < EY)(hi:PE X i ty)(ho:PE X o td):PC X .In i o (u8 ty td):=by
 intro l s m H Q I h
 refine thn (hi l s m H _ I h) λU C ⟨y,E,G,J,L⟩=>thn (ho l C m E _ G L) λu Y ⟨x,N,O,P,a,R,ex,g,S⟩=>?_
 subst ex;obtain rfl:u=BB a:=P
 exact d_in B O g J λZ T=>⟨.bl R.isSome,N,T,rfl,S⟩
def Ve(B:X.A.units+1 < EY)(hi:PE X i ty)(ho:PE X o td):PC X .NotIn i o (cB ty td):=by
 intro l s m H Q I h
 refine thn (hi l s m H _ I h) λU C ⟨y,E,G,J,L⟩=>thn (ho l C m E _ G L) λu Y ⟨x,N,O,P,a,R,ex,g,S⟩=>?_
 subst ex;obtain rfl:u=BB a:=P
 exact pG B O g J λZ T=>⟨.bl (!R.isSome),N,T,rfl,S⟩
def nM(B:X.A.units+1 < EY)(ho:PE X o td)(hi:PE X i ty)(C:PE X value tv)(E:HI value (some (.Subscript o i pos')) pos.line X.env=pure false) :
  PS X (.Assign [.Subscript o i pos'] value pos) (vI td ty tv):=by
 intro m s l H D I h;refine wpAny_Assign_Subscript (thn (C m s l H _ I h) λr G ⟨v,J,L,N,O⟩=>thn (ho m G l J _ L O) λu P ⟨x,Q,R,S,T⟩=>thn (hi m P l Q _ R T) λiv s3 ⟨y,H3,U,Y,a,Z,ex,g,q3⟩=>?_) E;subst ex;obtain rfl:u=BB a:=S
 exact fX B U g Y N λs4 I4=>⟨l,Z,I4,q3⟩
end
def kZ(h:DA)(hb:D7 < h.objs.size):Ck P w H (h.push { cls:=.type "dict",data:=.dict #[] }) h.objs.size (.dK []):=
 ⟨Dp _,beq_eq_false_iff_ne.mpr (CF (A0 hb)),[],.nil,DA.DictOf.new h⟩
def kX(h:DA)(hb:D7 < h.objs.size):Ck P w H (h.push { cls:=.type "dict",data:=.dict #[] }) h.objs.size (.dT []):=
 ⟨Dp _,beq_eq_false_iff_ne.mpr (CF (A0 hb)),[],.nil,_,#[],0,Al _ rfl,⟨rfl,rfl,rfl⟩,rfl,rfl,Gj⟩
def rG:TE:=λ_ H Q=>∀p,H p=none->Q (.ref p) (upd H p (.dK []))
def rF:TE:=λ_ H Q=>∀p,H p=none->Q (.ref p) (upd H p (.dT []))
variable{s:AK}
section
variable{X:Cx}{pos:Pos}
def iy:PE X (.Dict [] [] pos) rG:=λl s m H Q I h=>
 uZ ⟨.ref s.heap.objs.size,_,I.laid (a:=s.heap.objs.size) (o:=.dK []) (t':=s.toks) (λ_ _ q=>AR _ q) (AO _) (kZ s.heap I.big),rfl,h _ (I.hok.fresh (AO _))⟩
def iw:PE X (.Dict [] [] pos) rF:=λl s m H Q I h=>
 uZ ⟨.ref s.heap.objs.size,_,I.laid (a:=s.heap.objs.size) (o:=.dT []) (t':=s.toks) (λ_ _ q=>AR _ q) (AO _) (kX s.heap I.big),rfl,h _ (I.hok.fresh (AO _))⟩
end
end
end L2
namespace Att
open PySem.W PySem.Calls
def R4:∀(ns:ZLi) (vs:List AI),WellAll P h vs (ns.map wo)->EU vs ns:=by
 intro ns
 induction ns with
 | nil=>
  intro vs w;rw[NH]at w;cases w;exact .nil
 | cons n ns l=>
  intro vs w;rw[As]at w
  cases w with
  | cons a b=>
   cases a;exact .cons _ _ (l _ b)
def eG{l:OpenLaw}{n:Nat}(H:l.most=some n){P:Params}{h:DA}{args:List WData}{m:List AI}
  (E:l.row.toRowW.claim.pre args=true) (B:WellAll P h m args) :
  ∃a vs ns,m=[BB a]/\args=[WData.list (ns.map wo)]/\h.get? a=some { cls:=.type "list",data:=.seq vs.toArray }/\EU vs ns/\ns.length<=n:=by
 have C:WShape.hasAll [] args [.list .int]=true:=(pre_splitW E).1;have G:l.pre.holds [] { args:=args }=true:=(pre_splitW E).2;obtain⟨d,r,rfl,I,J⟩:=hasAllW_cons C;obtain rfl:=hasAllW_nil J;obtain⟨T,rfl,L⟩:=hasW_list I;obtain⟨ns,rfl⟩:=items_int L
 have o:ns.length<=n:=by
  unfold OpenLaw.pre at G
  have s:(WTm.not (.lt (.lit (.int (n:Int))) (.len (.arg 0)))).holds [] { args:=[.list (ns.map .int)] }=true:=by
   have s:=(holds_andW G).1;rw[H]at s;exact s
  have A:=condW_of s (w_not (w_lt w_lit (w_len_list (w_arg rfl))));rw[AF]at A
  refine Sa λq=>?_
  have N:(n:Int) < ((ns.length:Nat):Int):=by omega
  first
   | (rw[wX N]at A;exact zX A (by decide))
   | (simp at A;omega)
 cases B with
 | cons O Q=>
  cases Q
  cases O with
  | list R S=>exact⟨_,_,ns,rfl,rfl,R,R4 ns _ S,o⟩
def eX(l:OpenLaw)(args:List WData):l.row.toRowW.claim.post args (.bool true) args=true:=
 postW_of (r:=l.row.toRowW) (X:=(true==true))
  (show uR [] (.bool true) .bool=true by first | rfl | decide | simp[uR,WShape.arms,WShape.armsAll])
  (show(WTm.eq .res (.lit (.bool true))).value [] { args:=args,res:=some (.bool true),after:=args }=some (.bool (true==true))from w_eq_bool (w_res rfl) w_lit) rfl
def Y8{l:OpenLaw}{n:Nat}{q:Bf}{s:List Str}{P:(Str->Option AI)->DA->Prop}{Q:CH->DA->Prop}{d:DefRec}
  (X:l.most=some n) (L:d.params.defaults=[])
  (call:∀(w:CH) (A m:AK) (I mb:Str->Option AI) (E:AT) (o:Obj) (N J B:AI) (a:AT) (vs:List AI) (ns:ZLi),
   Ground q s [] P w A I mb m.heap->Q w m.heap ->
   m.heap.get? E=some o->o.data=.func (docDef d.name d.params d.body d.scope N J B)->m.heap.CodeRec J d.name->I d.name=some (.ref E) ->
   m.heap.get? a=some { cls:=.type "list",data:=.seq vs.toArray }->EU vs ns->ns.length<=n->m.gens = #[] ->
   Ox (Ag l.prog w) Ui (.call (.ref E) ⟨[.ref a],[]⟩) (λr s'=>r=.ok (.ret (.bool true))/\OldK m.heap s'.heap/\s'.os=m.os/\KL s'.gens) m) :
  WalkO q s P Q l.row.toRowW d [] (λf vs=>dP f vs):=by
 intro w A m I mb G Y E o N J B Z kV ho hd yJ R Κ hg S T as zN U hrd O zO;obtain rfl:Z=.none:=Dflts.none R L;obtain rfl:kV=.none:=Dflts.noKw R;obtain⟨a,vs,ns,rfl,rfl,Λ,C,H⟩:=eG X zN O;refine enter_call (Uh (call w A m I mb E o N J B a vs ns G Y ho (fd_plain hd) yJ Κ Λ C H hg) λr s' hq=>?_);obtain⟨rfl,h2,h3,h4⟩:=hq;exact⟨.inl ⟨.bool true,.bool true,[],rfl,λ_=>rfl,.bool true,eX l _,λ_=>⟨uk,λ_ hm=>(nomatch hm)⟩⟩,h2,h3,h4⟩
end Att
namespace L2
theorem Va:∀{vs:List AI} {ns:ZLi},EU vs ns->CQ (ns.map V.int) vs
 | _,_,.nil=>.nil
 | _,_,.cons n t h=>.cons ⟨t,rfl⟩ (Va h)
def pW(H:Hp):Prop:=∀b,H b=none∨∃o l,H b=some (.frz o (.lst l))
def ja{P}{w}{K}{C mb}{CX}{k}{S a}{fd}{x}{sp}{s₁}{vs}{ns}
  (KX:K.In s₁.heap) (z9:s₁.heap.Ns BN C) (hb:s₁.heap.Ns Za mb) (T:∀x:Str,x≠"__name__"->mb x=Fs x) (E:s₁.heap.NoLimit) (hg:s₁.gens = #[])
  (R:s₁.heap.get? a=some { cls:=.type "list",data:=.seq vs.toArray }) (hi:EU vs ns) (hl:ns.length<=sizeLine) (hr:IB k Ui)
  (F:∀base:DA,K.In base->base.Ns BN C->DF P w K C base CX k S fd [x] sp) (B:∀(s:AK) (u:AI),ZS s fd ⟨[u],[]⟩ [(x,u)])
  (ϩ:∀H:Hp,pW H->SqL K H a (ns.map V.int)->sp [.ref a] H (λv _=>v=.bl true) λ_ _ _=>False)
  (U:∀H e s',CX [] H s₁ (λ_ _ _=>False) e s'->False) :
  Ox (Ag P w) Ui (.call (.ref S) ⟨[.ref a],[]⟩) (λr s'=>r=.ok (.ret (.bool true))/\OldK s₁.heap s'.heap/\s'.os=s₁.os/\KL s'.gens) s₁:=by
 have rv:=Va hi;have G:=hi.length
 have A:∀H:Hp,pW H->SqL K H a (ns.map V.int)->HOk P w H s₁.heap->(∀b,H b≠none->b=a)->(H a≠none->K.lookup a=none) ->
   Ox (Ag P w) Ui (.call (.ref S) ⟨[.ref a],[]⟩) (λr s'=>r=.ok (.ret (.bool true))/\OldK s₁.heap s'.heap/\s'.os=s₁.os/\KL s'.gens) s₁:=by
  intro H hO hS I hA hK
  have yV:∀{b:AT} {o:Obj},s₁.heap.get? b=some o->H b=none->(W1 s₁.heap H).get? b=some o:=λe n=>jq e n
  have X:∀{b:AT} {o:Obj} {J:Array RO} {ep:Nat},s₁.heap.get? b=some o->o.data=.dict J ep->H b=none:=λ{b o J ep} e d=>by
   cases q:H b with
   | none=>rfl
   | some u=>
    have Y:b=a:=hA b (by rw[q];simp);subst Y;rw[R]at e;cases e;have d':Data.seq vs.toArray _=Data.dict J ep:=d;cases d'
  have l:∀{b:AT} {m:Str->Option AI},s₁.heap.Ns b m->(W1 s₁.heap H).Ns b m:=λ{b m} ⟨o,J,ep,e,d,r⟩=>⟨o,J,ep,yV e (X e d),d,r⟩
  have L:K.In (W1 s₁.heap H):=λb o e=>yV (KX b o e) (by
   cases q:H b with
   | none=>rfl
   | some u=>
    have Y:b=a:=hA b (by rw[q];simp);subst Y
    rw[hK (by rw[q];simp)]at e;cases e)
  have hM:Mod K C (W1 s₁.heap H):=⟨L,l z9,⟨mb,l hb,T⟩,let ⟨mc,h1,h2⟩:=E;⟨mc,l h1,h2⟩⟩;have e0:bO P w K C (W1 s₁.heap H) Ui [] s₁ H:=⟨rfl,hM,λb o e=>oF e,Zj (fF _ _),trivial,λb hb=>zX (show b∈([]:List AT)from hb) (by simp),I,.of_eq hg⟩
  refine Uh ((F _ L (l z9)).run Ui [] s₁ H ⟨[.ref a],[]⟩ [.ref a] [.ref a] _ _ hr e0 (B s₁ (.ref a)) (.cons rfl .nil) (ϩ H hO hS)) λr s' h=>?_
  cases r with
  | error e=>exact(U H e s' h).elim
  | ok fl=>
   cases fl with
   | next=>exact Ep h
   | brk=>exact Ep h
   | cont=>exact Ep h
   | ret u=>
    obtain⟨v,H',os,N,un,O,r',q⟩:=h;have q':v=.bl true:=q;subst q';obtain rfl:u=M6 true:=r';refine⟨rfl,OldK.of_keep λb o e=>?_,os,N⟩
    cases q:H b with
    | none=>exact un.keep b o e q (by intro z;exact zX (show b∈([]:List AT)from z) (by simp)) (by simp)
    | some u=>
     rcases hO b with z | ⟨ob,xs,z⟩
     ·rw[q]at z;cases z
     ·have z2:=un.frzs b ob _ z
      obtain⟨e1,_⟩:=I b _ z;obtain⟨e2,_⟩:=O b _ z2;rw[e]at e1;cases e1;exact e2
 cases Z:K.lookup a with
 | some o=>
  have e:=KX a o Z;rw[R]at e;cases e
  refine A (λ_=>none) (λ_=>.inl rfl) (.inr ⟨_,vs.toArray,_,Z,rfl,rfl,rfl,by rw[Ax,G];exact hl,by simpa using rv⟩) (λb u z=>by have Q:(none:Option HO)=some u:=z;cases Q) (λb z=>zX rfl z) λz=>zX rfl z
 | none=>
  refine A (λb=>if b=a then some (.frz { cls:=.type "list",data:=.seq vs.toArray } (.lst (ns.map V.int)))else none) (λb=>?_) (.inl (.inr ⟨{ cls:=.type "list",data:=.seq vs.toArray },qX rfl⟩)) (λb u z=>?_) (λb z=>?_) λ_=>Z
  ·by_cases hb:b=a
   ·exact .inr ⟨_,_,qX hb⟩
   ·exact .inl (qY hb)
  ·by_cases hb:b=a
   ·have Q:=(qX hb).symm.trans z
    cases Q;subst hb;exact⟨R,by rw[AF];exact hl,vs,_,rv,R⟩
   ·have Q:=(qY hb).symm.trans z
    cases Q
  ·by_cases hb:b=a
   ·exact hb
   ·exact zX (qY hb) z
def lv{l:PySem.W.OpenLaw}{n k:Nat}{q:Bf}{A:List Str}{Q:(Str->Option AI)->DA->Prop}{N:CH->DA->Prop}{d:DefRec}{K:Params->AE}{CX:CH->CXT}{sp:CH->Sp}{x:Str}
  (R:l.most=some n) (S:n<=sizeLine) (J:d.params.defaults=[]) (U:IB k Ui)
  (X:∀(w:CH) (h:DA),N w h->(K w.params).In h)
  (F:∀(w:CH) (C:Str->Option AI) (I:AT) (h:DA),(K w.params).In h->h.Ns BN C->C d.name=some (.ref I) ->
   ∃fd:KN,(∀(s:AK) (u:AI),ZS s fd ⟨[u],[]⟩ [(x,u)]) /\
    ∀base:DA,(K w.params).In base->base.Ns BN C->DF l.prog w (K w.params) C base (CX w) k I fd [x] (sp w))
  (ϩ:∀(w:CH) (H:Hp) (a:AT) (ns:ZLi),ns.length<=n->pW H->SqL (K w.params) H a (ns.map V.int)->sp w [.ref a] H (λv _=>v=.bl true) λ_ _ _=>False)
  (L:∀(w:CH) (H:Hp) (s:AK) (e:AI) (s':AK),CX w [] H s (λ_ _ _=>False) e s'->False) :
  PySem.W.WalkO q A Q N l.row.toRowW d [] (λf vs=>dP f vs):=by
 refine Att.Y8 R J λw O E C mb I o pm cd Z a vs ns G Y ho hd yJ Κ Λ B m hg=>?_
 have P:=X w _ Y;obtain⟨fd,hb,hF⟩:=F w C I _ P G.T.g Κ
 exact ja P G.T.g G.T.b G.T.builtins G.T.nolimit hg Λ B (Aw m S) U hF hb (λH hO hS=>ϩ w H a ns m hO hS) λH e s'=>L w H E e s'
def Mc(s:DQ)(j:Nat):DQ:=match s with
 | .ClassDef _ _ _ body _ _ _ _ _ _ _=>body.getD j (.Pass ⟨0,0,0,0⟩)
 | _=>.Pass ⟨0,0,0,0⟩
def Mm(s:DQ):Arguments:=match s with
 | .FunctionDef _ a _ _ _ _ _ _ _ _=>a
 | _=>{ posonlyargs:=[],args:=[],vararg:=none,kwonlyargs:=[],kw_defaults:=[],kwarg:=none,defaults:=[] }
def Jd(s:DQ):List DQ:=match s with
 | .FunctionDef _ _ b _ _ _ _ _ _ _=>b
 | _=>[]
def BD(s:DQ):Uj:=match s with
 | .FunctionDef _ _ _ _ _ _ l _ _ _=>l
 | _=>{ kind:=.function,names:=[],isGenerator:=false,isCoroutine:=false }
structure Fun(K:AE)(x qual:Str)(st:DQ)(f:AT)(fd:KN):Prop where
 ex:∃(oc:AI) (od:Option AT) (kV doc pm:AI) (an:Option AT) (xw ct:AI) (zh:Array (Option AI)),
  fd=JV x qual (Mm st) (Jd st) (BD st) .none kV doc pm an xw ct/\K.lookup f=some ⟨oc,od,.func fd,zh⟩/\SY K xw qual=true
 kp:Ft K (.ref f)=true
section
variable{K:AE}
def Fun.binds{x l}{st}{f}{fd}{ps}(F:Fun K x l st f fd)
  (h:∀(kV m o:AI) (s:Option AT) (A ct:AI) (us:List AI),us.length=ps.length->lT (JV x l (Mm st) (Jd st) (BD st) .none kV m o s A ct) ⟨us,[]⟩=pure (ps.zip us)):Binds K fd ps []:=by
 obtain⟨B,C,kV,m,o,s,A,ct,E,rfl,G,H⟩:=F.ex;exact .all (h kV m o s A ct)
def j9{x m}{st}{f}{C}{E A}{G}{kV o B s ct}(l:K.lookup f=some ⟨C,E,.func (JV x m (Mm st) (Jd st) (BD st) .none kV o B A s ct),G⟩)
  (c:SY K s m=true) (k:Ft K (.ref f)=true):Fun K x m st f (JV x m (Mm st) (Jd st) (BD st) .none kV o B A s ct):=⟨⟨C,E,kV,o,B,A,s,ct,G,rfl,l,c⟩,k⟩
end
section
variable{X:Cx}
def pv(i:Nat)(hN:X.N[i]?=some x:=by rfl)(l:Vis X.env.scope x:=by first | exact Ud rfl | exact RI (Ud rfl) | exact RI (RI rfl))(m:(x==("__debug__" : Str))=false:=by decide)
  (o:(x==("__classdict__" : Str))=false:=by decide):PE X (.Name x pos) (rB i):=rj hN l m o
end
inductive D where
 | non | bl (b:Bool) | int (i:Int) | str (x:Str) | tup (ds:List D) | fro (ds:List D) | ref (n:Nat) | exc (C:AT)
def VH(K:AE)(H:Hp)(a:AT)(vs:List V):Prop:=
 (∃o,H a=some (.frz o (.lst vs))) ∨
  ∃(o:Obj) (l:Array AI) (n:Nat),K.lookup a=some o/\o.cls=.type "list"/\o.dict=none/\o.data=.seq l n/\l.size<=sizeLine/\CQ vs l.toList
def VH.sq{K}{H}{a}{vs}(h:VH K H a vs):SqL K H a vs:=by
 rcases h with h | h
 ·exact .inl (.inr h)
 ·exact .inr h
def XW(o:Obj)(C:AT):Prop:=o.cls=.ref C/\o.dict=none/\∃l,o.data=.fields l
mutual
inductive CB(K:AE)(ρ:List AT)(H:Hp):D->V->Prop where
 | non:CB K ρ H .non .non
 | bl (b:Bool):CB K ρ H (.bl b) (.bl b)
 | int (i:Int):CB K ρ H (.int i) (.int i)
 | str (x:Str):CB K ρ H (.str x) (.str x)
 | tup {ds:List D} {a:AT} {vs:List V}:H a=some (.tup vs)->A9 K ρ H ds vs->CB K ρ H (.tup ds) (.ref a)
 | fro {ds:List D} {a:AT} {vs:List V}:VH K H a vs->A9 K ρ H ds vs->CB K ρ H (.fro ds) (.ref a)
 | ref {n:Nat} {a:AT}:ρ[n]?=some a->CB K ρ H (.ref n) (.ref a)
 | exc {C a:AT} {o:Obj} {u:HO}:H a=some (.frz o u)->XW o C->CB K ρ H (.exc C) (.ref a)
inductive A9(K:AE)(ρ:List AT)(H:Hp):List D->List V->Prop where
 | nil:A9 K ρ H [] []
 | cons {d:D} {v:V} {ds:List D} {vs:List V}:CB K ρ H d v->A9 K ρ H ds vs->A9 K ρ H (d :: ds) (v :: vs)
end
structure Le(K:AE)(ρ:List AT)(H:Hp)(ρ':List AT)(H':Hp):Prop where
 pre:∀(n:Nat) a,ρ[n]?=some a->ρ'[n]?=some a
 tup:∀a xs,H a=some (.tup xs)->H' a=some (.tup xs)
 frz:∀a o u,H a=some (.frz o u)->H' a=some (.frz o u)
 oth:∀a o,H a=some o->(∀n:Nat,ρ[n]?≠some a)->H' a=some o/\∀n:Nat,ρ'[n]?≠some a
def VH.mono{K}{H m}{a}{xs}(l:∀a o u,H a=some (.frz o u)->m a=some (.frz o u))(h:VH K H a xs):VH K m a xs:=by
 rcases h with⟨o,h⟩ | h
 ·exact .inl ⟨o,l _ _ _ h⟩
 ·exact .inr h
section
variable{K:AE}{ρ ρ' ρ'':List AT}{H H' zq:Hp}
def Le.fro(l:Le K ρ H ρ' H'):∀a xs,VH K H a xs->VH K H' a xs:=λ_ _ h=>h.mono l.frz
def Le.refl:Le K ρ H ρ H:=⟨λ_ _ h=>h,λ_ _ h=>h,λ_ _ _ h=>h,λ_ _ h n=>⟨h,n⟩⟩
def Le.trans(a:Le K ρ H ρ' H')(b:Le K ρ' H' ρ'' zq):Le K ρ H ρ'' zq:=
 ⟨λn x h=>b.pre n x (a.pre n x h),λx l h=>b.tup x l (a.tup x l h),λx o u h=>b.frz x o u (a.frz x o u h),λx o h n=>b.oth x o (a.oth x o h n).1 (a.oth x o h n).2⟩
mutual
theorem CB.mono(l:Le K ρ H ρ' H'):∀{d:D} {v:V},CB K ρ H d v->CB K ρ' H' d v
 | _,_,.non=>.non
 | _,_,.bl b=>.bl b
 | _,_,.int i=>.int i
 | _,_,.str x=>.str x
 | _,_,.tup h r=>.tup (l.tup _ _ h) (A9.mono l r)
 | _,_,.fro h r=>.fro (l.fro _ _ h) (A9.mono l r)
 | _,_,.ref h=>.ref (l.pre _ _ h)
 | _,_,.exc h e=>.exc (l.frz _ _ _ h) e
theorem A9.mono(l:Le K ρ H ρ' H'):∀{ds:List D} {vs:List V},A9 K ρ H ds vs->A9 K ρ' H' ds vs
 | _,_,.nil=>.nil
 | _,_,.cons r t=>.cons (CB.mono l r) (A9.mono l t)
end
mutual
theorem CB.more(l:∀(n:Nat) a,ρ[n]?=some a->ρ'[n]?=some a):∀{d:D} {v:V},CB K ρ H d v->CB K ρ' H d v
 | _,_,.non=>.non
 | _,_,.bl b=>.bl b
 | _,_,.int i=>.int i
 | _,_,.str x=>.str x
 | _,_,.tup h r=>.tup h (A9.more l r)
 | _,_,.fro h r=>.fro h (A9.more l r)
 | _,_,.ref h=>.ref (l _ _ h)
 | _,_,.exc h e=>.exc h e
theorem A9.more(l:∀(n:Nat) a,ρ[n]?=some a->ρ'[n]?=some a):∀{ds:List D} {vs:List V},A9 K ρ H ds vs->A9 K ρ' H ds vs
 | _,_,.nil=>.nil
 | _,_,.cons r t=>.cons (CB.more l r) (A9.more l t)
end
mutual
theorem CB.keep(m:∀a xs,H a=some (.tup xs)->H' a=some (.tup xs))(l:∀a o u,H a=some (.frz o u)->H' a=some (.frz o u)):∀{d:D} {v:V},CB K ρ H d v->CB K ρ H' d v
 | _,_,.non=>.non
 | _,_,.bl b=>.bl b
 | _,_,.int i=>.int i
 | _,_,.str x=>.str x
 | _,_,.tup h r=>.tup (m _ _ h) (A9.keep m l r)
 | _,_,.fro h r=>.fro (h.mono l) (A9.keep m l r)
 | _,_,.ref h=>.ref h
 | _,_,.exc h e=>.exc (l _ _ _ h) e
theorem A9.keep(l:∀a xs,H a=some (.tup xs)->H' a=some (.tup xs))(m:∀a o u,H a=some (.frz o u)->H' a=some (.frz o u)):∀{ds:List D} {vs:List V},A9 K ρ H ds vs->A9 K ρ H' ds vs
 | _,_,.nil=>.nil
 | _,_,.cons r t=>.cons (CB.keep l m r) (A9.keep l m t)
end
theorem A9.length:∀{ds:List D} {vs:List V},A9 K ρ H ds vs->ds.length=vs.length
 | _,_,.nil=>rfl
 | _,_,.cons _ t=>by rw[Aj,Aj,A9.length t]
theorem A9.get:∀{ds:List D} {vs:List V} {i:Nat} {d:D},A9 K ρ H ds vs->ds[i]?=some d->∃v,vs[i]?=some v/\CB K ρ H d v
 | _,_,_,_,.nil,e=>by simp at e
 | _,_,0,_,.cons r _,e=>by simp at e;subst e;exact⟨_,rfl,r⟩
 | _,_,i+1,d,.cons _ t,e=>by
  obtain⟨v,l,m⟩:=A9.get (i:=i) (d:=d) t (by simpa using e);exact⟨v,by simpa using l,m⟩
theorem A9.get':∀{ds:List D} {vs:List V} {i:Nat} {v:V},A9 K ρ H ds vs->vs[i]?=some v->∃d,ds[i]?=some d/\CB K ρ H d v
 | _,_,_,_,.nil,e=>by simp at e
 | _,_,0,_,.cons r _,e=>by simp at e;subst e;exact⟨_,rfl,r⟩
 | _,_,i+1,d,.cons _ t,e=>by
  obtain⟨v,l,m⟩:=A9.get' (i:=i) (v:=d) t (by simpa using e);exact⟨v,by simpa using l,m⟩
theorem A9.append:∀{ds es:List D} {vs us:List V},A9 K ρ H ds vs->A9 K ρ H es us->A9 K ρ H (ds++es) (vs++us)
 | _,_,_,_,.nil,s=>s
 | _,_,_,_,.cons r t,s=>.cons r (A9.append t s)
theorem A9.set(r:CB K ρ H d v):∀{ds:List D} {vs:List V} (i:Nat),A9 K ρ H ds vs->A9 K ρ H (ds.set i d) (vs.set i v)
 | _,_,_,.nil=>.nil
 | _,_,0,.cons _ t=>.cons r t
 | _,_,i+1,.cons q t=>.cons q (A9.set r i t)
theorem A9.reverse(h:A9 K ρ H ds vs):A9 K ρ H ds.reverse vs.reverse:=by
 induction ds generalizing vs with
 | nil=>cases h;exact .nil
 | cons d ds l=>
  cases h with
  | cons r t=>rw[gb,gb];exact(l t).append (.cons r .nil)
theorem A9.of_ints:∀(ns:ZLi),A9 K ρ H (ns.map D.int) (ns.map V.int)
 | []=>.nil
 | n :: ns=>.cons (.int n) (A9.of_ints ns)
theorem A9.ints:∀{ns:ZLi} {vs:List V},A9 K ρ H (ns.map D.int) vs->vs=ns.map V.int
 | [],_,.nil=>rfl
 | n :: ns,_,.cons r t=>by
  cases r;rw[A9.ints (ns:=ns) t];rfl
end
inductive Ob where
 | lst (ds:List D)
 | dK (i':List (Key×D))
 | dT (i':List (List Key×D))
 | ins (C:AT) (fs:List (Str×D))
 | fK (i':List (Key×D))
 | fT (i':List (List Key×D))
 | mem (L:Key->Int)
abbrev Sto:=List Ob
def Ww:List Key:=(B1 1000).map λ(i:Nat)=>DZ (i:Int)
abbrev KVR{l:Type}(K:AE)(ρ:List AT)(H:Hp):List (l×D)->List (l×V)->Prop:=G9 λ(p:l×D) (q:l×V)=>p.1=q.1/\CB K ρ H p.2 q.2
def EQ(K:AE)(ρ:List AT)(H:Hp)(a:AT):Ob->Prop
 | .lst B=>∃s,H a=some (.lst s)/\A9 K ρ H B s
 | .dK m=>∃l,H a=some (.dK l)/\KVR K ρ H m l
 | .dT m=>∃l,H a=some (.dT l)/\KVR K ρ H m l
 | .ins C fs=>∃E A,H a=some (.ins C E A)/\KVR K ρ H fs A
 | .fK m=>∃o l,H a=some (.frz o (.dK l))/\KVR K ρ H m l
 | .fT m=>∃o l,H a=some (.frz o (.dT l))/\KVR K ρ H m l
 | .mem L=>∃l,H a=some (.dK l)/\(l.map (·.1)).Nodup/\∀x∈l,x.1∈Ww/\x.2=V.int (L x.1)
structure CV(K:AE)(ρ:List AT)(S:Sto)(H:Hp):Prop where
 len:ρ.length=S.length
 nd:∀(i j:Nat) a,ρ[i]?=some a->ρ[j]?=some a->i=j
 ob:∀(n:Nat) o a,S[n]?=some o->ρ[n]?=some a->EQ K ρ H a o
section
variable{K:AE}{ρ ρ':List AT}{H H':Hp}{S:Sto}{a p:AT}{o:Ob}{n:Nat}{ho:HO}
def KVR.mono{m:Type}(l:Le K ρ H ρ' H'){x:List (m×D)}{y:List (m×V)}(h:KVR K ρ H x y):KVR K ρ' H' x y:=G9.mapP h λ_ _ z=>⟨z.1,z.2.mono l⟩
theorem KVR.keys{l:Type}:∀{x:List (l×D)} {y:List (l×V)},KVR K ρ H x y->x.map (·.1)=y.map (·.1)
 | _,_,.nil=>rfl
 | _,_,.cons r t=>by rw[As,As,r.1,KVR.keys t]
def EQ.has(h:EQ K ρ H a o):H a≠none:=by
 cases o with
 | lst l=>obtain⟨_,e,_⟩:=h;rw[e];exact λz=>nomatch z
 | dK l=>obtain⟨_,e,_⟩:=h;rw[e];exact λz=>nomatch z
 | dT l=>obtain⟨_,e,_⟩:=h;rw[e];exact λz=>nomatch z
 | ins C fs=>obtain⟨_,_,e,_⟩:=h;rw[e];exact λz=>nomatch z
 | fK l=>obtain⟨_,_,e,_⟩:=h;rw[e];exact λz=>nomatch z
 | fT l=>obtain⟨_,_,e,_⟩:=h;rw[e];exact λz=>nomatch z
 | mem L=>obtain⟨_,e,_⟩:=h;rw[e];exact λz=>nomatch z
theorem EQ.mono(l:Le K ρ H ρ' H')(e:H' a=H a)(h:EQ K ρ H a o):EQ K ρ' H' a o:=by
 cases o with
 | lst E=>obtain⟨m,s,A⟩:=h;exact⟨m,e.trans s,A.mono l⟩
 | dK E=>obtain⟨m,s,A⟩:=h;exact⟨m,e.trans s,A.mono l⟩
 | dT E=>obtain⟨m,s,A⟩:=h;exact⟨m,e.trans s,A.mono l⟩
 | ins C fs=>obtain⟨B,m,s,A⟩:=h;exact⟨B,m,e.trans s,A.mono l⟩
 | fK E=>obtain⟨B,m,s,A⟩:=h;exact⟨B,m,e.trans s,A.mono l⟩
 | fT E=>obtain⟨B,m,s,A⟩:=h;exact⟨B,m,e.trans s,A.mono l⟩
 | mem L=>obtain⟨m,s,A⟩:=h;exact⟨m,e.trans s,A⟩
theorem EQ.keep(A:∀a xs,H a=some (.tup xs)->H' a=some (.tup xs))(B:∀a o u,H a=some (.frz o u)->H' a=some (.frz o u))(e:H' a=H a)(h:EQ K ρ H a o):EQ K ρ H' a o:=by
 cases o with
 | lst G=>obtain⟨l,m,s⟩:=h;exact⟨l,e.trans m,s.keep A B⟩
 | dK G=>obtain⟨l,m,s⟩:=h;exact⟨l,e.trans m,G9.mapP s λ_ _ z=>⟨z.1,z.2.keep A B⟩⟩
 | dT G=>obtain⟨l,m,s⟩:=h;exact⟨l,e.trans m,G9.mapP s λ_ _ z=>⟨z.1,z.2.keep A B⟩⟩
 | ins C fs=>obtain⟨E,l,m,s⟩:=h;exact⟨E,l,e.trans m,G9.mapP s λ_ _ z=>⟨z.1,z.2.keep A B⟩⟩
 | fK G=>obtain⟨E,l,m,s⟩:=h;exact⟨E,l,e.trans m,G9.mapP s λ_ _ z=>⟨z.1,z.2.keep A B⟩⟩
 | fT G=>obtain⟨E,l,m,s⟩:=h;exact⟨E,l,e.trans m,G9.mapP s λ_ _ z=>⟨z.1,z.2.keep A B⟩⟩
 | mem L=>obtain⟨l,m,s⟩:=h;exact⟨l,e.trans m,s⟩
def EQ.mono'(l:∀(n:Nat) a,ρ[n]?=some a->ρ'[n]?=some a)(h:EQ K ρ H a o):EQ K ρ' H a o:=by
 cases o with
 | lst E=>obtain⟨m,s,A⟩:=h;exact⟨m,s,A.more l⟩
 | dK E=>obtain⟨m,s,A⟩:=h;exact⟨m,s,G9.mapP A λ_ _ z=>⟨z.1,z.2.more l⟩⟩
 | dT E=>obtain⟨m,s,A⟩:=h;exact⟨m,s,G9.mapP A λ_ _ z=>⟨z.1,z.2.more l⟩⟩
 | ins C fs=>obtain⟨B,m,s,A⟩:=h;exact⟨B,m,s,G9.mapP A λ_ _ z=>⟨z.1,z.2.more l⟩⟩
 | fK E=>obtain⟨B,m,s,A⟩:=h;exact⟨B,m,s,G9.mapP A λ_ _ z=>⟨z.1,z.2.more l⟩⟩
 | fT E=>obtain⟨B,m,s,A⟩:=h;exact⟨B,m,s,G9.mapP A λ_ _ z=>⟨z.1,z.2.more l⟩⟩
 | mem L=>exact h
def Hi(m:H p=none∨Mut (H p)):(∀a xs,H a=some (.tup xs)->upd H p ho a=some (.tup xs))/\∀a o u,H a=some (.frz o u)->upd H p ho a=some (.frz o u):=by
 have l:∀a u,H a=some u->¬Mut (some u)->a≠p:=λa u e s z=>by
  subst z
  rcases m with h | h
  ·rw[e]at h;cases h
  ·rw[e]at h;exact s h
 refine⟨λa xs e=>?_,λa o u e=>?_⟩
 ·rw[Bb (l a _ e λz=>z)];exact e
 ·rw[Bb (l a _ e λz=>z)];exact e
def Le.fresh(l:H p=none):Le K ρ H ρ (upd H p ho):=
 ⟨λ_ _ h=>h,(Hi (.inl l)).1,(Hi (.inl l)).2,λa o e n=>⟨by rw[Bb (CD e l)];exact e,n⟩⟩
def Le.write(m:ρ[n]?=some p)(l:Mut (H p)):Le K ρ H ρ (upd H p ho):=
 ⟨λ_ _ h=>h,(Hi (.inr l)).1,(Hi (.inr l)).2,λa o e h=>⟨by rw[Bb λz=>h n (by rw[z];exact m)];exact e,h⟩⟩
def J8{s:Type}{l:List s}{x:s}{m:Nat}{a:s}(e:(l++[x])[m]?=some a):(l[m]?=some a/\m < l.length)∨(m=l.length/\a=x):=by
 by_cases A:m < l.length
 ·rw[Au A]at e;exact .inl ⟨e,A⟩
 ·rw[Bd (by lia)]at e
  have:m - l.length=0:=by
   have:=(AG.mp e).1;simp at this;omega
  rw[this]at e;exact .inr ⟨by lia,by simpa using e.symm⟩
def Le.alloc(l:H p=none):Le K ρ H (ρ++[p]) (upd H p ho):=by
 refine⟨λn a h=>by rw[Au (AG.mp h).1];exact h,(Hi (.inl l)).1,(Hi (.inl l)).2,λa o e h=>⟨by rw[Bb (CD e l)];exact e,λn q=>?_⟩⟩
 rcases J8 q with⟨q,_⟩ | ⟨_,q⟩
 ·exact h n q
 ·exact CD e l q
def CV.at(h:CV K ρ S H)(e:S[n]?=some o):∃a,ρ[n]?=some a/\EQ K ρ H a o:=by
 have l:n < ρ.length:=by rw[h.len];exact(AG.mp e).1
 exact⟨ρ[n],by simp[l],h.ob n o _ e (by simp[l])⟩
def CV.there(h:CV K ρ S H){m:Nat}(e:ρ[m]?=some a):∃o,S[m]?=some o/\EQ K ρ H a o:=by
 have l:m < S.length:=by rw[<-h.len];exact(AG.mp e).1
 exact⟨S[m],by simp[l],h.ob m _ a (by simp[l]) e⟩
def CV.notIn(h:CV K ρ S H)(l:H p=none){m:Nat}(e:ρ[m]?=some p):False:=by
 obtain⟨o,_,r⟩:=h.there e;exact r.has l
theorem CV.alloc(h:CV K ρ S H)(B:H p=none)(E:EQ K (ρ++[p]) (upd H p ho) p o):CV K (ρ++[p]) (S++[o]) (upd H p ho)/\Le K ρ H (ρ++[p]) (upd H p ho)/\(ρ++[p])[S.length]?=some p:=by
 have le:Le K ρ H (ρ++[p]) (upd H p ho):=Le.alloc B
 have at':∀(m:Nat) a,(ρ++[p])[m]?=some a->(ρ[m]?=some a/\m < ρ.length)∨(m=ρ.length/\a=p):=λm a e=>J8 e
 refine⟨⟨by simp[h.len],λi j a I J=>?_,λm L a A N=>?_⟩,le,by rw[<-h.len];simp⟩
 ·rcases at' i a I with⟨C,_⟩ | ⟨C,O⟩ <;> rcases at' j a J with⟨l,_⟩ | ⟨l,G⟩
  ·exact h.nd i j a C l
  ·rw[G]at C;exact(h.notIn B C).elim
  ·rw[O]at l;exact(h.notIn B l).elim
  ·lia
 ·rcases at' m a N with⟨s,P⟩ | ⟨rfl,rfl⟩
  ·rw[Au (by rw[<-h.len];exact P)]at A
   refine(h.ob m L a A s).mono le (Bb λz=>?_);rw[z]at s;exact h.notIn B s
  ·rw[h.len]at A
   simp at A;subst A;exact E
def CV.write(h:CV K ρ S H)(s:ρ[n]?=some a)(A:EQ K ρ (upd H a ho) a o)(le:Le K ρ H ρ (upd H a ho)):CV K ρ (S.set n o) (upd H a ho)/\Le K ρ H ρ (upd H a ho):=by
 refine⟨⟨by simp[h.len],h.nd,λm B b l hb=>?_⟩,le⟩
 by_cases e:m=n
 ·subst e
  rw[s]at hb;cases hb;rw[At (by rw[<-h.len];exact(AG.mp s).1)]at l;cases l;exact A
 ·rw[Aa (CF e)]at l
  refine(h.ob m B b l hb).mono le (Bb λz=>?_);subst z;exact e (h.nd m n b hb s)
def Le.back{B:Sto}(l:Le K ρ H ρ' H')(s:CV K ρ S H)(s':CV K ρ' B H')(A:H' p=none):H p=none:=by
 cases q:H p with
 | none=>rfl
 | some o=>
  by_cases m:∃n:Nat,ρ[n]?=some p
  ·obtain⟨n,m⟩:=m
   exact(s'.notIn A (l.pre n p m)).elim
  ·have:=(l.oth p o q λn h=>m ⟨n,h⟩).1
   rw[A]at this;cases this
def CV.adopt(h:CV K ρ S H)(G:∀m:Nat,ρ[m]?≠some p)(B:EQ K (ρ++[p]) H p o):CV K (ρ++[p]) (S++[o]) H/\(ρ++[p])[S.length]?=some p:=by
 have le:∀a ob,EQ K ρ H a ob->EQ K (ρ++[p]) H a ob:=λa ob r=>by
  have I:∀(n:Nat) a,ρ[n]?=some a->(ρ++[p])[n]?=some a:=λn a h=>by rw[Au (AG.mp h).1];exact h
  exact r.mono' I
 refine⟨⟨by simp[h.len],λi j a J L=>?_,λm ob a s C=>?_⟩,by rw[<-h.len];simp⟩
 ·rcases J8 J with⟨A,_⟩ | ⟨A,N⟩ <;> rcases J8 L with⟨l,_⟩ | ⟨l,E⟩
  ·exact h.nd i j a A l
  ·rw[E]at A;exact(G i A).elim
  ·rw[N]at l;exact(G j l).elim
  ·lia
 ·rcases J8 C with⟨C,O⟩ | ⟨rfl,rfl⟩
  ·rw[Au (by rw[<-h.len];exact O)]at s
   exact le a ob (h.ob m ob a s C)
  ·rw[h.len]at s
   simp at s;subst s;exact B
end
inductive Res(α:Type) where
 | ok (a:α) (S:Sto) | err (c:AT) (S:Sto) | bad
noncomputable def Res.bind{l β:Type}(r:Res l)(f:l->Sto->Res β):Res β:=match r with
 | .ok a S=>f a S
 | .err c S=>.err c S
 | .bad=>.bad
abbrev Lo:=List (Option D)
abbrev ME:=Lo->Sto->Res D
abbrev MT:=Lo->Sto->Res Bool
abbrev ML:=Lo->Sto->Res (List D)
inductive Fl where
 | nx (e:Lo) | rt (d:D) | bk (e:Lo) | ct (e:Lo) | ex (c:AT) (e:Lo)
abbrev MS:=Lo->Sto->Res Fl
abbrev MG:=D->Lo->Sto->Res Lo
abbrev RF:=Sto->Option (List D)
abbrev MI:=Lo->Sto->Res RF
structure GP(K:AE)(ρ:List AT)(H:Hp)(e:Lo)(σ:St):Prop where
 len:e.length=σ.length
 at':∀(i:Nat) d,e[i]?=some (some d)->∃v,σ[i]?=some (some v)/\CB K ρ H d v
section
variable{K:AE}{ρ ρ':List AT}{H H':Hp}{e:Lo}{σ:St}
def GP.mono(l:Le K ρ H ρ' H')(h:GP K ρ H e σ):GP K ρ' H' e σ:=⟨h.len,λi d q=>by
 obtain⟨v,m,o⟩:=h.at' i d q
 exact⟨v,m,o.mono l⟩⟩
def GP.set(h:GP K ρ H e σ)(r:CB K ρ H d v)(i:Nat):GP K ρ H (e.set i (some d)) (σ.set i (some v)):=by
 refine⟨by simp[h.len],λj o q=>?_⟩
 by_cases l:i=j
 ·subst l
  have m:i < e.length:=by
   have:=(AG.mp q).1;simpa using this
  rw[At m]at q;cases q;exact⟨v,by rw[At (by rw[<-h.len];exact m)],r⟩
 ·rw[Aa l]at q ⊢
  exact h.at' j o q
end
abbrev EW:=AT->St->Hp->Prop
abbrev EH:=AT->Hp->Prop
abbrev noE:EW:=λ_ _ _=>False
abbrev noH:EH:=λ_ _=>False
def CO{o:Type}(K:AE)(E:EH)(ρ:List AT)(H:Hp)(r:Res o)(k:o->Sto->Prop):Prop:=match r with
 | .ok a S=>k a S
 | .err c S=>∀l m,Le K ρ H l m->CV K l S m->E c m
 | .bad=>False
section
variable{K:AE}{E:EH}{ρ ρ1:List AT}{H H1:Hp}
def CO.seq(h:CO K E ρ H (r.bind F) k)(f:∀a S,CO K E ρ H (F a S) k->k' a S):CO K E ρ H r k':=by
 cases r with
 | ok a S=>exact f a S h
 | err c S=>exact h
 | bad=>exact h
def CO.later(h:CO K E ρ H r k)(l:Le K ρ H ρ1 H1):CO K E ρ1 H1 r k:=by
 cases r with
 | ok a S=>exact h
 | err c S=>exact λm o s=>h m o (l.trans s)
 | bad=>exact h
def CO.imp(h:CO K E ρ H r k)(f:∀a S,k a S->k' a S):CO K E ρ H r k':=by
 cases r with
 | ok a S=>exact f a S h
 | err c S=>exact h
 | bad=>exact h
def CO.go(h:CO K E ρ H r k)(l:Le K ρ H ρ1 H1)(f:∀a S,k a S->k' a S):CO K E ρ1 H1 r k':=(h.later l).imp f
end
def okR{l:Type}:Res l->Res l
 | .ok a S=>.ok a S
 | _=>.bad
theorem CO.okR{l:Type}{K:AE}{E:EH}{ρ:List AT}{H:Hp}{r:Res l}{k:l->Sto->Prop}(h:CO K E ρ H (L2.okR r) k):∃a S,r=.ok a S/\k a S:=by
 cases r with
 | ok a S=>exact⟨a,S,rfl,h⟩
 | err c S=>exact h.elim
 | bad=>exact h.elim
section
variable(K:AE)(E:EW)
def gE(m:ME):TE:=λA H Q=>∃o e S,GP K o H e A/\CV K o S H/\CO K (λc=>E c A) o H (m e S) λd B=>∀l s x,Le K o H l s->CV K l B s->CB K l s d x->Q x s
def gT(m:MT):TT:=λA H Q=>∃o e S,GP K o H e A/\CV K o S H/\CO K (λc=>E c A) o H (m e S) λb B=>∀l s,Le K o H l s->CV K l B s->Q b s
def gA(m:ML):TA:=λA H Q=>∃o e S,GP K o H e A/\CV K o S H/\CO K (λc=>E c A) o H (m e S) λC G=>∀l s B,Le K o H l s->CV K l G s->A9 K l s C B->Q B s
def gL(m:ML):TE:=λA H Q=>∃s e S,GP K s H e A/\CV K s S H/\CO K (λc=>E c A) s H (m e S) λC G=>∀l o p B,Le K s H l o->CV K l G o->A9 K l o C B->o p=some (.lst B)->(∀n:Nat,l[n]?≠some p)->H p=none->Q (.ref p) o
def gQ(m:ML):TE:=λB H Q=>∃s e S,GP K s H e B/\CV K s S H/\CO K (λc=>E c B) s H (m e S) λC G=>∀l o p A,Le K s H l o->CV K l G o->A9 K l o C A->(SqL K o p A∨SqT K o p A)->Q (.ref p) o
def R5(K:AE)(E:EW)(ρ:List AT)(H:Hp)(A:Sto)(D:bP):Fl->Prop
 | .ex c s=>∀l m o,Le K ρ H l m->CV K l A m->GP K l m s o->E c o m
 | .nx s=>∀l m o,Le K ρ H l m->CV K l A m->GP K l m s o->D.nx o m
 | .bk s=>∀l m o,Le K ρ H l m->CV K l A m->GP K l m s o->D.bk o m
 | .ct s=>∀l m o,Le K ρ H l m->CV K l A m->GP K l m s o->D.ct o m
 | .rt d=>∀l m x,Le K ρ H l m->CV K l A m->CB K l m d x->D.rt x m
def gS(m:MS):TS:=λD o H=>∃l e S,GP K l H e o/\CV K l S H/\CO K noH l H (m e S) λs A=>R5 K E l H A D s
def gG(m:MG):TG:=λv B H Q=>∃o e S d,CB K o H d v/\GP K o H e B/\CV K o S H/\CO K noH o H (m d e S) λC G=>∀l A s,Le K o H l A->CV K l G A->GP K l A C s->Q s A
def OE(o:List AT)(B:Hp)(J:It)(v:RF):Prop:=∀s H S A (i:Nat),Le K o B s H->CV K s S H->v S=some A ->
 (A[i]?=none->J.stop i H)/\∀d,A[i]?=some d->J.go i H/\∀x m,J.yld i H x m->∃l,Le K s H l m/\CV K l S m/\CB K l m d x
def gI(m:MI):TI:=λA H R=>∃o e S,GP K o H e A/\CV K o S H/\CO K (λc=>E c A) o H (m e S) λv B=>∀l s J,Le K o H l s->CV K l B s->OE K l s J v->R J s
end
abbrev GE(X:Cx)(E:EW)(e:Expr)(m:ME):Prop:=PE X e (gE X.K E m)
abbrev GT(X:Cx)(E:EW)(e:Expr)(m:MT):Prop:=PT X e (gT X.K E m)
abbrev GA(X:Cx)(E:EW)(es:List Expr)(m:ML):Prop:=PA X es (gA X.K E m)
abbrev GL(X:Cx)(E:EW)(e:Expr)(m:ML):Prop:=PE X e (gL X.K E m)
abbrev GQ(X:Cx)(E:EW)(e:Expr)(m:ML):Prop:=PE X e (gQ X.K E m)
abbrev GS(X:Cx)(E:EW)(s:DQ)(m:MS):Prop:=PS X s (gS X.K E m)
abbrev GSs(X:Cx)(E:EW)(s:List DQ)(m:MS):Prop:=PSs X s (gS X.K E m)
abbrev GG(X:Cx)(t:Expr)(m:MG):Prop:=PG X t (gG X.K m)
abbrev GI(X:Cx)(E:EW)(tg t:Expr)(m:MI):Prop:=PI X tg t (gI X.K E m)
def PE.imp(h:PE X e t)(i:∀σ H Q,t' σ H Q->t σ H Q):PE X e t':=λl s σ H Q I q=>h l s σ H Q I (i σ H Q q)
def PT.imp(h:PT X e t)(i:∀σ H Q,t' σ H Q->t σ H Q):PT X e t':=λl s σ H Q I q=>h l s σ H Q I (i σ H Q q)
def PW.imp(h:PW X e t)(i:∀σ H Q,t' σ H Q->t σ H Q):PW X e t':=λl m s σ H Q I q=>h l m s σ H Q I (i σ H Q q)
def PA.imp(h:PA X e t)(i:∀σ H Q,t' σ H Q->t σ H Q):PA X e t':=λl m s σ H Q I q=>h l m s σ H Q I (i σ H Q q)
def PS.imp(h:PS X e t)(i:∀D σ H,t' D σ H->t D σ H):PS X e t':=λl s σ H D I q=>h l s σ H D I (i D σ H q)
def PSs.imp(h:PSs X e t)(i:∀D σ H,t' D σ H->t D σ H):PSs X e t':=λl s σ H D I q=>h l s σ H D I (i D σ H q)
def PG.imp(h:PG X e t)(i:∀v σ H Q,t' v σ H Q->t v σ H Q):PG X e t':=λl s σ H v u Q I r q=>h l s σ H v u Q I r (i v σ H Q q)
def PI.imp(h:PI X tg e t)(i:∀σ H R,t' σ H R->t σ H R):PI X tg e t':=λl s σ H R I q=>h l s σ H R I (i σ H R q)
def OpR.imp(h:OpR X f r)(i:∀x y H Q,r' x y H Q->r x y H Q):OpR X f r':=λl s m H x y v u Q I o A q=>h l s m H x y v u Q I o A (i x y H Q q)
def IxR.imp(h:IxR X r)(i:∀x y H Q,r' x y H Q->r x y H Q):IxR X r':=λl sl m s o H x y v u Q I A B q=>h l sl m s o H x y v u Q I A B (i x y H Q q)
def AD(i:Nat):ME:=λe S=>match e[i]? with
 | some (some d)=>.ok d S
 | _=>.bad
def mC(d:D):ME:=λ_ S=>.ok d S
section
variable{X:Cx}{E:EW}{e a b:Expr}{pos:Pos}{ma mb:ME}
def AA(h:PE X e (rB i)):GE X E e (AD i):=h.imp<|by
 rintro I H Q ⟨o,l,S,s,A,m⟩
 unfold AD at m;split at m
 ·rename_i J B
  obtain⟨v,C,G⟩:=s.at' i _ B;exact⟨v,C,m o H v .refl A G⟩
 ·exact m.elim
def j7(h:PE X e (tC v))(m:∀ρ H,CB X.K ρ H d v):GE X E e (mC d):=h.imp<|by
 rintro A H Q ⟨ρ,l,S,B,o,s⟩
 exact s ρ H v .refl o (m _ _)
def ge_int{i j pos}:GE X E (.Constant (.int i) j pos) (mC (.int i)):=j7 sC λ_ _=>.int i
def JC{b j pos}:GE X E (.Constant (.bool b) j pos) (mC (.bl b)):=j7 vW λ_ _=>.bl b
def tV{j pos}:GE X E (.Constant .none j pos) (mC .non):=j7 rp λ_ _=>.non
def PP{x j pos}:GE X E (.Constant (.str x) j pos) (mC (.str x)):=j7 rl λ_ _=>.str x
def UF(l:Gl X x)(m:X.mg x=some (.int i tk))(o:(x==("__debug__" : Str))=false:=by decide):GE X E (.Name x pos) (mC (.int i)):=
 j7 (Wm (v:=.int i) l m ⟨tk,rfl⟩ o) λ_ _=>.int i
def m2(f:D->D->Sto->Res D)(ma mb:ME):ME:=λe S=>(ma e S).bind λx l=>(mb e l).bind λy m=>okR (f x y m)
def rD(K:AE)(f:D->D->Sto->Res D):R2:=λu v H Q=>∃m S x y d s,CV K m S H/\CB K m H x u/\CB K m H y v/\f x y S=.ok d s /\
 ∀l o z,Le K m H l o->CV K l s o->CB K l o d z->Q z o
def O3{K:AE}{f:D->D->Sto->Res D}{σ:St}{H:Hp}{Q:VK}(h:gE K E (m2 f ma mb) σ H Q):tOp (rD K f) (gE K E ma) (gE K E mb) σ H Q:=by
 obtain⟨I,l,S,C,J,m⟩:=h;refine⟨I,l,S,C,J,m.seq λx L m o H1 u s N O=>⟨o,l,L,C.mono s,N,(m.later s).seq λy P m A H2 v G R T=>?_⟩⟩;obtain⟨d,U,e,k⟩:=m.okR;exact⟨A,P,x,y,d,U,R,O.mono G,T,e,λB Y z Z s' r'=>k B Y z (s.trans (G.trans Z)) s' r'⟩
def BC(ho:OpR X (DM op) (rD X.K f))(l:GE X E a ma)(hb:GE X E b mb):GE X E (.BinOp a op b pos) (m2 f ma mb):=(vU ho l hb).imp λ_ _ _ h=>O3 h
def Me(ho:OpR X (CS op) (rD X.K f))(l:GE X E a ma)(hb:GE X E b mb)(m:Cq op b=false):GE X E (.Compare a [op] [b] pos) (m2 f ma mb):=(nh ho l hb m).imp λ_ _ _ h=>O3 h
def wL(ho:IxR X (rD X.K f))(l:GE X E a ma)(hb:GE X E b mb)(m:XU b:=by intro _ _;rfl):GE X E (.Subscript a b pos) (m2 f ma mb):=(vV ho l hb m).imp λ_ _ _ h=>O3 h
def mB(m:ME):MT:=λe S=>(m e S).bind λd l=>match d with
 | .bl b=>.ok b l
 | _=>.bad
noncomputable def Rc(d:D)(S:Sto):Option Bool:=match d with
 | .non=>some false
 | .bl b=>some b
 | .int i=>some (i != 0)
 | .tup l=>some (!l.isEmpty)
 | .fro l=>some (!l.isEmpty)
 | .ref n=>match S[n]? with
  | some (.lst l)=>some (!l.isEmpty)
  | some (.dK m)=>some (!m.isEmpty)
  | _=>none
 | _=>none
def Gp(m:ME):MT:=λe S=>(m e S).bind λd l=>match Rc d l with
 | some b=>.ok b l
 | none=>.bad
def A9.empty{K}{ρ}{H}{ds}{vs}(h:A9 K ρ H ds vs):ds.isEmpty=vs.isEmpty:=by cases h <;> rfl
def KVR.empty{l:Type}{K:AE}{ρ:List AT}{H:Hp}{x:List (l×D)}{y:List (l×V)}(h:KVR K ρ H x y):x.isEmpty=y.isEmpty:=by cases h <;> rfl
def mX{K:AE}{ρ:List AT}{H:Hp}{S:Sto}{d:D}{x:V}{b:Bool}(B:CV K ρ S H)(r:CB K ρ H d x)(h:Rc d S=some b):uH K x H b:=by
 cases r with
 | non=>cases h;rfl
 | bl c=>cases h;rfl
 | int i=>cases h;rfl
 | str x=>cases h
 | tup l m=>cases h;rw[m.empty];exact .inr (.inl ⟨_,.inl (.inl l),rfl⟩)
 | fro l m=>cases h;rw[m.empty];exact .inl ⟨_,l.sq,rfl⟩
 | exc _ _=>cases h
 | @ref n a G=>
  obtain⟨o,I,A⟩:=B.there G;unfold Rc at h;simp only[I]at h
  cases o with
  | lst N=>cases h;obtain⟨J,e,s⟩:=A;rw[s.empty];exact .inl ⟨_,.inl (.inl e),rfl⟩
  | dK L=>cases h;obtain⟨J,e,s⟩:=A;rw[KVR.empty s];exact .inr (.inr ⟨_,e,rfl⟩)
  | dT L=>cases h
  | ins C fs=>cases h
  | fK _=>cases h
  | fT _=>cases h
  | mem _=>cases h
def GM(h:GE X E e ma)(B:∀m,qN e X.env m=(do let v <-m;uN e.pos;ZG [v] (truthy v)):=by intro _;rfl):GT X E e (Gp ma):=(ii h B).imp<|by
 rintro P H Q ⟨C,l,S,G,I,o⟩
 refine⟨C,l,S,G,I,o.seq λd J o s L x N A O=>?_⟩
 cases hb:Rc d J with
 | none=>rw[hb]at o;exact o.elim
 | some c=>
  rw[hb]at o;exact⟨c,mX A O hb,o s L N A⟩
def Cp{op}{f}(ho:OpR X (CS op) (rD X.K f))(s:GE X E a ma)(hb:GE X E b mb)(m:Cq op b=false):GT X E (.Compare a [op] [b] pos) (mB (m2 f ma mb)):=(nI ho s hb m).imp<|by
 rintro O H Q ⟨A,l,S,B,C,m⟩
 refine O3 (Q:=λx G=>∃k,x=.bl k/\Q k G) ⟨A,l,S,B,C,m.seq λd P m o I x J L N=>?_⟩
 cases d <;> first | exact m.elim | skip
 cases N;exact⟨_,rfl,m o I J L⟩
def Qy(m:MT):MT:=λe S=>(m e S).bind λb l=>.ok (!b) l
def PM(ma mb:MT):MT:=λe S=>(ma e S).bind λb l=>if b=true then mb e l else .ok false l
def mOr(ma mb:MT):MT:=λe S=>(ma e S).bind λb l=>if b=true then .ok true l else mb e l
variable{ta tb:MT}{rest:List Expr}
def UC(h:GT X E a ta):GT X E (.UnaryOp .Not a pos) (Qy ta):=(rT h).imp<|by
 rintro J H Q ⟨s,l,S,A,B,m⟩
 exact⟨s,l,S,A,B,m.seq λd L m o C G I=>m o C G I⟩
def mf{K}{σ}{H}{Q}(h:gT K E (PM ta tb) σ H Q):vF (gT K E ta) (gT K E tb) σ H Q:=by
 obtain⟨G,l,S,B,I,m⟩:=h;refine⟨G,l,S,B,I,m.seq λc J m o L s C=>?_⟩
 cases c with
 | true=>rw[qX rfl]at m ⊢;exact⟨o,l,J,B.mono s,C,m.go s λ_ _ k A N O P=>k A N (s.trans O) P⟩
 | false=>rw[qY AH]at m ⊢;exact m o L s C
def rC{K}{σ}{H}{Q}(h:gT K E (mOr ta tb) σ H Q):tOr (gT K E ta) (gT K E tb) σ H Q:=by
 obtain⟨G,l,S,B,I,m⟩:=h;refine⟨G,l,S,B,I,m.seq λc J m o L s C=>?_⟩
 cases c with
 | false=>rw[qY AH]at m ⊢;exact⟨o,l,J,B.mono s,C,m.go s λ_ _ k A N O P=>k A N (s.trans O) P⟩
 | true=>rw[qX rfl]at m ⊢;exact m o L s C
abbrev GW(X:Cx)(E:EW)(e:Expr)(m:MT):Prop:=PW X e (gT X.K E m)
def QI(l:GT X E a ta):GW X E (.BoolOp .And [a] pos) ta:=nH l
def W2(l:GT X E a ta):GW X E (.BoolOp .Or [a] pos) ta:=rR l
def Q3(l:GT X E a ta)(hb:GW X E (.BoolOp .And (b :: rest) pos) tb):GW X E (.BoolOp .And (a :: b :: rest) pos) (PM ta tb):=(rS l hb).imp λ_ _ _ h=>mf h
def Yr(l:GT X E a ta)(hb:GW X E (.BoolOp .Or (b :: rest) pos) tb):GW X E (.BoolOp .Or (a :: b :: rest) pos) (mOr ta tb):=(vQ l hb).imp λ_ _ _ h=>rC h
def W3(h:GW X E e t):GT X E e t:=PW.pt h
def Ts(ma mb:ME):ME:=λe S=>(ma e S).bind λd l=>match d with
 | .bl true=>mb e l
 | .bl false=>.ok (.bl false) l
 | _=>.bad
def jO(ma mb:ME):ME:=λe S=>(ma e S).bind λd l=>match d with
 | .bl true=>.ok (.bl true) l
 | .bl false=>mb e l
 | _=>.bad
def cP(ma:ME):ME:=λe S=>(ma e S).bind λd l=>match d with
 | .bl c=>.ok (.bl (!c)) l
 | _=>.bad
def W7{op}(h:GE X E a ma):GE X E (.BoolOp op [a] pos) ma:=rm h
def ap(G:GE X E a ma)(hb:GE X E (.BoolOp .And (b :: rest) pos) mb):GE X E (.BoolOp .And (a :: b :: rest) pos) (Ts ma mb):=(sH G hb).imp<|by
 rintro Y H Q ⟨I,l,S,B,J,m⟩
 refine⟨I,l,S,B,J,m.seq λc L m o N x s C O=>?_⟩
 cases c with
 | bl c=>
  cases O;refine⟨c,rfl,?_⟩
  cases c with
  | true=>rw[qX rfl];exact⟨o,l,L,B.mono s,C,m.go s λ_ _ k A P z R T U=>k A P z (s.trans R) T U⟩
  | false=>rw[qY AH];exact m o N _ s C (.bl false)
 | _=>exact m.elim
def wK(G:GE X E a ma)(hb:GE X E (.BoolOp .Or (b :: rest) pos) mb):GE X E (.BoolOp .Or (a :: b :: rest) pos) (jO ma mb):=(vT G hb).imp<|by
 rintro Y H Q ⟨I,l,S,B,J,m⟩
 refine⟨I,l,S,B,J,m.seq λc L m o N x s C O=>?_⟩
 cases c with
 | bl c=>
  cases O;refine⟨c,rfl,?_⟩
  cases c with
  | false=>rw[qY AH];exact⟨o,l,L,B.mono s,C,m.go s λ_ _ k A P z R T U=>k A P z (s.trans R) T U⟩
  | true=>rw[qX rfl];exact m o N _ s C (.bl true)
 | _=>exact m.elim
def tU(s:GE X E a ma):GE X E (.UnaryOp .Not a pos) (cP ma):=(rn s).imp<|by
 rintro N H Q ⟨A,l,S,B,C,m⟩
 refine⟨A,l,S,B,C,m.seq λc O m o G x I J L=>?_⟩
 cases c with
 | bl c=>cases L;exact⟨c,rfl,m o G _ I J (.bl _)⟩
 | _=>exact m.elim
def Yk(t:MT)(ma mb:ME):ME:=λe S=>(t e S).bind λb l=>if b=true then ma e l else mb e l
def UE(O:GT X E c ta)(P:GE X E a ma)(hb:GE X E b mb):GE X E (.IfExp c a b pos) (Yk ta ma mb):=(iu O P hb).imp<|by
 rintro U H Q ⟨R,l,S,B,T,o⟩
 refine⟨R,l,S,B,T,o.seq λc L o A Y s N=>?_⟩
 cases c with
 | true=>rw[qX rfl]at o ⊢;exact⟨A,l,L,B.mono s,N,o.go s λ_ _ k m C z G I J=>k m C z (s.trans G) I J⟩
 | false=>rw[qY AH]at o ⊢;exact⟨A,l,L,B.mono s,N,o.go s λ_ _ k m C z G I J=>k m C z (s.trans G) I J⟩
def m3(f g:D->D->Sto->Res D)(ma mb m:ME):ME:=λe S=>(ma e S).bind λx o=>(mb e o).bind λy s=>(okR (f x y s)).bind λz l=>match z with
 | .bl true=>(m e l).bind λw A=>okR (g y w A)
 | .bl false=>.ok (.bl false) l
 | _=>.bad
def BJ:ML:=λ_ S=>.ok [] S
def AL(m:ME)(r:ML):ML:=λe S=>(m e S).bind λd l=>(r e l).bind λo s=>.ok (d :: o) s
variable{es:List Expr}{ml:ML}
def Ao:GA X E [] BJ:=IP.imp<|by
 rintro A H Q ⟨m,l,S,B,o,s⟩
 exact s m H [] .refl o .nil
def AJ(I:GE X E e ma)(J:GA X E es ml)(o:AY (e :: es) X.env=(false,Cd e X.env) :: AY es X.env:=by rfl):GA X E (e :: es) (AL ma ml):=(Fe I J o).imp<|by
 rintro Z H Q ⟨L,l,S,C,o,m⟩
 exact⟨L,l,S,C,o,m.seq λd N m s H1 x A O P=>⟨s,l,N,C.mono A,O,(m.later A).seq λyu S2 m B R T G U Y=>m B R (x :: T) (A.trans G) U (.cons (P.mono G) Y)⟩⟩
def Hg(m:ML):ME:=λe S=>(m e S).bind λl o=>if l.length<=sizeLine then .ok (.tup l) o else .bad
def JX{K}{ρ}{H}{S}{p}{ho}(l:CV K ρ S H)(m:H p=none):CV K ρ S (upd H p ho)/\Le K ρ H ρ (upd H p ho):=by
 have le:Le K ρ H ρ (upd H p ho):=Le.fresh m;refine⟨⟨l.len,l.nd,λn o a A s=>(l.ob n o a A s).mono le (Bb λz=>?_)⟩,le⟩;subst z;exact l.notIn m s
def FD{B}(h:GA X E es ml):GE X E (.Tuple es B pos) (Hg ml):=(rk h).imp<|by
 rintro T H Q ⟨C,l,S,G,I,m⟩
 refine⟨C,l,S,G,I,m.seq λU Y m o Z J L N s=>?_⟩;split at m
 ·rename_i O
  refine⟨by rw[<-s.length];exact O,λp P=>?_⟩;obtain⟨R,A⟩:=JX (ho:=.tup J) N P;exact m o _ _ (L.trans A) R (.tup CG (s.mono A))
 ·exact m.elim
def FC(m:ML):ML:=λe S=>(m e S).bind λl o=>if l.length<=sizeLine then .ok l o else .bad
def Hk(h:GA X E es ml):GL X E (.List es pos) (FC ml):=(rq h).imp<|by
 rintro R H Q ⟨L,l,S,N,B,m⟩
 refine⟨L,l,S,N,B,m.seq λT U m o Y C G s I=>?_⟩;split at m
 ·rename_i O
  refine⟨by rw[<-I.length];exact O,λp A=>?_⟩;obtain⟨P,J⟩:=JX (ho:=.lst C) s A;exact m o _ p C (G.trans J) P (I.mono J) CG (λn q=>s.notIn A q) (G.back B s A)
 ·exact m.elim
def Ee(m:ML):ME:=λe S=>(m e S).bind λo l=>.ok (.ref l.length) (l++[.lst o])
def Cz(h:GL X E e ml):GE X E e (Ee ml):=PE.imp h<|by
 rintro Z H Q ⟨G,l,S,I,J,A⟩
 refine⟨G,l,S,I,J,A.seq λL S1 A m H1 p N s O P R T U=>?_⟩
 have C:∀(n:Nat) a,m[n]?=some a->(m++[p])[n]?=some a:=λn a h=>by rw[Au (AG.mp h).1];exact h
 obtain⟨Y,B⟩:=O.adopt (o:=.lst L) T ⟨N,R,P.more C⟩;refine A _ _ _ ⟨λn a h=>C n a (s.pre n a h),s.tup,s.frz,λa o e h=>⟨(s.oth a o e h).1,λn q=>?_⟩⟩ Y (.ref B)
 rcases J8 q with⟨q,_⟩ | ⟨_,q⟩
 ·exact(s.oth a o e h).2 n q
 ·exact CD e U q
noncomputable def GD(d:D)(S:Sto):Option (List D):=match d with
 | .tup l=>some l
 | .fro l=>some l
 | .ref n=>match S[n]? with
  | some (.lst l)=>some l
  | _=>none
 | _=>none
def Uz(m:ME):ML:=λe S=>(m e S).bind λd l=>match GD d l with
 | some o=>.ok o l
 | none=>.bad
def P0{K}{ρ}{H}{S}{d}{x}{ds}(s:CV K ρ S H)(r:CB K ρ H d x)(h:GD d S=some ds):∃p xs,x=.ref p/\A9 K ρ H ds xs/\(SqL K H p xs∨SqT K H p xs):=by
 cases r with
 | tup l m=>cases h;exact⟨_,_,rfl,m,.inr (.inl (.inl l))⟩
 | fro l m=>cases h;exact⟨_,_,rfl,m,.inl l.sq⟩
 | @ref n a A=>
  obtain⟨o,B,C⟩:=s.there A;unfold GD at h;simp only[B]at h
  cases o with
  | lst es=>cases h;obtain⟨I,e,G⟩:=C;exact⟨_,_,rfl,G,.inl (.inl (.inl e))⟩
  | _=>cases h
 | _=>cases h
def jw(h:GE X E e ma):GQ X E e (Uz ma):=PE.imp h<|by
 rintro R H Q ⟨B,l,S,C,G,m⟩
 refine⟨B,l,S,C,G,m.seq λx I m o J v L A N=>?_⟩
 cases s:GD x I with
 | none=>rw[s]at m;exact m.elim
 | some T=>
  rw[s]at m;obtain⟨p,O,rfl,P,sq⟩:=P0 A N s;exact m o J p O L A P sq
end
noncomputable def Res.lift{l:Type}(r:Res l)(e:Lo)(f:l->Sto->Res Fl):Res Fl:=match r with
 | .ok a S=>f a S
 | .err c S=>.ok (.ex c e) S
 | .bad=>.bad
theorem CO.lift{s:Type}{K:AE}{E:EW}{ρ m:List AT}{H o:Hp}{σ:St}{e:Lo}{D:bP}{r:Res s}{F:s->Sto->Res Fl}{k':s->Sto->Prop}(h:CO K noH m o (r.lift e F) λA B=>R5 K E ρ H B D A)(I:GP K m o e σ)(l:Le K ρ H m o)
  (f:∀a S,(CO K noH m o (F a S) λA B=>R5 K E ρ H B D A)->k' a S):CO K (λc=>E c σ) m o r k':=by
 cases r with
 | ok a S=>exact f a S h
 | err c S=>exact λC J G L=>h C J σ (l.trans G) L (I.mono G)
 | bad=>exact h
def sNx:MS:=λe S=>.ok (.nx e) S
def Wg:MS:=λ_ _=>.bad
def BP(a b:MS):MS:=λe S=>(a e S).bind λf l=>match f with
 | .nx m=>b m l
 | f=>.ok f l
def Js(m:ME):MS:=λe S=>(m e S).lift e λ_ l=>.ok (.nx e) l
def DP(m:ME):MS:=λe S=>(m e S).lift e λd l=>.ok (.rt d) l
def sIf(t:MT)(a b:MS):MS:=λe S=>(t e S).lift e λc l=>if c=true then a e l else b e l
def rM(m:ME)(g:MG):MS:=λe S=>(m e S).lift e λd l=>(g d e l).bind λo s=>.ok (.nx o) s
def tgN(i:Nat):MG:=λd e S=>.ok (e.set i (some d)) S
def CY(i:Nat)(m:ME):MS:=rM m (tgN i)
section
variable{X:Cx}{E:EW}{st:DQ}{rest:List DQ}{e:Expr}{pos:Pos}{a b:MS}{t:MT}
def R5.later{K}{ρ B}{H C}{S}{D}{f}(l:Le K ρ H B C)(h:R5 K E ρ H S D f):R5 K E B C S D f:=by
 cases f with
 | nx e=>exact λm s o A=>h m s o (l.trans A)
 | bk e=>exact λm s o A=>h m s o (l.trans A)
 | ct e=>exact λm s o A=>h m s o (l.trans A)
 | ex c e=>exact λm s o A=>h m s o (l.trans A)
 | rt d=>exact λm s x A=>h m s x (l.trans A)
def Ce:GSs X E [] sNx:=nK.imp<|by
 rintro D m H ⟨o,l,S,s,A,B⟩
 exact B o H m .refl A s
def AS(A:GS X E st a)(B:GSs X E rest b):GSs X E (st :: rest) (BP a b):=(il A B).imp<|by
 rintro D Q H ⟨C,l,S,G,I,m⟩
 refine⟨C,l,S,G,I,m.seq λg J m=>?_⟩
 cases g with
 | nx L=>exact λo R N s O P=>⟨o,L,J,P,O,m.go s λ_ _ k=>k.later s⟩
 | rt d=>exact m
 | bk d=>exact m
 | ct d=>exact m
 | ex c d=>exact m
def Ab(l:GS X E st a):GSs X E [st] a:=nJ l
def Nx:GS X E st Wg:=(io (X:=X) (st:=st)).imp λD o H ⟨s,l,S,A,B,m⟩=>m.elim
def Md(G:GE X E e m)(o:HI e none pos.line X.env=pure false:=by rfl):GS X E (.Expr e pos) (Js m):=(nL G o).imp<|by
 rintro D I H ⟨J,l,S,s,o,A⟩
 exact⟨J,l,S,s,o,A.lift s .refl λd O A B L x C N P=>A B L I C N (s.mono C)⟩
def By(B:GE X E e m):GS X E (.Return (some e) pos) (DP m):=(rX B).imp<|by
 rintro D O H ⟨C,l,S,A,G,o⟩
 exact⟨C,l,S,A,G,o.lift A .refl λd P o s I x J L N=>o s I x J L N⟩
def Dv{c}{B C}(J:GT X E c t)(L:GSs X E B a)(hb:GSs X E C b):GS X E (.If c B C pos) (sIf t a b):=(vR J L hb).imp<|by
 rintro D P H ⟨N,l,S,A,O,m⟩
 refine⟨N,l,S,A,O,m.lift A .refl λc G m s Q o I=>?_⟩
 cases c with
 | true=>rw[qX rfl]at m ⊢;exact⟨s,l,G,A.mono o,I,m.go o λ_ _ k=>k.later o⟩
 | false=>rw[qY AH]at m ⊢;exact⟨s,l,G,A.mono o,I,m.go o λ_ _ k=>k.later o⟩
def oh(h:PG X tg (cn i)):GG X tg (tgN i):=h.imp<|by
 rintro v C H Q ⟨m,l,S,d,o,s,A,B⟩
 exact B m H _ .refl A (s.set o i)
def tL{i}{x}{o}(hN:X.N.Nodup)(hi:X.N[i]?=some x)(I:Loc X.env.scope x)(J:GE X E e m)(s:HI e (some (.Name x o)) pos.line X.env=pure false:=by rfl)
  (L:X.fn x=true∨X.env.scope.names.lookup x=some .local:=by first | exact .inl rfl | exact .inr rfl | assumption):GS X E (.Assign [.Name x o] e pos) (CY i m):=(rW hN hi I J s L).imp<|by
 rintro D T H ⟨O,l,S,A,s,B⟩
 exact⟨O,l,S,A,s,B.lift A .refl λd U B C P x G Q R=>B C P _ G Q ((A.mono G).set R i)⟩
def NB(v:RF)(g:MG)(b:MS):Nat->Nat->Lo->Sto->Res Fl
 | k,i,e,S=>match v S with
  | none=>.bad
  | some o=>match o[i]? with
   | none=>.ok (.nx e) S
   | some d=>match k with
    | 0=>.bad
    | k+1=>(g d e S).bind λs A=>(b s A).bind λf m=>match f with
     | .nx l=>NB v g b k (i+1) l m
     | .ct l=>NB v g b k (i+1) l m
     | .bk l=>.ok (.nx l) m
     | .rt d=>.ok (.rt d) m
     | .ex c l=>.ok (.ex c l) m
def EG(v:RF)(S:Sto):Nat:=match v S with
 | none=>0
 | some l=>l.length
def G0(m:MI)(g:MG)(b:MS):MS:=λe S=>(m e S).lift e λv l=>NB v g b (EG v l) 0 e l
def Dr{tg iter}{body}{mi}{g}(hp:RH (Ag X.prog X.w) X.A X.env X.xe)(hc:X.calm=true)(hi:GI X E tg iter mi)(hg:GG X tg g)(hb:GSs X E body b)
  (hs:∀x,Gq iter X.env x=pure x:=by intro _;rfl):GS X E (.For tg iter body [] pos) (G0 mi g b):=(rY hp hc hi hg hb hs).imp<|by
 rintro D σ H ⟨ρ,l,S,hl,hs,hm⟩
 refine⟨ρ,l,S,hl,hs,hm.lift hl .refl λv S1 hm N H1 J Z s1 vo=>?_⟩;refine⟨λi n O P=>∃m Q G,Le X.K N H1 m P/\GP X.K m P Q O/\CV X.K m G P/\CO X.K noH m P (NB v g b n i Q G) λfl S'=>R5 X.K E ρ H S' D fl,⟨EG v S1,N,l,S1,.refl,hl.mono Z,s1,hm.later Z⟩,?_⟩;rintro i n O P ⟨m,Q,G,R,r2,s2,o⟩;unfold NB at o
 cases hv:v G with
 | none=>rw[hv]at o;exact o.elim
 | some ds=>
  rw[hv]at o;dsimp only at o;obtain⟨v1,v2⟩:=vo m P G ds i R s2 hv
  cases hd:ds[i]? with
  | none=>
   rw[hd]at o;exact .inl ⟨v1 hd,o m P O (Z.trans R) s2 r2⟩
  | some d=>
   rw[hd]at o;dsimp only at o;obtain⟨go,yl⟩:=v2 d hd
   cases n with
   | zero=>exact o.elim
   | succ n=>
    dsimp only at o;refine .inr ⟨go,λσ' T=>∃m Q G,Le X.K N H1 m T/\GP X.K m T Q σ'/\CV X.K m G T/\CO X.K noH m T (NB v g b n (i+1) Q G) λfl S'=>R5 X.K E ρ H S' D fl,λσ' T q=>⟨n,Dc n,q⟩,λx T y=>?_⟩;obtain⟨ρ3,U,s3,rd⟩:=yl x T y;refine⟨ρ3,Q,G,d,rd,r2.mono U,s3,(o.later U).seq λe3 S3 o ρ4 H4 σ4 l4 s4 r4=>?_⟩;refine⟨ρ4,e3,S3,r4,s4,(o.later l4).seq λf4 S4 o=>?_⟩
    cases f4 with
    | nx e5=>exact λs Y B C I L=>⟨s,e5,S4,R.trans (U.trans (l4.trans C)),L,I,o.later C⟩
    | ct e5=>exact λs Y B C I L=>⟨s,e5,S4,R.trans (U.trans (l4.trans C)),L,I,o.later C⟩
    | bk e5=>exact λs Y B C I L=>o s Y B (Z.trans (R.trans (U.trans (l4.trans C)))) I L
    | ex c e5=>exact λs Y B C I L=>o s Y B (Z.trans (R.trans (U.trans (l4.trans C)))) I L
    | rt d5=>exact λs Y x5 C I L=>o s Y x5 (Z.trans (R.trans (U.trans (l4.trans C)))) I L
def JJ(c:MT)(b:MS):Nat->MS
 | 0=>λ_ _=>.bad
 | n+1=>λe S=>(c e S).lift e λt o=>if t=true then(b e o).bind λf m=>match f with
   | .nx l=>JJ c b n l m
   | .ct l=>JJ c b n l m
   | .bk l=>.ok (.nx l) m
   | .rt d=>.ok (.rt d) m
   | .ex c l=>.ok (.ex c l) m
  else .ok (.nx e) o
def Ys{c}{body}(N:Nat)(hp:RH (Ag X.prog X.w) X.A X.env X.xe)(hc:GT X E c t)(hb:GSs X E body b):GS X E (.While c body [] pos) (JJ t b N):=(im hp hc hb).imp<|by
 rintro D σ H ⟨T,l,S,hl,hs,hm⟩
 refine⟨λn O U=>∃m L P,Le X.K T H m U/\GP X.K m U L O/\CV X.K m P U/\CO X.K noH m U (JJ t b n L P) λfl S'=>R5 X.K E T H S' D fl,⟨N,T,l,S,.refl,hl,hs,hm⟩,?_⟩;rintro n O U ⟨m,L,P,Q,r2,s2,s⟩
 cases n with
 | zero=>exact s.elim
 | succ n=>
  refine⟨m,L,P,r2,s2,s.lift r2 Q λtc S3 s Y H3 G s3=>?_⟩
  cases tc with
  | false=>rw[qY AH]at s ⊢;exact s Y H3 O (Q.trans G) s3 (r2.mono G)
  | true=>
   rw[qX rfl]at s ⊢;refine⟨λZ H'=>∃m L P,Le X.K T H m H'/\GP X.K m H' L Z/\CV X.K m P H'/\CO X.K noH m H' (JJ t b n L P) λfl S'=>R5 X.K E T H S' D fl,λZ H' q=>⟨n,Dc n,q⟩,?_⟩;refine⟨Y,L,S3,r2.mono G,s3,(s.later G).seq λf4 S4 s=>?_⟩
   cases f4 with
   | nx e5=>exact λo R B C I J=>⟨o,e5,S4,Q.trans (G.trans C),J,I,s.later C⟩
   | ct e5=>exact λo R B C I J=>⟨o,e5,S4,Q.trans (G.trans C),J,I,s.later C⟩
   | bk e5=>exact λo R B C I J=>s o R B (Q.trans (G.trans C)) I J
   | ex c e5=>exact λo R B C I J=>s o R B (Q.trans (G.trans C)) I J
   | rt d5=>exact λo R x5 C I J=>s o R x5 (Q.trans (G.trans C)) I J
end
section
variable{X:Cx}{E:EW}{tg e:Expr}{m:ME}{K:AE}
noncomputable def RS(d:D):RF:=λS=>match d with
 | .ref n=>match S[n]? with
  | some (.lst l)=>some l
  | _=>none
 | .fro l=>some l
 | _=>none
def ID(ds:List D):RF:=λ_=>some ds
def wF(m:ME):MI:=λe S=>(m e S).bind λd l=>match RS d l with
 | some _=>.ok (RS d) l
 | none=>.bad
def qG(m:ME):MI:=λe S=>(m e S).bind λd l=>match d with
 | .tup o=>.ok (ID o) l
 | _=>.bad
def Sn(s:CV K ρ S H)(r:CB K ρ H d (.ref a))(l:RS d S=some ds):∃xs,SqL K H a xs/\A9 K ρ H ds xs:=by
 cases r with
 | tup A B=>cases l
 | exc _ _=>cases l
 | fro A B=>cases l;exact⟨_,A.sq,B⟩
 | @ref n _ C=>
  obtain⟨o,G,I⟩:=s.there C;unfold RS at l;simp only[G]at l
  cases o with
  | lst N=>
   cases l;obtain⟨J,e,L⟩:=I;exact⟨J,.inl (.inl e),L⟩
  | _=>cases l
def Sk(r:CB K ρ H d (.ref a)):OE K ρ H (Itl K a) (RS d):=by
 intro o O S P i l s G;obtain⟨A,sq,B⟩:=Sn s (r.mono l) G;refine⟨λI=>⟨A,sq,by rw[<-B.length];exact Cr.mp I⟩,λd J=>?_⟩;obtain⟨x,C,L⟩:=B.get J;refine⟨⟨A,x,sq,C⟩,λy Q ⟨e,N⟩=>?_⟩;subst e;have:=N A sq;rw[C]at this;cases this;exact⟨o,.refl,s,L⟩
def tR(h:GE X E e m):GI X E tg e (wF m):=(nP h).imp<|by
 rintro Q H R ⟨G,l,S,I,J,o⟩
 refine⟨G,l,S,I,J,o.seq λd L o A N x O C B=>?_⟩
 cases s:RS d L with
 | none=>rw[s]at o;exact o.elim
 | some T=>
  rw[s]at o
  have:∃a,x=.ref a:=by
   cases B <;> first | exact⟨_,rfl⟩ | (cases s;done)
  obtain⟨a,rfl⟩:=this;obtain⟨P,sq,_⟩:=Sn C B s;exact⟨a,rfl,⟨P,sq⟩,o A N _ O C (Sk B)⟩
def Si(C:H a=some (.tup xs))(G:A9 K ρ H ds xs):OE K ρ H (Itt K a) (ID ds):=by
 intro o I S Q i l s J;cases J;have A:=G.mono l;have sq:SqT K I a xs:=.inl (.inl (l.tup _ _ C));refine⟨λL=>⟨xs,sq,by rw[<-A.length];exact Cr.mp L⟩,λd N=>?_⟩;obtain⟨x,B,O⟩:=A.get N;refine⟨⟨xs,x,sq,B⟩,λy R ⟨e,P⟩=>?_⟩;subst e;have:=P xs sq;rw[B]at this;cases this;exact⟨o,.refl,s,O⟩
def tP(h:GE X E e m):GI X E tg e (qG m):=(re h).imp<|by
 rintro P H R ⟨B,l,S,C,G,o⟩
 refine⟨B,l,S,C,G,o.seq λd Q o s I x J L N=>?_⟩
 cases d <;> first | exact o.elim | skip
 cases N with
 | tup A O=>exact⟨_,rfl,⟨_,.inl (.inl A)⟩,o s I _ J L (Si A O)⟩
noncomputable def Ju(lo:Int)(n:Nat):List D:=(B1 n).map λi:Nat=>D.int (lo+i)
def Vd(lo:Int)(n i:Nat):(Ju lo n)[i]?=if i < n then some (.int (lo+i))else none:=by
 unfold Ju;rw[Ac]
 by_cases h:i < n
 ·rw[Cu h,qX h];rfl
 ·rw[qY h,Cr.mpr (by simpa using h)];rfl
def Sj(lo:Int)(n:Nat):OE K ρ H (Itr lo n) (ID (Ju lo n)):=by
 intro o I S J i l s C;cases C;rw[Vd];refine⟨λB=>?_,λd A=>?_⟩
 ·split at B
  ·cases B
  ·rename_i h;exact Sa h
 ·split at A
  ·rename_i h
   cases A;refine⟨h,λy L ⟨e,G⟩=>?_⟩;subst e;subst G;exact⟨o,.refl,s,.int _⟩
  ·cases A
def iR1(ml:ML):MI:=λe S=>(ml e S).bind λl o=>match l with
 | [.int j]=>if -(2 ^ 62)<=j/\j < 2 ^ 62 then .ok (ID (Ju 0 j.toNat)) o else .bad
 | _=>.bad
def iR2(ml:ML):MI:=λe S=>(ml e S).bind λl o=>match l with
 | [.int i,.int j]=>if -(2 ^ 62)<=i/\i < 2 ^ 62/\-(2 ^ 62)<=j/\j < 2 ^ 62 then .ok (ID (Ju i (j - i).toNat)) o else .bad
 | _=>.bad
def Eb(C:Gl X "range") (o:X.mg "range" = none) (G:GA X E [a] ml) (s:AY [a] X.env=[(false,Cd a X.env)]:=by rfl):GI X E tg (.Call (.Name "range" p) [a] [] pos) (iR1 ml):=(eZ C o G s).imp<|by
 rintro Q H R ⟨I,l,S,J,s,o⟩
 refine⟨I,l,S,J,s,o.seq λT U o A L Y N O P=>?_⟩;split at o
 ·rename_i j
  split at o
  ·rename_i B
   cases P with
   | cons r t=>
    cases t;cases r;exact⟨j,rfl,B.1,B.2,o A L _ N O (Sj 0 j.toNat)⟩
  ·exact o.elim
 ·exact o.elim
def Lc(B:Gl X "range") (o:X.mg "range" = none) (C:GA X E [a,b] ml) (s:AY [a,b] X.env=[(false,Cd a X.env),(false,Cd b X.env)]:=by rfl) (G:AY [b] X.env=[(false,Cd b X.env)]:=by rfl) :
  GI X E tg (.Call (.Name "range" p) [a,b] [] pos) (iR2 ml):=(eY B o C s G).imp<|by
 rintro U H R ⟨I,l,S,J,s,o⟩
 refine⟨I,l,S,J,s,o.seq λY Z o A L xs N O P=>?_⟩;split at o
 ·rename_i i j
  split at o
  ·rename_i Q
   cases P with
   | cons r t=>
    cases t with
    | cons T t=>
     cases t;cases r;cases T;exact⟨i,j,rfl,Q,o A L _ N O (Sj i _)⟩
  ·exact o.elim
 ·exact o.elim
end
def NW:List D->Lo->Sto->Res Lo
 | [],e,S=>.ok e S
 | _,_,_=>.bad
def Ek(g:MG)(r:List D->Lo->Sto->Res Lo):List D->Lo->Sto->Res Lo
 | d :: l,e,S=>(g d e S).bind λm o=>r l m o
 | [],_,_=>.bad
def M3(n:Nat)(r:List D->Lo->Sto->Res Lo):MG:=λd e S=>match d with
 | .tup l=>if l.length=n then r l e S else .bad
 | _=>.bad
section
variable{X:Cx}
def gGs(K:AE)(r:List D->Lo->Sto->Res Lo):TGs:=λB C H Q=>∃m e S A,A9 K m H A B/\GP K m H e C/\CV K m S H/\CO K noH m H (r A e S) λE G=>∀l s o,Le K m H l s->CV K l G s->GP K l s E o->Q o s
abbrev GGs(X:Cx)(ts:List Expr)(r:List D->Lo->Sto->Res Lo):Prop:=PGs X ts (gGs X.K r)
def PGs.imp(h:PGs X ts t)(i:∀vs σ H Q,t' vs σ H Q->t vs σ H Q):PGs X ts t':=λl s σ H vs m Q I r q=>h l s σ H vs m Q I r (i vs σ H Q q)
def SQ:GGs X [] NW:=nS.imp<|by
 rintro G s H Q ⟨A,l,S,m,B,C,E,o⟩
 cases m with
 | nil=>cases B;exact⟨rfl,o A H s .refl E C⟩
 | cons d m=>exact o.elim
def JB(G:GG X e g)(I:GGs X es r)
  (o:(IJ (e :: es) X.env).map (·.2)=Zd e X.env :: (IJ es X.env).map (·.2):=by rfl):GGs X (e :: es) (Ek g r):=(ir G I o).imp<|by
 rintro vs σ H Q ⟨J,l,S,s,L,N,o,m⟩
 cases s with
 | nil=>exact m.elim
 | cons d s=>
  cases L with
  | cons O P=>
   exact⟨_,_,rfl,J,l,S,d,O,N,o,m.seq λR T m A H1 U B Y Z=>⟨A,R,T,s,P.mono B,Z,Y,m.go B λ_ _ k C H2 E l2 s2 r2=>k C H2 E (B.trans l2) s2 r2⟩⟩
def W6(A:X.calm=true)(h:GGs X es r)
  (B:(IJ es X.env).length=n:=by rfl) (C:(IJ es X.env).findIdx? (·.1)=none:=by rfl):GG X (.Tuple es k pos) (M3 n r):=(rh A h B C).imp<|by
 rintro v O H Q ⟨E,l,S,d,G,I,J,m⟩
 cases d <;> first | exact m.elim | skip
 rename_i L
 cases G with
 | tup N s=>
  unfold M3 at m;dsimp only at m;split at m
  ·rename_i o
   exact⟨_,_,rfl,.inl (.inl N),by rw[<-s.length];exact o,E,l,S,L,s,I,J,m⟩
  ·exact m.elim
end
def spM(K:AE)(n:Nat)(f:List D->Sto->Res D):Sp:=λA H Q E=>∃o s S,s.length=n/\A9 K o H s A/\CV K o S H/\CO K (λc m=>E (.ref c) none m) o H (f s S) λd B=>
 ∀l m x,Le K o H l m->CV K l B m->CB K l m d x->Q x m
def spM.len{K}{n}{f}{vs}{H}{Q}{E}(h:spM K n f vs H Q E):vs.length=n:=by
 obtain⟨o,s,S,l,m,_⟩:=h;rw[<-m.length];exact l
def CM(n:Nat)(f:List D->Sto->Res D)(m:ML):ME:=λe S=>(m e S).bind λl o=>if l.length=n then f l o else .bad
def No(C:AT)(n:Nat)(f:List D->Sto->Res D)(m:ML):ME:=λe S=>(m e S).bind λo l=>if o.length+1=n then(f (.ref l.length :: o) (l++[.ins C []])).bind (λd s=>match d with
  | .non=>.ok (.ref l.length) s
  | _=>.bad)else .bad
def WJ(E:EW)(σ:St):XK:=λv o H=>o=none/\∃c,v=.ref c/\E c σ H
section
variable{X:Cx}{E:EW}{k n:Nat}{x:Str}{e:Expr}{es:List Expr}
def CO.xk{B:Type}{K:AE}{σ:St}{ρ m:List AT}{H C:Hp}{r:Res B}{k k':B->Sto->Prop}(h:CO K (λc=>E c σ) ρ H r k)(l:Le K ρ H m C)(f:∀a S,k a S->k' a S):CO K (λc o=>WJ E σ (.ref c) none o) m C r k':=by
 cases r with
 | ok a S=>exact f a S h
 | err c S=>exact λA o G s=>⟨rfl,c,rfl,h A o (l.trans G) s⟩
 | bad=>exact h
def Bq(F:DF X.prog X.w X.K X.mg X.base CX k f fd ps (spM X.K n g))(G:Mw CX X (WJ E))(I:IB k X.A)(J:Gl X x)(m:X.mg x=some (.ref f))(L:Ft X.K (.ref f)=true)(hb:Binds X.K fd ps [])
  (N:GA X E (e :: es) ml) (O:(x==("__debug__" : Str))=false:=by decide) (P:AY (e :: es) X.env=(false,Cd e X.env) :: AY es X.env:=by rfl) (R:(ER pos (AY es X.env)).any (·.1)=false:=by rfl) :
  GE X E (.Call (.Name x p) (e :: es) [] pos) (CM n g ml):=(nj (E:=WJ E) F I J m L hb .nil G N O P R).imp<|by
 rintro σ H Q ⟨T,l,S,U,Y,m⟩
 refine⟨T,l,S,U,Y,m.seq λZ S1 m s H1 xs C s1 r1=>?_⟩;split at m
 ·rename_i o
  rw[Bh];exact⟨s,Z,S1,o,r1,s1,m.xk C λ_ _ k B H' z l' s' r'=>k B H' z (C.trans l') s' r'⟩
 ·exact m.elim
def XA(M:Mk X.K C f)(F:DF X.prog X.w X.K X.mg X.base CX k f fd ps (spM X.K n g))(Z:Mw CX X (WJ E))(hr:IB (k+1) X.A)(hg:Gl X x)(m:X.mg x=some (.ref C))(hb:Binds X.K fd ps [])
  (G:GA X E (e :: es) ml) (yb:(x==("__debug__" : Str))=false:=by decide) (he:AY (e :: es) X.env=(false,Cd e X.env) :: AY es X.env:=by rfl) (xM:(ER pos (AY es X.env)).any (·.1)=false:=by rfl) :
  GE X E (.Call (.Name x p) (e :: es) [] pos) (No C n g ml):=(nX (E:=WJ E) M F hr hg m hb .nil Z G yb he xM).imp<|by
 rintro σ H Q ⟨ρ,l,S,hl,hs,m⟩
 refine⟨ρ,l,S,hl,hs,m.seq λds T m I H1 xs U s1 r1 a J G L xI=>?_⟩;split at m
 ·rename_i s
  rw[Bh];obtain⟨s2,N⟩:=JX (ho:=.own a) s1 L
  have O:upd H1 J (.own a) a=none:=by rw[Bb (CF xI)];exact G
  obtain⟨s3,P,B⟩:=s2.alloc (p:=a) (ho:=.ins C J []) (o:=.ins C []) O ⟨J,[],CG,.nil⟩;refine⟨I++[a],.ref T.length :: ds,T++[.ins C []],by simpa using s,.cons (.ref B) (r1.mono (N.trans P)),s3,CO.xk (m.seq λz S2 m=>m) (U.trans (N.trans P)) λz S2 m R H' y Y s' r'=>?_⟩
  cases z <;> first | exact m.elim | skip
  cases r';exact⟨rfl,m R H' _ (U.trans (N.trans (P.trans Y))) s' (.ref (Y.pre _ _ B))⟩
 ·exact m.elim
end
theorem KVR.lookup{K}{ρ}{H}(f:Str):∀{x:List (Str×D)} {y:List (Str×V)} {d:D},KVR K ρ H x y->x.lookup f=some d->∃v,y.lookup f=some v/\CB K ρ H d v
 | _,_,_,.nil,h=>by simp at h
 | (g,a) :: x,(s,b) :: y,d,.cons r t,h=>by
  obtain⟨l,m⟩:=r;dsimp only at l m;subst l;rw[BX]at h ⊢
  cases o:(f==g)with
  | true=>rw[o]at h;cases h;exact⟨b,rfl,m⟩
  | false=>rw[o]at h;exact KVR.lookup f t h
def KO(f:Str)(v:D):List (Str×D)->List (Str×D)
 | []=>[(f,v)]
 | (g,x) :: r=>if g=f then(g,v) :: r else(g,x) :: KO f v r
theorem KVR.putF{K}{ρ}{H}(f:Str){d}{v}(m:CB K ρ H d v):∀{x:List (Str×D)} {y:List (Str×V)},KVR K ρ H x y->KVR K ρ H (KO f d x) (putF f v y)
 | _,_,.nil=>.cons ⟨rfl,m⟩ .nil
 | (g,a) :: x,(A,b) :: y,.cons r t=>by
  obtain⟨o,s⟩:=r;dsimp only at o s;subst o;unfold KO L2.putF
  by_cases l:g=f
  ·rw[qX l,qX l];exact .cons ⟨rfl,m⟩ t
  ·rw[qY l,qY l];exact .cons ⟨rfl,s⟩ (KVR.putF f m t)
def KVR.length{l:Type}{K:AE}{ρ:List AT}{H:Hp}{x:List (l×D)}{y:List (l×V)}(h:KVR K ρ H x y):x.length=y.length:=FQ h
def DY(C:AT)(f:Str)(m:ME):ME:=λe S=>(m e S).bind λd l=>match d with
 | .ref n=>match l[n]? with
  | some (.ins o fs)=>if o=C then(match fs.lookup f with | some v=>.ok v l | none=>.bad)else .bad
  | _=>.bad
 | _=>.bad
def Jr(C:AT)(f:Str)(mo mv:ME):MS:=λe S=>(mv e S).lift e λv m=>(mo e m).lift e λd l=>match d with
 | .ref n=>match l[n]? with
  | some (.ins o fs)=>if o=C/\fs.length < 1000 then .ok (.nx e) (l.set n (.ins C (KO f v fs)))else .bad
  | _=>.bad
 | _=>.bad
section
variable{X:Cx}{E:EW}{o e value:Expr}{m mv:ME}
def C0(J:Cls X.K C)(L:FW X.K C f)(N:GE X E e m)(hb:Gi e f X.env (Cd e X.env)=Cd e X.env:=by rfl):GE X E (.Attribute e f pos) (DY C f m):=(sD N hb).imp<|by
 rintro σ H Q ⟨O,l,S,P,R,s⟩
 refine⟨O,l,S,P,R,s.seq λx T s B U v Y I Z=>?_⟩
 cases x <;> first | exact s.elim | skip
 rename_i n;dsimp only at s
 cases A:T[n]? with
 | none=>rw[A]at s;exact s.elim
 | some ob=>
  rw[A]at s
  cases ob <;> first | exact s.elim | skip
  rename_i C' fs;dsimp only at s;split at s
  ·rename_i hC
   rw[hC]at A
   cases Z with
   | ref yy=>
    obtain⟨dx,zD,e1,e2⟩:=I.ob n _ _ A yy
    cases G:fs.lookup f with
    | none=>rw[G]at s;exact s.elim
    | some w=>
     rw[G]at s;obtain⟨v,h3,h4⟩:=KVR.lookup f e2 G;exact⟨_,_,dx,zD,v,rfl,e1,J,L,h3,s B U v Y I h4⟩
  ·exact s.elim
def Kx(hc:Cls X.K C)(hn:FW X.K C f)(ha:GE X E o m)(hv:GE X E value mv)(N:HI value (some (.Attribute o f G)) pos.line X.env=pure false:=by rfl):GS X E (.Assign [.Attribute o f G] value pos) (Jr C f m mv):=(rZ ha hv N).imp<|by
 rintro D σ H ⟨ρ,l,S,I,N,s⟩
 refine⟨ρ,l,S,I,N,s.lift I .refl λv S1 s O H1 y B s1 r1=>⟨O,l,S1,I.mono B,s1,(s.later B).lift (I.mono B) B λx S2 s A U u P Y r2=>?_⟩⟩
 cases x <;> first | exact s.elim | skip
 rename_i n;dsimp only at s
 cases ho:S2[n]? with
 | none=>rw[ho]at s;exact s.elim
 | some ob=>
  rw[ho]at s
  cases ob <;> first | exact s.elim | skip
  rename_i C' fs;dsimp only at s;split at s
  ·rename_i Q
   obtain⟨Q,J⟩:=Q;rw[Q]at ho
   cases r2 with
   | ref R=>
    obtain⟨L,T,Z,e2⟩:=Y.ob n _ _ ho R;have le:Le X.K A U A (upd U _ (.ins C L (putF f y T))):=Le.write R (by rw[Z];trivial);obtain⟨s3,l3⟩:=Y.write (ho:=.ins C L (putF f y T)) (o:=.ins C (KO f v fs)) R ⟨L,_,CG,(KVR.putF f (r1.mono P) e2).mono le⟩ le;refine⟨_,C,L,T,rfl,Z,hc,hn,by rw[<-KVR.length e2];exact J,?_⟩;exact s A _ σ (B.trans (P.trans l3)) s3 (I.mono (B.trans (P.trans l3)))
  ·exact s.elim
end
theorem Ck.get(x:Ck P w H h a o):∃u,h.get? a=some u:=by
 cases o with
 | lst l=>obtain⟨_,_,_,_,e⟩:=x;exact⟨_,e⟩
 | tup l=>obtain⟨_,_,_,o,e,_⟩:=x;exact⟨_,e⟩
 | dK m=>obtain⟨_,_,_,_,o,_,_,e,_⟩:=x;exact⟨_,e⟩
 | dT m=>obtain⟨_,_,_,_,o,_,_,e,_⟩:=x;exact⟨_,e⟩
 | set S n=>obtain⟨o,_,_,_,e,_⟩:=x;exact⟨_,e⟩
 | ins C s fs=>obtain⟨_,_,_,e,_⟩:=x;exact⟨_,e⟩
 | own y=>exact x
 | xd fs=>obtain⟨_,⟨_,_,_,e,_⟩,_⟩:=x;exact⟨_,e⟩
 | rng lo A=>obtain⟨_,_,_,e⟩:=x;exact⟨_,e⟩
 | frz B u=>obtain⟨e,_⟩:=x;exact⟨_,e⟩
 | tbl E=>exact⟨_,(show h.get? a=some _ from x)⟩
 | met f y=>exact⟨_,(show h.get? a=some _ from x)⟩
 | ext G=>obtain⟨_,e,_⟩:=x;exact e
def VJ(Nw:AT->Prop)(F:Option AI->Prop)(l C:AT)(H:Hp)(h:DA):Prop:=
 H l=none/\Nw l/\∃(m:Obj) (o:Array AI) (E:AI),h.get? l=some m/\m.cls=.ref C/\(m.dict=none/\m.data=.fields o)/\o[0]?=some E /\
  ((F none/\o[1]?=some .none)∨∃(T:AT) (s:Obj) (A:Array AI) (B:AI),F (some B)/\o[1]?=some (.ref T)/\T≠l/\H T=none/\Nw T/\h.get? T=some s/\s.data=.fields A/\A[3]?=some B)
def VJ.imp(x:VJ Nw F l C H h)(f:∀o,F o->G o):VJ Nw G l C H h:=by
 obtain⟨m,s,A,B,E,I,J,L,N,O⟩:=x;refine⟨m,s,A,B,E,I,J,L,N,?_⟩
 rcases O with⟨a,b⟩ | ⟨T,P,Q,R,a,b⟩
 ·exact .inl ⟨f _ a,b⟩
 ·exact .inr ⟨T,P,Q,R,f _ a,b⟩
structure Li(X:Cx):Prop where
 st:X.stack=X.env :: X.outer
 fr:X.env.frame=some X.env.locals
 ex:X.ex=[]
def Nw(X:Cx)(b:AT):Prop:=X.s₀.heap.get? b=none/\∀p∈X.pn,p.1≠b
section
variable{X:Cx}{σ:St}{H:Hp}{s:AK}{h':DA}{ea C:AT}{F:Option AI->Prop}
def Inv.old(I:Inv X A σ H s)(O:Li X)(e:s.heap.get? b=none):H b=none/\Nw X b:=by
 refine⟨?_,?_,λp m z=>?_⟩
 ·cases q:H b with
  | none=>rfl
  | some u=>
   obtain⟨o,l⟩:=(I.hok b u q).get;rw[e]at l;cases l
 ·cases q:X.s₀.heap.get? b with
  | none=>rfl
  | some o=>
   obtain⟨B,l⟩:=I.base.there b o q (by rw[O.ex];simp);rw[e]at l;cases l
 ·have:=(I.pin p (BL _ m)).1
  rw[z,e]at this;cases this
def Inv.recs(I:Inv X [] σ H s)(O:Li X)(A:∀b∈ch,H b=none/\Nw X b/\∃o vs,s.heap.get? b=some o/\o.data=.fields vs)
  (st:(Mx s.heap (frs X.stack++ch)).StaysIn h') (up:s.heap.UpToSlots h'):Inv X [] σ H { s with heap:=h' }:=by
 have G:∀b o,b∉frs X.stack->b∉ch->s.heap.get? b=some o->h'.get? b=some o:=λb o R S e=>
  st b o (ZL _ e λz=>(Av.mp z).elim R S)
 have J:∀b∈ch,b≠X.env.locals:=λb hb z=>by
  obtain⟨_,_,o,vs,e,d⟩:=A b hb;obtain⟨m,⟨L,es,ep,l,E,_⟩,_⟩:=I.loc;rw[z,l]at e;cases e;rw[E]at d;cases d
 have N:∀b∈ch,∀x c,X.env.cells.lookup x=some c->c≠b:=λb hb x c q z=>by
  obtain⟨_,_,o,vs,e,d⟩:=A b hb;obtain⟨v,L,l,E⟩:=I.cell x c q;rw[z,e]at l;cases l;rw[d]at E;cases E
 refine I.stepN (g':=s.gens) (t':=s.toks) (d':=s.drawn) (ch:=ch) (λb hb=>⟨.inr (A b hb).2.1.1,J b hb,N b hb,λp T=>(A b hb).2.1.2 p (by rwa [Bh]at T)⟩)
  (λb o U B P e _=>G b o (λz=>(Ai.mp (I.stkSub b z)).elim U B) P e) (λb o _ Y _ e _=>?_) (λ_ _ _ _ n=>n) (λb o P e=>?_) (λ_ _ q=>q) (λ_ _ _ q=>q) (λb ps q=>⟨#[],by rw[q];simp⟩) (λm Z=>up.ns Z) (λa o e=>?_) I.bare
 ·obtain⟨L,l,B⟩:=(I.funs.mem Y).2
  rw[e]at l;cases l;exact up b o e B
 ·by_cases hb:b∈frs X.stack
  ·obtain⟨L,l,B⟩:=(I.stack.mem hb).2
   rw[e]at l;cases l;obtain⟨sl,q⟩:=up b o e B;exact⟨_,q⟩
  ·exact⟨o,G b o hb P e⟩
 ·have Q:∀b u,H b=some u->∀v,s.heap.get? b=some v->h'.get? b=some v:=λb u q v r=>
   G b v (λz=>by rw[I.stkFree b z]at q;cases q) (λz=>by rw[(A b z).1]at q;cases q) r
  refine(I.hok a o e).stay (λb u hb q=>?_) (λ_ q=>q) λ_ _ q=>q
  rcases hb with z | z
  ·subst z;exact Q _ _ e u q
  ·exact Q _ _ z u q
abbrev jr(X:Cx)(h:DA)(ch:List AT):DA:=Mx h (frs X.stack++ch)
def Vp(hb:b∈ch):(jr X h ch).get? b=none:=NP _ (Ba _ hb)
def N5(f:Array AI->Array AI)(o:Obj):(Dh f o).dict=o.dict:=by
 obtain⟨c,d,l,sl⟩:=o
 cases l <;> rfl
def Yy
  (O:A.frames=some (env :: l)) (S:s.heap.FunFrames base (env :: l)) (hf:env.frame=some L) (U:s.heap.get? e=some oe) (P:oe.data=.fields vs) (hsz:1 < vs.size)
  (k:∀B T Y ts,T≠e->s.heap.get? T=none->(∀b o,b≠e->b∉frs (env :: l)->s.heap.get? b=some o->B.get? b=some o)->(∀b o,b≠e->s.heap.get? b=some o->∃sl,B.get? b=some { o with slots:=sl }) ->
   B.get? e=some (Dh (·.setIfInBounds 1 (.ref T)) oe)->B.get? T=some Y->Y.data=.fields ts->ts[3]?=some (FO L)->Q () { s with heap:=B }) :
  Am M A (do let a <-frameOf env;let pl <-entryPlaceOf L hadNext;let b <-WI head a .none (FO L) .none pl;lP (.ref e) 1 b) Q E s:=by
 have G:e∉frs (env :: l):=λz=>by
  obtain⟨_,o,Z,R⟩:=S.mem z;rw[U]at Z;cases Z;exact R vs P
 refine AB (wpAny_frameOf_fun O S hf λm N=>AB (wpAny_entryPlaceOf λpl xM=>?_));unfold WI newFields;refine AB (E3 ?_ (xM.sizeOk5 _ _ _ _ _));have e1:m.get? e=some oe:=(N.2.1 e G).trans U;have e2:=AR (h:=m) { cls:=.type "traceback",dict:=none,data:=.fields ([head,.ref L,.none,FO L,.none]++(if pl.isEmpty then Be 6 Bn else pl)).toArray } e1;refine G8 e2 P hsz ?_;have I:m.objs.size≠e:=Eo (Ad e1);have dd:=Cm P (·.setIfInBounds 1 (BB m.objs.size))
 have old:∀b o,b≠e->m.get? b=some o->((m.push { cls:=.type "traceback",dict:=none,data:=.fields ([head,.ref L,.none,FO L,.none]++(if pl.isEmpty then Be 6 Bn else pl)).toArray }).update e (Dh (·.setIfInBounds 1 (BB m.objs.size)))).get? b=some o:=λb o J q=>by
  rw[D5 _ _ (CF J)];exact AR _ q
 refine k _ m.objs.size { cls:=.type "traceback",dict:=none,data:=.fields ([head,.ref L,.none,FO L,.none]++(if pl.isEmpty then Be 6 Bn else pl)).toArray } _ I (bb (Zj N.1.symm)) (λb o J R q=>old b o J ((N.2.1 b R).trans q)) (λb o J q=>?_) (EV _ e2 (Fu dd)) ?_ rfl ?_
 ·obtain⟨sl,z⟩:=N.2.2 b o q
  exact⟨sl,old b _ J z⟩
 ·rw[D5 _ _ (CF I)]
  exact Al m rfl
 ·rcases xM with rfl | ⟨_,_,_,_,_,_,_,rfl⟩ <;> simp
def YB(keep:∀b o,b∉frs X.stack->b∉ch->h.get? b=some o->h'.get? b=some o):(jr X h ch).StaysIn h':=λb o q=>by
 have hb:b∉frs X.stack++ch:=λz=>by
  have:=NP (h:=h) (frs X.stack++ch) z;rw[show(jr X h ch).get? b=(Mx h (frs X.stack++ch)).get? b from rfl,this]at q;cases q
 exact keep b o (λz=>hb (BL _ z)) (λz=>hb (Ba _ z)) (Oy _ q)
def Wt(I:Inv X [] σ H s)(O:Li X)(hA:A.frames=some X.stack)(x:VJ (Nw X) F ea C H s.heap)
  (hF:∀o,F o->o=none∨o=some .none∨o=some (FO X.env.locals))
  (k:∀h',Inv X [] σ H { s with heap:=h' }->VJ (Nw X) (· = some (FO X.env.locals)) ea C H h'->Q () { s with heap:=h' }):Am M A (fx (.ref ea) X.env) Q E s:=by
 obtain⟨P,R,Y,vs,a0,B,Z,⟨g0,l⟩,g4,g5⟩:=x
 have S:A.frames=some (X.env :: X.outer):=by rw[hA,O.st]
 have yz:frs (X.env :: X.outer)=frs X.stack:=by rw[O.st]
 have fr:s.heap.FunFrames X.base (X.env :: X.outer):=by rw[<-O.st];exact I.stack
 rcases g5 with⟨_,J⟩ | ⟨T,L,N,fl,hf,J,ne,m1,m2,gT,dT,h3⟩
 ·have m:=(GY.mp J).1
  unfold fx;simp only[O.fr];refine AB (Fj B l J ?_);rw[qY (by decide)]
  refine Yy S fr O.fr B l m λh2 T L N nT fT kp up q1 q2 q3 q4=>?_
  rw[yz]at kp;have U:=I.old O fT
  have hc:∀b∈[ea],H b=none/\Nw X b/\∃o vs,s.heap.get? b=some o/\o.data=.fields vs:=λb hb=>by
   cases AU.mp hb;exact⟨P,R,Y,vs,B,l⟩
  refine k h2 (I.recs O hc (YB λb o z1 z2 q=>kp b o (λz=>z2 (AU.mpr z)) z1 q) λb o q G=>up b o (λz=>?_) q) ?_
  ·rw[z,B]at q
   cases q;exact G vs l
  ·exact⟨P,R,_,_,a0,q1,by rw[Lj];exact Z,⟨by rw[N5];exact g0,Cm l _⟩,by rw[RP (by decide)];exact g4,.inr ⟨T,L,N,_,rfl,by simp[m],nT,U.1,U.2,q2,q3,q4⟩⟩
 ·rcases hF _ hf with e | e | e
  ·cases e
  ·cases e
   have m:=(GY.mp J).1;unfold fx;simp only[O.fr];refine AB (Fj B l J ?_);rw[qX (show(BB T != Bn)=true from by simp)];refine AB (Fj gT dT h3 ?_);rw[qY (show ¬((Bn==FO X.env.locals)=true)from by simp[FO])];refine AB (G8 gT dT (GY.mp h3).1 ?_)
   have oth:∀b,b≠T->(s.heap.update T (Dh (·.setIfInBounds 3 Bn))).get? b=s.heap.get? b:=λb hb=>D5 _ _ (CF hb)
   have zP:∀b o,s.heap.get? b=some o->(∀vs,o.data≠.fields vs)->b≠T:=λb o hb G q=>by
    rw[q,gT]at hb;cases hb;exact G N dT
   have fr2:(s.heap.update T (Dh (·.setIfInBounds 3 Bn))).FunFrames X.base (X.env :: X.outer):=fr.of_keeps λb o hb G=>⟨o,(oth b (zP b o hb G)).trans hb,rfl⟩
   have gU:(s.heap.update T (Dh (·.setIfInBounds 3 Bn))).get? T=some (Dh (·.setIfInBounds 3 Bn) L):=EV _ gT (Fu (Cm dT _))
   have hc:∀b∈[ea,T],H b=none/\Nw X b/\∃o vs,s.heap.get? b=some o/\o.data=.fields vs:=λb hb=>by
    rcases Ai.mp hb with rfl | hb
    ·exact⟨P,R,Y,vs,B,l⟩
    ·cases AU.mp hb
     exact⟨m1,m2,L,N,gT,dT⟩
   refine Yy (s:={ s with heap:=s.heap.update T (Dh (·.setIfInBounds 3 Bn)) }) S fr2 O.fr ((oth ea (CF ne)).trans B) l m λh2 T2 oT2 ts2 nT fT kp up q1 q2 q3 q4=>?_
   rw[yz]at kp
   have fT':s.heap.get? T2=none:=by
    have z:T2≠T:=λz=>by rw[z]at fT;exact zX (fT.symm.trans gU) (by simp)
    rw[<-oth T2 z];exact fT
   have U:=I.old O fT';refine k h2 (I.recs O hc (YB λb o z1 z2 q=>kp b o (λz=>z2 (by rw[z];exact AW)) z1 ((oth b λz=>z2 (by rw[z];exact AQ _ (AU.mpr rfl))).trans q)) λb o q G=>up b o (λz=>?_) ((oth b (zP b o q G)).trans q)) ?_
   ·rw[z,B]at q
    cases q;exact G vs l
   ·exact⟨P,R,_,_,a0,q1,by rw[Lj];exact Z,⟨by rw[N5];exact g0,Cm l _⟩,by rw[RP (by decide)];exact g4,.inr ⟨T2,oT2,ts2,_,rfl,by simp[m],nT,U.1,U.2,q2,q3,q4⟩⟩
  ·cases e
   have hTn:(jr X s.heap [ea,T]).get? T=none:=Vp (AQ _ (AU.mpr rfl));refine wpAny_noteFrame_againW (base:=jr X s.heap [ea,T]) (cls:=.ref C) (a0:=a0) O.fr ⟨Y,vs,T,L,N,B,⟨Z,g4⟩,l,J,hTn,ne,gT,dT,h3⟩ ?_;exact k s.heap I ⟨P,R,Y,vs,a0,B,Z,⟨g0,l⟩,g4,.inr ⟨T,L,N,_,rfl,J,ne,m1,m2,gT,dT,h3⟩⟩
def OS(f:Option AT)(I:Inv X [] σ H s)(O:Li X)(x:VJ (Nw X) F ea C H s.heap)(Y:¬F none)
  (k:∀h',Inv X [] σ H { s with heap:=h' }->VJ (Nw X) (· = some (f.elim Bn λa=>FO a)) ea C H h'->Q () { s with heap:=h' }):Am M A (setFlight (.ref ea) f) Q E s:=by
 obtain⟨L,N,P,vs,Z,m,g2,⟨g0,B⟩,g4,g5⟩:=x
 rcases g5 with⟨z,_⟩ | ⟨T,oT,G,fl,hf,R,S,U,m2,gT,dT,h3⟩
 ·exact(Y z).elim
 ·have hc:∀b∈[ea,T],H b=none/\Nw X b/\∃o vs,s.heap.get? b=some o/\o.data=.fields vs:=λb hb=>by
   rcases Ai.mp hb with rfl | hb
   ·exact⟨L,N,P,vs,m,B⟩
   ·cases AU.mp hb
    exact⟨U,m2,oT,G,gT,dT⟩
  have l:3 < G.size:=(GY.mp h3).1;unfold setFlight;refine AB (Fj m B R ?_);rw[qX (show(BB T != Bn)=true from by simp)];refine G8 gT dT l ?_
  have oth:∀b,b≠T->(s.heap.update T (Dh (·.setIfInBounds 3 (f.elim Bn λa=>FO a)))).get? b=s.heap.get? b:=λb hb=>D5 _ _ (CF hb)
  have zP:∀b o,s.heap.get? b=some o->(∀vs,o.data≠.fields vs)->b≠T:=λb o hb J q=>by
   rw[q,gT]at hb;cases hb;exact J G dT
  refine k _ (I.recs O hc (λb o q=>?_) λb o q J=>⟨o.slots,(oth b (zP b o q J)).trans q⟩) ?_
  ·have hb:b≠T:=λz=>by rw[z,Vp (AQ _ (AU.mpr rfl))]at q;cases q
   exact(oth b hb).trans (Oy _ q)
  ·refine⟨L,N,P,vs,Z,(oth ea (CF S)).trans m,g2,⟨g0,B⟩,g4,.inr ⟨T,_,_,_,rfl,R,S,U,m2,EV _ gT (Fu (Cm dT _)),Cm dT _,?_⟩⟩
   simp[l]
end
def trF(X:Cx)(o:Option AI):Prop:=o=none∨o=some .none∨o=some (FO X.env.locals)
def XE(X:Cx)(E:EW)(e:AI)(s':AK):Prop:=∃m C o l,e=.ref m/\Inv X [] o l s'/\VJ (Nw X) (trF X) m C l s'.heap/\E C o l
def CXG(P:Bf)(w:CH):CXT:=λl H s E e m=>∃A C o,e=.ref A/\m.os=s.os/\KL m.gens/\Un (frs l) [] H o s.heap m.heap/\HOk P w o m.heap/\VJ (λb=>s.heap.get? b=none) (· = some .none) A C o m.heap/\E (.ref C) none o
def XE.own(O:Li X):RH (Ag X.prog X.w) X.A X.env (XE X E):=by
 rintro e B ⟨L,C,N,H,rfl,I,x,w⟩
 refine Wt I O I.ok.frames x (λo z=>z) λG P J=>?_
 have l:=J;obtain⟨Z,n2,oe,vs,a0,Q,g2,R,g4,S⟩:=l
 rcases S with⟨z,_⟩ | ⟨T,oT,ts,fl,hf,m,_⟩
 ·cases z
 ·show Am _ _ _ _ _ _
  refine AB (Fj (s:={ B with heap:=G }) Q R.2 m ?_);rw[qY (by simp)];rw[O.fr]
  refine OS (s:={ B with heap:=G }) (some X.env.locals) P O J (by simp) λh2 U Y=>?_
  exact⟨L,C,N,H,rfl,U,Y.imp λo z=>.inr (.inr z),w⟩
def XE.leave(O:Li X)(h:XE X E e s')
  (k:∀l C σ m B,e=.ref l->Inv X [] σ m B->VJ (Nw X) (· = some .none) l C m B.heap->E C σ m->Q () B):Am (Ag X.prog X.w) X.A (leaving X.env e) Q R s':=by
 obtain⟨l,C,σ,H,rfl,I,x,w⟩:=h;unfold leaving;refine AB (Wt I O I.ok.frames x (λo z=>z) λG J L=>?_)
 refine OS (s:={ s' with heap:=G }) none J O L (by simp) λS N P=>?_
 exact k l C σ H _ rfl N P w
noncomputable abbrev Cx.p(X:Cx)(pn:List (AT×Obj)):Cx:={ X with pn:=pn }
abbrev Cx.w'(X:Cx)(pn:List (AT×Obj))(E:EW):Cx:={ X with pn:=pn,xe:=XE (X.p pn) E }
def Inv.with(I:Inv X m σ H s)(z:AI->AK->Prop):Inv { X with xe:=z } m σ H s:=by
 obtain⟨ok,a,b,c,d,e,f,g,i,j,l⟩:=I;obtain⟨o,A,B,C,E,G,J,L,N,O,P,Q,R,S,T,U,Y,Z⟩:=ok;exact⟨⟨o,A,B,C,E,G,J,L,N,O,P,Q,R,S,T,U,Y,Z⟩,a,b,c,d,e,f,g,i,j,l⟩
def Inv.without(I:Inv { X with xe:=z } l σ H s):Inv X l σ H s:=by
 have:=I.with X.xe
 exact this
def Inv.pinIn(I:Inv X m σ H s):Inv (X.p (X.pn++m)) [] σ H s:=by
 obtain⟨ok,a,b,c,d,e,f,g,i,j,l⟩:=I;obtain⟨o,A,B,C,E,G,J,L,N,O,P,Q,R,S,T,U,Y,Z⟩:=ok;exact⟨⟨o,A,B,C,E,G,J,L,N,O,P,Q,R,S,T,U,Y,Z⟩,a,b,c,d,e,f,g,λq hq=>i q (by rwa [Bh]at hq),j,l⟩
def Inv.pinOut(I:Inv (X.p (X.pn++m)) [] σ H s):Inv X m σ H s:=by
 obtain⟨ok,a,b,c,d,e,f,g,i,j,l⟩:=I;obtain⟨o,A,B,C,E,G,J,L,N,O,P,Q,R,S,T,U,Y,Z⟩:=ok;exact⟨⟨o,A,B,C,E,G,J,L,N,O,P,Q,R,S,T,U,Y,Z⟩,a,b,c,d,e,f,g,λq hq=>i q (by show q∈(X.pn++m)++[];rwa [Bh]),j,l⟩
structure Good(X:Cx)(E:EW):Prop where
 pass:Mw (CXG X.prog X.w) X (WJ E)
 own:RH (Ag X.prog X.w) X.A X.env X.xe
 made:∀(ζ:List (AT×Obj)) (σ:St) (H:Hp) (s:AK) (h':DA) (ea C:AT) (args:List AI),Inv X ζ σ H s->E C σ H->DA.MadeExcOf s.heap h' ea (.ref C) args->X.xe (.ref ea) { s with heap:=h' }
def Li.p(O:Li X)(pn:List (AT×Obj)):Li (X.p pn):=⟨O.st,O.fr,O.ex⟩
def BI(O:Li X):Good (X.w' pn E) E:=by
 have G:=O.p pn;refine⟨λA l H s e s' I h=>?_,XE.own G,λA l H s Y J C U I w L=>?_⟩
 ·obtain⟨J,C,N,rfl,os,B,un,P,x,_,c,Z,w⟩:=h
  cases Z;have o:Inv (X.p pn) A l H s:=Inv.without (X:=X.p pn) I;have Q:Inv (X.p pn) A l N s':=o.call' os un P B (λb z=>zX z (by simp))
  have I2:Inv (X.p pn) [] l N s':=Q.pins_of λp R=>zX R (by simp)
  obtain⟨n1,n2,oe,vs,a0,S,g2,g3,g4,g5⟩:=x;refine⟨J,C,l,N,rfl,I2,⟨n1,(o.old G n2).2,oe,vs,a0,S,g2,g3,g4,?_⟩,w⟩
  rcases g5 with⟨z,_⟩ | ⟨T,oT,ts,fl,hf,h1,ne,m1,m2,r⟩
  ·cases z
  ·exact .inr ⟨T,oT,ts,fl,.inr (.inl hf),h1,ne,m1,(o.old G m2).2,r⟩
 ·have o:Inv (X.p pn) A l H s:=Inv.without (X:=X.p pn) I
  have Q:Inv (X.p pn) A l H { s with heap:=Y,toks:=s.toks }:=o.kept L.keeps;obtain⟨t,S,_,_⟩:=L.there;have m:=o.old G L.new;exact⟨J,C,l,H,rfl,Q.pins_of λp R=>zX R (by simp),⟨m.1,m.2,_,_,_,S,rfl,⟨rfl,rfl⟩,rfl,.inl ⟨.inl rfl,rfl⟩⟩,w⟩
def good_none(m:X.xe=λ_ _=>False):Good X noE:=by
 refine⟨λA B H s e E I h=>?_,by rw[m];exact RH.never,λ_ _ _ _ _ _ _ _ _ w _=>w.elim⟩;obtain⟨G,C,J,rfl,os,l,un,o,x,_,c,L,w⟩:=h;exact w.elim
abbrev Y6:List AI:=[.type "ValueError",.type "Exception",.type "BaseException",.type "object"]
structure XCl(K:AE)(C:AT):Prop where
 ex:lB K C Y6 "ValueError.__new__" = true
def XCl.obj{K}{C}(c:XCl K C):∃bm N nm q bs hdct sn sub ab col dd k0 k1 k2 k3 k5,K.lookup C=some (excClassObj nm q C N bs bm hdct sn sub ab col dd k0 k1 k2 k3 k5 "ValueError.__new__") /\
  SX K N=true/\PySem.W.nsIn K N "__init__" = some none/\PySem.W.tailIn K Y6 bm=true:=by
 have q:=c.ex;unfold lB at q;split at q
 ·rename_i o s A B
  split at q
  ·rename_i Cx E J L O P nx Q l m
   simp only[Db,beq_iff_eq,gh]at q;obtain⟨⟨⟨⟨⟨R,S⟩,H⟩,T⟩,e5⟩,I⟩:=q;subst R;subst S;obtain⟨U,X,f3,Y,Z,f6,f7,f8,f9,G,f11⟩:=s;dsimp only at l H e5 I;subst l;subst H;obtain⟨lx⟩:=A;dsimp only at m;subst m;exact⟨E,Y,U,Z,X,f6,f7,f8,f9,G,o,J,L,O,P,Q,B,e5,I,T⟩
  ·cases q
 ·cases q
def oG{K}{N}{h l}{m}(e:SX K N=true)(X:K.In h)(A:K.In l)(n:h.Ns N m):l.Ns N m:=by
 obtain⟨o,B,C,E,r⟩:=n;unfold SX at e;split at e
 ·rename_i s
  have z:=X _ _ s;rw[E]at z;cases z;exact⟨_,B,C,A _ _ s,r⟩
 ·cases e
def TV(C:AT)(ml:ML):MS:=λe S=>(ml e S).lift e λl m=>if l.length<=sizeLine then .ok (.ex C e) m else .bad
section
variable{E:EW}{x:Str}{e:Expr}{C:AT}
def Yt(G:Good X E)(hc:X.calm=true)(c:XCl X.K C)(hg:Gl X x)(o:X.mg x=some (.ref C))(ha:GA X E (e :: es) ml)(yb:(x==("__debug__" : Str))=false:=by decide)
  (Y:AY (e :: es) X.env=(false,Cd e X.env) :: AY es X.env:=by rfl) (xM:(ER O (AY es X.env)).any (·.1)=false:=by rfl) :
  GS X E (.Raise (some (.Call (.Name x np) (e :: es) [] O)) none pos) (TV C ml):=by
 intro Z s J H D I ⟨ρ,l,S,P,hs,Ω⟩;have hh:X.A.handled=none:=I.ok.hd hc;obtain⟨bm,N,nm,q,bs,hdct,sn,sub,ab,col,dd,k0,k1,k2,k3,k5,hC,m,Q,B⟩:=c.obj;have hN:s.heap.Ns N (s.heap.nsMap N):=.of_isNs (PySem.W.isNs_of_in I.kIn m)
 refine wpAny_Raise_call_subT (C:=C) (nm:=nm) (q:=q) (N:=N) (bs:=bs) (bm:=bm) (hdct:=hdct) (sn:=sn) (sub:=sub) (ab:=ab) (col:=col) (dd:=dd) (k0:=k0) (k1:=k1) (k2:=k2) (k3:=k3) (k5:=k5) (bmB:=Y6) PySem.F.excBase_ValueError
  ((Zg I.kIn B).hasType (by decide +kernel)) hh (by rw[Y];show(false||(ER O (AY es X.env)).any (·.1))=false;rw[xM];rfl) (PySem.W.nsMap_none_of_in I.kIn m Q)
  (QD I hg o ⟨rfl,?_⟩ yb)
 have ε:=ha O Z s J H (λvs R=>vs.length<=sizeLine/\E C J R) I ⟨ρ,l,S,P,hs,CO.lift Ω P .refl λds S1 o T R xs l1 s1 r1=>by
  split at o
  ·rename_i U
   exact⟨by rw[<-r1.length];exact U,o T R J l1 s1 (P.mono l1)⟩
  ·exact o.elim⟩
 rw[Y]at ε ⊢;refine Zn (thn ε λus s2 ⟨vs,H2,L,rv,U,w⟩=>?_);exact⟨rfl,by rw[<-rv.length];exact U,L.kIn _ _ hC,oG m I.kIn L.kIn hN,Zg L.kIn B,λh' ea hx=>G.made Z J H2 s2 h' ea C us L w hx⟩
end
abbrev Cx.suite(X:Cx)(l:AT):Cx:={ X with A:=X.A.mark (some (.ref l)),calm:=false,xe:=λ_ _=>False }
def Inv.suite(I:Inv X m σ H s)(o:AT):Inv (X.suite o) m σ H s:=by
 obtain⟨ok,a,b,c,d,e,f,g,i,j,l⟩:=I;obtain⟨A,B,C,E,G,J,L,N,o9,O,P,Q,R,S,T,U,Y,Z⟩:=ok;exact⟨⟨A,B,C,E,G,J,L,N,λz=>zX (show false=true from z) AH,O,P,Q,R,S,T,U,Y,Z⟩,a,b,c,d,e,f,g,i,j,l⟩
def Inv.unsuite(ok:X.Ok)(I:Inv (X.suite o) m σ H s):Inv X m σ H s:=by
 obtain⟨_,a,b,c,d,e,f,g,i,j,l⟩:=I;exact⟨ok,a,b,c,d,e,f,g,i,j,l⟩
def Inv.track(I:Inv X [] σ H s)(l:H ea=none)(G:Nw X ea)(A:s.heap.get? ea=some o)(J:o.data=.fields vs) :
  Inv X [] σ (upd H ea (.frz o (.ext λh=>∃u,h.get? ea=some u))) s:=by
 have N:X.env.locals≠ea:=λz=>by
  obtain⟨m,⟨O,Z,ep,B,C,_⟩,_⟩:=I.loc;rw[z,A]at B;cases B;rw[J]at C;cases C
 have P:∀x c,X.env.cells.lookup x=some c->c≠ea:=λx c q z=>by
  obtain⟨v,O,B,C⟩:=I.cell x c q;rw[z,A]at B;cases B;rw[J]at C;cases C
 refine⟨I.ok,I.os,I.bare,⟨I.base.keep,I.base.slot,λb u q n Q=>?_,I.base.there,λb E q=>?_,λb u E q=>?_,λb R q=>?_⟩,I.loc,I.cell,?_,λx c q=>?_,λp L=>?_,λb u q=>?_,I.len⟩
 ·rw[Bb λz=>by rw[z,G.1]at q;cases q]
  exact I.base.free b u q n Q
 ·have:=I.base.tups b E q
  rw[Bb (CD this l)];exact this
 ·have:=I.base.frzs b u E q
  rw[Bb (CD this l)];exact this
 ·obtain⟨more,this⟩:=I.base.tbls b R q
  exact⟨more,by rw[Bb (CD this l)];exact this⟩
 ·rw[Bb N];exact I.free
 ·rw[Bb (P x c q)];exact I.freeC x c q
 ·obtain⟨S,T,U⟩:=I.pin p L
  exact⟨S,by rw[Bb (G.2 p (by rwa [Bh]at L))];exact T,U⟩
 ·by_cases hb:b=ea
  ·subst hb
   rw[CG]at q;cases q;exact⟨A,⟨o,A⟩,⟨o,A⟩,λh1 h2 ⟨u,Y⟩ k=>⟨u,k u Y⟩⟩
  ·rw[Bb hb]at q
   exact(I.hok b u q).stay (λ_ _ _ z=>z) (λc z=>by rw[Bb (CD z l)];exact z) λc E z=>by rw[Bb (CD z l)];exact z
def OR(I:Inv X [] σ H s)(hN:X.N.Nodup)(hi:X.N[i]?=some n)(Y:X.env.scope.names.lookup n=some .local)
  (k:∀s',Inv X [] (σ.set i none) H s'->Q () s'):Am M A (do bindName X.env n .none;unbindBehindTheSuite X.env n pos) Q E s:=by
 obtain⟨m,R,Z⟩:=id I.loc
 have J:(X.env.scope.kind==.class||(X.env.scope.kind==.module&&X.env.locals != X.env.globals))=false:=by rw[I.ok.kind];rfl
 have L:∀b o,X.s₀.heap.get? b=some o->b≠X.env.locals:=λb o e=>A0 (AV (Ad e) I.ok.above)
 obtain⟨oL,_,_,hoL,_⟩:=id R
 refine wpAny_nameGoes_keeps Y R J λh' v yy B=>k _ ?_
 have l:∀y c w',X.env.cells.lookup y=some c->s.heap.IsCell c w'->h'.IsCell c w':=λy c w' q z=>z.sameBut B (I.cne y c q)
 refine⟨I.ok,I.os,I.bare,⟨λb o e z hb C=>(B.2 b (L b o e)).trans (I.base.keep b o e z hb C),λb o e z hb C=>?_,I.base.free,λb o e C=>?_,I.base.tups,I.base.frzs,I.base.tbls⟩,⟨_,yy,λj y S T G e3=>?_⟩,λy c q=>?_,I.free,I.freeC,λp J=>?_,λb u q=>?_,by simpa using I.len⟩
 ·obtain⟨sl,q⟩:=I.base.slot b o e z hb C
  exact⟨sl,(B.2 b (L b o e)).trans q⟩
 ·obtain⟨o',q⟩:=I.base.there b o e C
  exact⟨o',(B.2 b (L b o e)).trans q⟩
 ·by_cases O:i=j
  ·subst O
   rw[Xj ]at G
   cases hq:σ[i]? <;> rw[hq]at G <;> cases G
  ·rw[Aa O]at G
   obtain⟨u',r',q⟩:=Z j y S T G e3;refine⟨u',r',?_⟩
   rcases q with⟨P,e⟩ | ⟨P,c,e,z⟩
   ·refine .inl ⟨P,?_⟩
    have:y≠n:=λz=>O (Tp hN (z▸hi) T)
    show(if y=n then v else m y)=_;rw[qY this];exact e
   ·exact .inr ⟨P,c,e,l y c _ e z⟩
 ·obtain⟨w',z⟩:=I.cell y c q
  exact⟨w',l y c w' q z⟩
 ·obtain⟨z1,z2,U,z4⟩:=I.pin p J
  exact⟨(B.2 p.1 U).trans z1,z2,U,z4⟩
 ·refine(I.hok b u q).stay (λc S hc z=>(B.2 c ?_).trans z) (λ_ z=>z) λ_ _ z=>z
  intro e
  rcases hc with z | z
  ·rw[z]at e;rw[e,I.free]at q;cases q
  ·rw[e,I.free]at z;cases z
structure bQ(K:AE)(C G:AT):Prop where
 ty:Jh K (.ref G)=some (.type "type")
 cl:(Ej K G).isSome=true
 ba:Of K (.ref G) (.type "BaseException")=some true
 su:Of K (.ref C) (.ref G)=some true
def aS{K}{C G l}{m}{M}{A}{E}{Q}{s}(c:bQ K C G)(X:K.In s.heap)(o:s.heap.get? l=some m)(B:m.cls=.ref C)(q:Q true s) :
  Am M A (excMatches (.ref l) (.ref G)) Q E s:=by
 have H:Ib M s.heap (isInstance (.ref G) (.type "tuple")) false:=PySem.W.looks_instIn X (by unfold PySem.W.instIn;rw[c.ty];show Of K (.type "type") (.type "tuple")=some false;kernel_rfl);have L2:Ib M s.heap (isSubtype (.ref G) (.type "BaseException")) true:=ZJ X c.ba;have I:Ib M s.heap (isSubtype (.ref C) (.ref G)) true:=ZJ X c.su
 have L4:Ib M s.heap (isType (.ref G)) true:=by
  have z:=c.cl;unfold Ej at z;split at z
  ·rename_i J
   intro N O P R k q;unfold isType loadHead;exact AB (ZU (k _ _ (X _ _ J)) (AN q))
  ·cases z
 have L:Ib M s.heap (typeOf (.ref l)) (.ref C):=B▸(uf o).andThen .now;unfold excMatches isExcClass;refine AB (H.at ?_);rw[qY AH];refine AB (AN ?_);dsimp only;refine AB ?_;rw[Je];refine AB (AB (AB (L4.at ?_)));rw[qX rfl];refine L2.at ?_;simp only[Xe,Cj,if_false];refine AN ?_;dsimp only;rw[Oi];refine AN (AB (L.at (AB ?_)));rw[Je];refine AB (AB (I.at ?_));rw[qX rfl];exact AN (AN (AN q))
def eM(s:List AT)(i:Nat)(b h:MS):MS:=λe S=>(b e S).bind λf o=>match f with
 | .ex c A=>if c∈s then(h (A.set i (some (.exc c))) o).bind λB m=>match B with
   | .nx l=>.ok (.nx (l.set i none)) m
   | .bk l=>.ok (.bk (l.set i none)) m
   | .ct l=>.ok (.ct (l.set i none)) m
   | .rt d=>.ok (.rt d) m
   | .ex _ _=>.bad
  else .bad
 | f=>.ok f o
def GP.forget{K}{ρ}{H}{e}{σ}(i:Nat)(h:GP K ρ H e σ):GP K ρ H (e.set i none) (σ.set i none):=by
 refine⟨by simp[h.len],λj d q=>?_⟩
 by_cases l:i=j
 ·subst l
  rw[Xj]at q
  cases m:e[i]? <;> rw[m]at q <;> cases q
 ·rw[Aa l]at q ⊢
  exact h.at' j d q
section
variable{E:EW}{g n:Str}{mb mh:MS}
def tK(O:Li X)(hN:X.N.Nodup)(hi:X.N[i]?=some n)(U:X.env.scope.names.lookup n=some .local)(hg:Gl X g)(B:X.mg g=some (.ref G))(hcs:∀c∈cs,bQ X.K c G)
  (hb:∀Y E',GSs (X.w' Y E') E' body mb) (hh:∀Y L,GSs ((X.p Y).suite L) noE (b₀ :: suite) mh) (yb:(g==("__debug__" : Str))=false:=by decide) :
  GS (X.w' pn E) E (.Try body [.ExceptHandler (some (.Name g gp)) (some n) (b₀ :: suite) hpos] [] [] pos) (eM cs i mb mh):=by
 intro P s σ H D I ⟨ρ,l,S,hl,hs,Ω⟩;have I0:Inv (X.p pn) P σ H s:=Inv.without (X:=X.p pn) I;have I1:Inv (X.p (pn++P)) [] σ H s:=I0.pinIn;have O1:=O.p (pn++P)
 let DS:bP:={ nx:=λA T=>D.nx (A.set i none) T,rt:=D.rt,bk:=λA T=>D.bk (A.set i none) T,ct:=λA T=>D.ct (A.set i none) T }
 let ET:EW:=λC m R=>C∈cs/\∀L o u,R L=none->XW o C->gS X.K noE mh DS (m.set i (some (.ref L))) (upd R L (.frz o u))
 have run:=hb (pn++P) ET [] s σ H D (I1.with _) ⟨ρ,l,S,hl,hs,Ω.seq λf S1 B=>by
  cases f with
  | nx e'=>exact B
  | rt d=>exact B
  | bk d=>exact B
  | ct d=>exact B
  | ex c e1=>
   intro Z R m l' s' r';dsimp only at B;split at B
   ·rename_i hc
    refine⟨hc,λL o u U ho=>?_⟩;have le:Le X.K Z R Z (upd R L (.frz o u)):=Le.fresh U;have s2:=(JX (ho:=.frz o u) s' U).1;refine⟨Z,e1.set i (some (.exc c)),S1,(r'.mono le).set (.exc CG ho) i,s2,((CO.later B (l'.trans le)).seq λf2 S2 B=>?_)⟩
    cases f2 with
    | nx e2=>exact λQ T A l2 q2 r2=>B Q T _ (l'.trans (le.trans l2)) q2 (r2.forget i)
    | bk e2=>exact λQ T A l2 q2 r2=>B Q T _ (l'.trans (le.trans l2)) q2 (r2.forget i)
    | ct e2=>exact λQ T A l2 q2 r2=>B Q T _ (l'.trans (le.trans l2)) q2 (r2.forget i)
    | rt d=>exact λQ T x2 l2 q2 r2=>B Q T x2 (l'.trans (le.trans l2)) q2 r2
    | ex c' e2=>exact B.elim
   ·exact B.elim⟩
 refine wpAny_Try_except (Fq run (λf s1 q=>?_) λe s1 q=>?_)
 ·-- the body went through
  cases f with
  | next=>
   obtain⟨m,R,J,z⟩:=q;exact Kk ⟨m,R,(Inv.pinOut (X:=X.p pn) J.without).with _,z⟩
  | brk=>
   obtain⟨m,R,J,z⟩:=q;exact⟨m,R,(Inv.pinOut (X:=X.p pn) J.without).with _,z⟩
  | cont=>
   obtain⟨m,R,J,z⟩:=q;exact⟨m,R,(Inv.pinOut (X:=X.p pn) J.without).with _,z⟩
  | ret u=>
   obtain⟨v,m,R,J,r,z⟩:=q;exact⟨v,m,R,(Inv.pinOut (X:=X.p pn) J.without).with _,r,z⟩
 ·-- an exception is caught
  obtain⟨L,C,m,R,rfl,J,x,hC,w⟩:=q
  refine Wt (X:=X.p (pn++P)) J O1 J.ok.frames x (λo z=>z) λh1 J1 x1=>?_
  refine OS (X:=X.p (pn++P)) (s:={ s1 with heap:=h1 }) none J1 O1 x1 (by simp) λh2 J2 x2=>?_
  refine wpAny_handleBy_cons (codeAny_handlers_test ?_) (by intro z;cases z);have J2s:=J2.suite L;refine QD (X:=(X.p (pn++P)).suite L) J2s hg B ?_ yb;have x2':=x2;obtain⟨n1,n2,oe,vs,a0,g1,g2,⟨g0,g3⟩,_⟩:=x2';refine aS (hcs C hC) J2.kIn g1 g2 ?_;refine codeAny_handlers_suite_as ?_
  refine OS (X:=X.p (pn++P)) (s:={ s1 with heap:=h2 }) none J2 O1 x2 (by simp) λh3 J3 x3=>?_
  obtain⟨n1,n2,oe,vs,a0,g1,g2,⟨g0,g3⟩,_⟩:=x3;have J4:=J3.track n1 n2 g1 g3;refine Pz (X:=(X.p (pn++P)).suite L) (v:=.ref L) (J4.suite L) hN hi (.inl U) rfl (λs5 J5=>?_) (.inr U)
  refine Fq (hh (pn++P) L [] s5 _ _ DS J5 (w L oe _ n1 ⟨g2,g0,vs,g3⟩)) (λf s6 q=>?_) λ_ _ z=>z.elim
  have ok:(X.p (pn++P)).Ok:=J.ok
  cases f with
  | next=>
   obtain⟨σ6,H6,J6,z⟩:=q
   exact OR (X:=X.p (pn++P)) (J6.unsuite ok) hN hi U λs7 J7=>⟨_,H6,(Inv.pinOut (X:=X.p pn) J7).with _,z⟩
  | brk=>
   obtain⟨σ6,H6,J6,z⟩:=q
   exact OR (X:=X.p (pn++P)) (J6.unsuite ok) hN hi U λs7 J7=>⟨_,H6,(Inv.pinOut (X:=X.p pn) J7).with _,z⟩
  | cont=>
   obtain⟨σ6,H6,J6,z⟩:=q
   exact OR (X:=X.p (pn++P)) (J6.unsuite ok) hN hi U λs7 J7=>⟨_,H6,(Inv.pinOut (X:=X.p pn) J7).with _,z⟩
  | ret u=>
   obtain⟨v,σ6,H6,J6,r,z⟩:=q
   exact OR (X:=X.p (pn++P)) (J6.unsuite ok) hN hi U λs7 J7=>⟨v,_,H6,(Inv.pinOut (X:=X.p pn) J7).with _,r,z⟩
end
def Dy(n:Nat)(ds:List D):Lo:=ds.map some++Be (n - ds.length) none
def Z9{K}{ρ}{H}{N}{ds}{vs}(r:A9 K ρ H ds vs):GP K ρ H (Dy N.length ds) (start N vs):=by
 refine⟨by simp[Dy,start,r.length],λi d q=>?_⟩;unfold Dy at q;unfold start
 by_cases l:i < ds.length
 ·rw[Au (by simpa using l),Ac]at q
  rw[Au (by rw[AF,<-r.length];exact l),Ac]
  cases e:ds[i]? with
  | none=>rw[e]at q;cases q
  | some s=>
   rw[e]at q;cases q;obtain⟨v,m,o⟩:=r.get e;exact⟨v,by rw[m];rfl,o⟩
 ·rw[Bd (by simpa using l),Du]at q
  split at q <;> cases q
def D9(n:Nat)(mb:MS)(ds:List D)(S:Sto):Res D:=(okR (mb (Dy n ds) S)).bind λf l=>match f with
 | .rt d=>.ok d l
 | .nx _=>.ok .non l
 | .ex c _=>.err c l
 | _=>.bad
section
variable{P:Bf}{w:CH}{K:AE}{mg:Str->Option AI}{base:DA}
def tf{x B}{st}{f}{fd}{N ps}{k n}(F:Fun K x B st f fd)(Sc:Bk N ps (BD st))(hn:ps.length=n){mb}
  (yF:∀(X:AI) (A:Bs) (o:List Env) (s:AK) (H:Hp) (E:XK),IB k (A.deeper (Ow B (BD st) s.heap.objs.size f X))->∀pn E',GSs ((XH (CXG P w) P w K mg base N B (BD st) f X A o s H E).w' pn E') E' (Jd st) mb) :
  DF P w K mg base (CXG P w) (k+1) f fd ps (spM K n (D9 N.length mb)):=by
 obtain⟨oc,od,kV,doc,pm,an,X,ct,zh,rfl,lk,yJ⟩:=F.ex
 refine wP lk yJ Sc (λvs H Q E h=>by rw[hn];exact h.len) λA o s H vs Q E Y h=>?_
 obtain⟨ρ,ds,S,h1,h2,h3,G⟩:=h;have O:Li (XH (CXG P w) P w K mg base N B (BD st) f X A o s H E):=⟨rfl,rfl,rfl⟩;have hb:=yF X A o s H E Y [] (λc _ L=>E (.ref c) none L);refine⟨gS K (λc _ L=>E (.ref c) none L) mb,λζ Z σ L D I q=>Fq (hb ζ Z σ L D (I.with _) q) (λfl s1 z=>?_) λe s1 z=>?_,ρ,_,S,Z9 h2,h3,?_⟩
 ·cases fl with
  | next=>obtain⟨m,R,J,z⟩:=z;exact⟨m,R,J.without,z⟩
  | brk=>obtain⟨m,R,J,z⟩:=z;exact⟨m,R,J.without,z⟩
  | cont=>obtain⟨m,R,J,z⟩:=z;exact⟨m,R,J.without,z⟩
  | ret u=>obtain⟨v,m,R,J,r,z⟩:=z;exact⟨v,m,R,J.without,r,z⟩
 ·refine XE.leave O z λea C m R s2 e1 J x w=>⟨ea,C,R,e1,J.os,J.bare,J.base,J.hok,?_,w⟩
  obtain⟨n1,n2,oe,η,a0,g1,g2,g3,g4,g5⟩:=x;refine⟨n1,n2.1,oe,η,a0,g1,g2,g3,g4,?_⟩
  rcases g5 with z | ⟨T,oT,ts,fl,hf,h1,ne,m1,m2,r⟩
  ·exact .inl z
  ·exact .inr ⟨T,oT,ts,fl,hf,h1,ne,m1,m2.1,r⟩
 ·unfold D9 at G
  cases Y:mb (Dy N.length ds) S with
  | bad=>rw[Y]at G;exact G.elim
  | err c S'=>rw[Y]at G;exact G.elim
  | ok fl S'=>
   rw[Y]at G
   cases fl with
   | nx e'=>exact λU L m l Z r=>G U L .non l Z .non
   | rt d=>exact G
   | bk e'=>exact G.elim
   | ct e'=>exact G.elim
   | ex c e'=>exact λU L m l Z r=>G U L l Z
end
section
variable{X:Cx}
noncomputable def intOp(C:Int->Int->Prop)[∀i j,Decidable (C i j)](g:Int->Int->D):D->D->Sto->Res D
 | .int i,.int j,S=>if C i j then .ok (g i j) S else .bad
 | _,_,_=>.bad
def jl[∀i j,Decidable (C i j)](h:intOp C g a b S=.ok d l):∃i j,a=.int i/\b=.int j/\C i j/\d=g i j/\l=S:=by
 unfold intOp at h;split at h
 ·split at h
  ·rename_i i j _ m
   cases h;exact⟨_,_,rfl,rfl,m,rfl,rfl⟩
  ·cases h
 ·cases h
def Qv[∀i j,Decidable (C i j)](l:∀ρ H i j,CB X.K ρ H (g i j) (v i j))(h:OpR X f (rI C v)):OpR X f (rD X.K (intOp C g)):=h.imp<|by
 rintro x y H Q ⟨ρ,S,a,b,d,E,m,o,s,A,k⟩
 obtain⟨i,j,rfl,rfl,B,rfl,rfl⟩:=jl A;cases o;cases s;exact⟨i,j,rfl,rfl,B,k ρ H _ .refl m (l _ _ _ _)⟩
def OQ(l:∀ρ H i j,CB X.K ρ H (g i j) (v i j))(h:OpR X f (rI0 v)):OpR X f (rD X.K (intOp (λ_ _=>True) g)):=
 Qv (C:=λ_ _=>True) l (h.imp λx y H Q ⟨i,j,m,o,_,q⟩=>⟨i,j,m,o,q⟩)
instance(i j:Int):Decidable (k9 i j):=inferInstanceAs (Decidable (_/\_))
instance(i j:Int):Decidable (kz i j):=inferInstanceAs (Decidable (_/\_/\_))
instance(i j:Int):Decidable (bR i j):=inferInstanceAs (Decidable (_∨_))
abbrev Qj:=intOp (λ_ _=>True) λi j=>.int (i - j)
abbrev oJ:=intOp bR λi j=>.int (i * j)
abbrev JT:=intOp k9 λi j=>.int (i / j)
abbrev Nk:=intOp (λ_ j=>0 < j) λi j=>.int (i % j)
abbrev ltD:=intOp (λ_ _=>True) λi j=>.bl (decide (i < j))
abbrev leD:=intOp (λ_ _=>True) λi j=>.bl (decide (i<=j))
abbrev gtD:=intOp (λ_ _=>True) λi j=>.bl (decide (j < i))
abbrev geD:=intOp (λ_ _=>True) λi j=>.bl (decide (j<=i))
def Jx:OpR X (DM .Sub) (rD X.K Qj):=OQ (λ_ _ _ _=>.int _) sL
def i8:OpR X (DM .Mult) (rD X.K oJ):=Qv (λ_ _ _ _=>.int _) sP
def G7:OpR X (DM .FloorDiv) (rD X.K JT):=Qv (λ_ _ _ _=>.int _) nz
def IQ:OpR X (DM .Mod) (rD X.K Nk):=Qv (λ_ _ _ _=>.int _) sQ
def YZ:OpR X (CS .Lt) (rD X.K ltD):=OQ (λ_ _ _ _=>.bl _) vX
def Ya:OpR X (CS .LtE) (rD X.K leD):=OQ (λ_ _ _ _=>.bl _) vY
def Rb:OpR X (CS .Gt) (rD X.K gtD):=OQ (λ_ _ _ _=>.bl _) vZ
def vf:OpR X (CS .GtE) (rD X.K geD):=OQ (λ_ _ _ _=>.bl _) vb
noncomputable def GN:D->D->Sto->Res D
 | .int i,.int j,S=>.ok (.int (i+j)) S
 | .tup m,.tup o,S=>if m.length+o.length<=sizeLine then .ok (.tup (m++o)) S else .bad
 | .ref l,.ref b,S=>match S[l]?,S[b]? with
  | some (.lst m),some (.lst o)=>if m.length+o.length<=sizeLine then .ok (.ref S.length) (S++[.lst (m++o)])else .bad
  | _,_=>.bad
 | _,_,_=>.bad
def vO(K:AE):R2:=λx y H Q=>∃a b l m,x=.ref a/\y=.ref b/\H a=some (.tup l)/\H b=some (.tup m)/\l.length+m.length<=sizeLine /\
 (l=[]->Q (.ref b) H)/\(m=[]->Q (.ref a) H)/\(∀p,H p=none->Q (.ref p) (upd H p (.tup (l++m))))
def n9:OpR X (DM .Add) (vO X.K):=by
 intro O s P H x y v u Q I R S h;obtain⟨a,b,xs,o,rfl,rfl,A,hb,T,U,Y,Z⟩:=h;cases R;cases S;obtain⟨B,r1,p1,_⟩:=I.tuple (a:=a) (xs:=xs) (.inl (.inl A));obtain⟨xt,r2,p2,_⟩:=I.tuple (a:=b) (xs:=o) (.inl (.inl hb))
 by_cases m:xs=[]
 ·obtain⟨⟨cls,dd,data,sl⟩,C,E,n,G⟩:=id p1
  obtain⟨⟨J,zA,data2,zB⟩,L,N,n2,l⟩:=id p2;simp only at E G N l;subst E G N l;have hi:B=[]:=r1.nil_iff.mpr m
  exact gW ⟨_,C,rfl⟩ ⟨_,L,rfl⟩ V6 dN Lr LL (Kl _ _)
   (tuple_addW0 a b B.toArray xt.toArray n n2 dd zA sl zB (by simp[hi])) ⟨C,L,⟨.ref b,H,I,rfl,U m⟩⟩
 ·exact n8 O s P H (.ref a) (.ref b) _ _ Q I rfl rfl ⟨a,b,xs,o,rfl,rfl,.inl (.inl A),.inl (.inl hb),m,T,Y,λ_ p hp=>Z p hp⟩
def A9.nil_of{K}{ρ}{H}{xs}{vs}(r:A9 K ρ H xs vs)(e:vs=[]):xs=[]:=by
 subst e;cases r;rfl
def Dq:OpR X (DM .Add) (rD X.K GN):=(sU.or (n9.or sS)).imp<|by
 rintro x y H Q ⟨A,S,a,b,d,S',s,ra,L,l,k⟩
 cases ra with
 | int i=>
  cases L <;> first | (cases l;done) | skip
  cases l;exact .inl ⟨_,_,rfl,rfl,k A H _ .refl s (.int _)⟩
 | @tup R a1 C E B=>
  cases L with
  | @tup T b1 ws U G=>
   unfold GN at l;dsimp only at l;split at l
   ·rename_i N
    cases l;refine .inr (.inl ⟨_,_,_,_,rfl,rfl,E,U,by rw[<-B.length,<-G.length];exact N,λe=>?_,λe=>?_,λp I=>?_⟩)
    ·rw[B.nil_of e,lY]at k
     exact k A H _ .refl s (.tup U G)
    ·rw[G.nil_of e,Bh]at k
     exact k A H _ .refl s (.tup E B)
    ·obtain⟨O,J⟩:=JX (ho:=.tup (C++ws)) s I
     exact k A _ _ J O (.tup CG ((B.append G).mono J))
   ·cases l
  | _=>cases l
 | @ref n a1 hn=>
  cases L with
  | @ref m b1 yy=>
   unfold GN at l;dsimp only at l;split at l
   ·rename_i R T E B
    split at l
    ·rename_i N
     cases l;obtain⟨C,e1,Y⟩:=s.ob _ _ _ E hn;obtain⟨Z,e2,r2⟩:=s.ob _ _ _ B yy;refine .inr (.inr ⟨_,_,_,_,rfl,rfl,e1,e2,by rw[<-Y.length,<-r2.length];exact N,λp I=>?_⟩);have le:Le X.K A H (A++[p]) (upd H p (.lst (C++Z))):=Le.alloc I;obtain⟨O,J,P⟩:=s.alloc (ho:=.lst (C++Z)) (o:=.lst (R++T)) I ⟨_,CG,(Y.append r2).mono le⟩;exact k _ _ _ J O (.ref P)
    ·cases l
   ·cases l
  | _=>cases l
 | _=>cases l
def ixD:D->D->Sto->Res D:=λa b S=>match GD a S,b with
 | some l,.int i=>match atI l i with
  | some d=>.ok d S
  | none=>.bad
 | _,_=>.bad
def pQ{K}{ρ}{H}{ds}{vs}{i}{d}(r:A9 K ρ H ds vs)(h:atI ds i=some d):∃v,atI vs i=some v/\CB K ρ H d v:=by
 unfold atI at h ⊢;rw[<-r.length]
 cases l:ixN ds.length i with
 | none=>rw[l]at h;cases h
 | some j=>
  rw[l]at h;exact r.get h
def vd:IxR X (rD X.K ixD):=(ix_list.or sw).imp<|by
 rintro x y H Q ⟨o,S,a,b,d,L,m,C,E,l,k⟩
 unfold ixD at l;split at l
 ·rename_i N i G
  split at l
  ·rename_i O I
   cases l;cases E;obtain⟨p,s,rfl,J,sq⟩:=P0 m C G;obtain⟨v,A,B⟩:=pQ J I
   rcases sq with sq | sq
   ·exact .inl ⟨p,s,_,v,rfl,rfl,sq,A,k o H v .refl m B⟩
   ·exact .inr ⟨p,s,_,v,rfl,rfl,sq,A,k o H v .refl m B⟩
  ·cases l
 ·cases l
end
def mQ(f:List D->Sto->Res D)(m:ML):ME:=λe S=>(m e S).bind λl o=>okR (f l o)
section
variable{X:Cx}{E:EW}{e:Expr}{es:List Expr}{x:Str}{p pos:Pos}{ml:ML}{id T:String}{r:List V->Hp->VK->Prop}{f:List D->Sto->Res D}
def uI(K:AE)(r:List V->Hp->VK->Prop)(f:List D->Sto->Res D):Prop:=∀o H S A q s d B (Q:VK),CV K o S H->A9 K o H A s->(SqL K H q s∨SqT K H q s)->f A S=.ok d B ->
 (∀l m z,Le K o H l m->CV K l B m->CB K l m d z->Q z m)->r [.ref q] H Q
def uK(K:AE)(r:List V->Hp->VK->Prop)(f:List D->Sto->Res D):Prop:=∀o H S s A d B (Q:VK),CV K o S H->A9 K o H s A->f s S=.ok d B ->
 (∀l m z,Le K o H l m->CV K l B m->CB K l m d z->Q z m)->r A H Q
def wd(K:AE)(r:List V->Hp->VK->Prop)(f:List D->Option (List D)):Prop:=∀o H S A q s es (Q:VK),CV K o S H->A9 K o H A s->(SqL K H q s∨SqT K H q s)->f A=some es ->
 (∀l m p B,Le K o H l m->CV K l S m->A9 K l m es B->m p=some (.lst B)->(∀n:Nat,l[n]?≠some p)->H p=none->Q (.ref p) m)->r [.ref q] H Q
def cg(B:JU X (.builtin id) r)(C:uI X.K r f)(G:Gl X x)(m:X.mg x=none)(I:Fs x=some (.builtin id))(h:GQ X E e ml)(J:x≠"__name__":=by decide) (L:(x==("__debug__" : Str))=false:=by decide)
  (A:AY [e] X.env=(false,Cd e X.env) :: AY [] X.env:=by rfl):GE X E (.Call (.Name x p) [e] [] pos) (mQ f ml):=(LU B G m I (Fe h IP A) J L A rfl).imp<|by
 rintro σ H Q ⟨N,l,S,O,P,m⟩
 refine⟨N,l,S,O,P,m.seq λR U m o Y q Z l1 s1 r1 sq=>?_⟩;obtain⟨d,S',e,k⟩:=m.okR
 exact C o Y U R q Z d S' Q s1 r1 sq e λs H' z l' s' r'=>k s H' z (l1.trans l') s' r'
def cj(A:JU X (.builtin id) r)(B:uK X.K r f)(C:Gl X x)(m:X.mg x=none)(G:Fs x=some (.builtin id))(h:GA X E (e :: es) ml)(I:x≠"__name__":=by decide) (J:(x==("__debug__" : Str))=false:=by decide)
  (L:AY (e :: es) X.env=(false,Cd e X.env) :: AY es X.env:=by rfl) (N:(ER pos (AY es X.env)).any (·.1)=false:=by rfl):GE X E (.Call (.Name x p) (e :: es) [] pos) (mQ f ml):=(LU A C m G h I J L N).imp<|by
 rintro σ H Q ⟨O,l,S,P,R,m⟩
 refine⟨O,l,S,P,R,m.seq λU Y m o Z xs l1 s1 r1=>?_⟩;obtain⟨d,S',e,k⟩:=m.okR
 exact B o Z Y U xs d S' Q s1 r1 e λs H' z l' s' r'=>k s H' z (l1.trans l') s' r'
def mN(f:List D->Option (List D))(m:ML):ML:=λe S=>(m e S).bind λl o=>match f l with
 | some es=>.ok es o
 | none=>.bad
def oZ{f}(N:JU X (.type T) r)(O:wd X.K r f)(P:Gl X x)(m:X.mg x=none)(R:Fs x=some (.type T))(h:GQ X E e ml)(o:x≠"__name__":=by decide) (U:(x==("__debug__" : Str))=false:=by decide)
  (C:AY [e] X.env=(false,Cd e X.env) :: AY [] X.env:=by rfl):GL X E (.Call (.Name x p) [e] [] pos) (mN f ml):=(Qt N P m R (Fe h IP C) o U C rfl).imp<|by
 rintro σ H Q ⟨Y,l,S,Z,G,m⟩
 refine⟨Y,l,S,Z,G,m.seq λI S1 m s H1 q xs J L r1 sq=>?_⟩
 cases A:f I with
 | none=>rw[A]at m;exact m.elim
 | some es=>
  rw[A]at m
  exact O s H1 S1 I q xs es Q L r1 sq A λB H' p ys l' s' r' hp o Μ=>m B H' p ys (J.trans l') s' r' hp o (J.back G L Μ)
def vx(ds:List D)(S:Sto):Res D:=.ok (.int ds.length) S
def rH:uI X.K (λxs H Q=>∃p l,xs=[.ref p]/\(SqL X.K H p l∨SqT X.K H p l)/\Q (.int l.length) H) vx:=λm H S B q xs d C Q o s sq A k=>by
 cases A;exact⟨q,xs,rfl,sq,k m H _ .refl o (by rw[s.length];exact .int _)⟩
def P9:List D->Sto->Res D
 | [.int i,.int j],S=>.ok (.int (if j < i then j else i)) S
 | _,_=>.bad
def Vm:List D->Sto->Res D
 | [.int i,.int j],S=>.ok (.int (if j > i then j else i)) S
 | _,_=>.bad
def pT:uK X.K (λxs H Q=>∃i j,xs=[.int i,.int j]/\Q (.int (if j < i then j else i)) H) P9:=λm H S A xs d B Q o s l k=>by
 unfold P9 at l;split at l
 ·cases l
  cases s with
  | cons a t=>
   cases t with
   | cons b t=>
    cases t;cases a;cases b;exact⟨_,_,rfl,k m H _ .refl o (.int _)⟩
 ·cases l
def pU:uK X.K (λxs H Q=>∃i j,xs=[.int i,.int j]/\Q (.int (if j > i then j else i)) H) Vm:=λm H S A xs d B Q o s l k=>by
 unfold Vm at l;split at l
 ·cases l
  cases s with
  | cons a t=>
   cases t with
   | cons b t=>
    cases t;cases a;cases b;exact⟨_,_,rfl,k m H _ .refl o (.int _)⟩
 ·cases l
def cT(ds:List D):Option (List D):=some ds
def my:wd X.K (λxs H Q=>∃p m,xs=[.ref p]/\(SqL X.K H p m∨SqT X.K H p m)/\∀l,H l=none->Q (.ref l) (upd H l (.lst m))) cT:=λB H S J q xs es Q s C sq G k=>by
 cases G;refine⟨q,xs,rfl,sq,λl o=>?_⟩;obtain⟨I,A⟩:=JX (ho:=.lst xs) s o;exact k B _ l xs A I (C.mono A) CG (λn e=>s.notIn o e) o
end
noncomputable def Em(X:Cx)(scope:Uj)(N':List Str)(o:List (Str×AT))(C:AT)(l:AK)(m:Hp)(ex:List AT)(pn:List (AT×Obj)):Cx where
 prog:=X.prog
 w:=X.w
 K:=X.K
 mg:=X.mg
 base:=X.base
 A:=X.A
 N:=N'
 s₀:=l
 H₀:=m
 env:=compEnvC scope o C X.env
 outer:=X.stack
 stack:=X.stack
 ex:=ex
 fn:=λx=>scope.names.lookup x==some .cell
 calm:=X.calm
 pn:=pn
 xe:=λ_ _=>False
theorem XJ:∀(names:List (Str×QY)) (l:List (Str×AT)),(∀y∈names,y.2=.free->∃c,env.cells.lookup y.1=some c)->(∀n c,l.lookup n=some c->env.cells.lookup n=some c) ->
  ∃s,(forIn names l (λ(x:Str×QY) (L:List (Str×AT))=>match x with | (name,kind)=>if (kind==Gr)=true then do let a <-cellOf env name;pure (Iw ((name,a) :: L))else pure (Iw L)):Sem (List (Str×AT)))=pure s /\
   (∀n c,s.lookup n=some c->env.cells.lookup n=some c)/\(∀n c,l.lookup n=some c->∃O,s.lookup n=some O)/\∀y∈names,y.2=.free->∃c,s.lookup y.1=some c
 | [],l,_,B=>⟨l,rfl,B,λn c h=>⟨c,h⟩,λ_ h=>nomatch h⟩
 | (n,k) :: r,l,h,B=>by
  rw[Je]
  by_cases H:k=.free
  ·subst H
   obtain⟨c,N⟩:=h (n,.free) AW rfl
   obtain⟨s,e,I,C,J⟩:=XJ r ((n,c) :: l) (λy o=>h y (AQ _ o)) (λm d A=>by
    rw[BX]at A
    cases E:(m==n)with
    | true=>rw[E]at A;cases A;rw[eq_of_beq E];exact N
    | false=>rw[E]at A;exact B m d A)
   have P:cellOf env n=pure c:=by unfold cellOf;rw[N]
   refine⟨s,?_,I,λm d A=>C m (if m==n then c else d) ?_,λy o G=>?_⟩
   ·simp only[beq_self_eq_true,if_true,P,pure_bind]
    exact e
   ·rw[BX]
    cases E:(m==n)with
    | true=>rfl
    | false=>exact A
   ·rcases Ai.mp o with rfl | o
    ·exact C n c (by rw[BX,beq_self_eq_true])
    ·exact J y o G
  ·have hb:(k==Gr)=false:=by simpa using H
   obtain⟨s,e,I,C,J⟩:=XJ r l (λy o=>h y (AQ _ o)) B;refine⟨s,?_,I,C,λy o G=>?_⟩
   ·simp only[hb,Cj,if_false,pure_bind]
    exact e
   ·rcases Ai.mp o with rfl | o
    ·exact(H G).elim
    ·exact J y o G
def dB(h:∀y∈scope.names,y.2=.free->∃c,env.cells.lookup y.1=some c):∃l,closureFor scope env=pure l /\
  (∀n c,l.lookup n=some c->env.cells.lookup n=some c)/\∀y∈scope.names,y.2=.free->∃c,l.lookup y.1=some c:=by
 obtain⟨l,e,m,_,o⟩:=XJ scope.names [] h (λn c z=>by simp at z);refine⟨l,?_,m,o⟩;unfold closureFor;exact(congrArg (λz=>z >>= λs=>pure s) e).trans (by rw[pure_bind])
def bM(X:Cx)(l:List Expr)(t:TT):Prop:=
 ∀(o:List (AT×Obj)) (s:AK) (m:St) (H:Hp) (Q:Bool->Hp->Prop),Inv X o m H s->t m H Q ->
  Am (Ag X.prog X.w) X.A (forIn l true λc r=>if r=true then do let ok <-qN c X.env (Cd c X.env);pure (Iw ok)else pure (Iw r)) (TP X o m Q) X.xe s
def iq:bM X [] (λ_ H Q=>Q true H):=λl s m H Q I h=>wpAny_tests_nil ⟨H,I,h⟩
def ip(h:PT X c t):bM X [c] t:=λl s m H Q I q=>wpAny_tests_one (h l s m H Q I q)
structure Pb(X:Cx)(scope:Uj)(own N':List Str):Prop where
 kind:scope.kind=.function
 names:∀y∈scope.names,y.2=.local->scope.names.lookup y.1=some .local
 free:∀y∈scope.names,y.2=.free->X.env.kindOf y.1=some .cell∨X.env.kindOf y.1=some .free
 len:N'.length=own.length+X.N.length
 up:∀i x,N'[own.length+i]?=some x->Vis (LJ scope X.env) x->(X.N[i]?=some x/\Vis X.env.scope x/\((LJ scope X.env).names.lookup x=some .cell∨(LJ scope X.env).names.lookup x=some .free)/\X.env.kindOf x≠some .local)/\(x,DH)∉scope.names/\(x,Gr)∈scope.names
 vis:∀x,((LJ scope X.env).names.lookup x=some .cell∨(LJ scope X.env).names.lookup x=some .free)->(x,Gr)∈scope.names∨(x,DH)∈scope.names
theorem Gh:∀(names:List (Str×QY)) (n:Nat) (m:List (Str×AT)) (x:Str) (c:AT),(Ca n names m).lookup x=some c ->
  ((x,DH)∈names/\n<=c)∨m.lookup x=some c
 | [],_,_,_,_,h=>.inr h
 | (y,k) :: r,n,m,x,c,h=>by
  unfold Ca at h;split at h
  ·rename_i o
   have o:k=.cell:=by simpa using o
   subst o
   rcases Gh r (n+1) _ x c h with⟨l,s⟩ | l
   ·exact .inl ⟨AQ _ l,Ro s⟩
   ·rw[BX]at l
    cases hb:x==y with
    | true=>rw[hb]at l;cases l;rw[beq_iff_eq.mp hb];exact .inl ⟨AW,AO _⟩
    | false=>rw[hb]at l;exact .inr l
  ·rcases Gh r n m x c h with⟨l,s⟩ | l
   ·exact .inl ⟨AQ _ l,s⟩
   ·exact .inr l
theorem Dd:∀(names:List (Str×QY)) (n:Nat) (l:List (Str×AT)) (x:Str),(∃c,l.lookup x=some c)->∃c,(Ca n names l).lookup x=some c
 | [],_,_,_,h=>h
 | (y,k) :: r,n,l,x,h=>by
  unfold Ca;split
  ·refine Dd r (n+1) _ x ?_
   rw[BX]
   cases hb:x==y with
   | true=>exact⟨_,rfl⟩
   | false=>exact h
  ·exact Dd r n l x h
theorem Eg:∀(names:List (Str×QY)) (n:Nat) (l:List (Str×AT)) (x:Str),(x,DH)∈names->∃c,(Ca n names l).lookup x=some c/\n<=c
 | (y,k) :: r,n,l,x,h=>by
  unfold Ca
  by_cases o:(x,DH)∈r
  ·split
   ·obtain⟨c,m,A⟩:=Eg r (n+1) ((y,n) :: l) x o
    exact⟨c,m,Ro A⟩
   ·exact Eg r n l x o
  ·rcases Ai.mp h with e | e
   ·cases e
    rw[qX (show(DH==DH)=true from rfl)];obtain⟨c,s⟩:=Dd r (n+1) ((y,n) :: l) y ⟨n,by rw[BX,beq_self_eq_true]⟩
    rcases Gh r (n+1) _ y c s with⟨m,_⟩ | m
    ·exact(o m).elim
    ·rw[BX,beq_self_eq_true]at m
     cases m;exact⟨n,s,AO _⟩
   ·exact(o e).elim
def Oc(s:(x,DH)∉names)(h:l.lookup x=some c):(Ca n names l).lookup x=some c:=by
 obtain⟨A,o⟩:=Dd names n l x ⟨c,h⟩
 rcases Gh names n l x A o with⟨m,_⟩ | m
 ·exact(s m).elim
 ·rw[h]at m;cases m;exact o
theorem LA:∀(names:List (Str×QY)) (n:Nat) (l:List (Str×AT)),(∀x c,l.lookup x=some c->c < n)->(∀x y c,l.lookup x=some c->l.lookup y=some c->x=y) ->
  ∀x y c,(Ca n names l).lookup x=some c->(Ca n names l).lookup y=some c->x=y
 | [],_,_,_,h=>h
 | (z,k) :: r,n,l,m,h=>by
  unfold Ca;split
  ·have key:∀x c,((z,n) :: l).lookup x=some c->(x=z/\c=n)∨l.lookup x=some c:=λx c q=>by
    rw[BX]at q
    cases hb:x==z with
    | true=>rw[hb]at q;cases q;exact .inl ⟨beq_iff_eq.mp hb,rfl⟩
    | false=>rw[hb]at q;exact .inr q
   refine LA r (n+1) _ (λx c q=>?_) λx y c A B=>?_
   ·rcases key x c q with⟨_,rfl⟩ | e
    ·exact Dc _
    ·exact Ll (m x c e)
   ·rcases key x c A with⟨e,C⟩ | e <;> rcases key y c B with⟨o,s⟩ | o
    ·rw[e,o]
    ·subst C;exact zX (m _ _ o) (EE _)
    ·subst s;exact zX (m _ _ e) (EE _)
    ·exact h x y c e o
  ·exact LA r n l m h
theorem K9:∀(names:List (Str×QY)) (h:DA) (m:List (Str×AT)) (x:Str) (c:AT),(Ca h.objs.size names m).lookup x=some c->m.lookup x=some c∨((FP h names).IsCell c none/\h.objs.size<=c)
 | [],_,_,_,_,q=>.inl q
 | (y,k) :: r,h,m,x,c,q=>by
  unfold Ca at q;unfold FP;split at q
  ·rename_i o
   rw[qX o];have:=K9 r (h.push { cls:=.type "cell",data:=.cell none }) ((y,h.objs.size) :: m) x c (by rw[E5];exact q)
   rcases this with e | ⟨e,l⟩
   ·rw[BX]at e
    cases hb:x==y with
    | true=>
     rw[hb]at e;cases e;exact .inr ⟨⟨_,Xh _ _ _ _ (Al _ rfl),rfl⟩,AO _⟩
    | false=>rw[hb]at e;exact .inl e
   ·exact .inr ⟨e,by rw[E5]at l;exact Ro l⟩
  ·rename_i o
   rw[qY o];exact K9 r h m x c q
def Zo
  (h:Q (newEnv scope s.heap.objs.size globals (Ca (s.heap.push { cls:=.type "dict",data:=.dict #[] }).objs.size scope.names G) m none .none (some l) Za) { s with heap:=FP (s.heap.push { cls:=.type "dict",data:=.dict #[] }) scope.names }) :
  Am M A (ZX scope globals G [] m none .none (some l)) Q E s:=by
 simp only[ZX,bX,if_true];refine AB (wpAny_alloc ?_);refine AB (wpAny_layCells _ (λC o cells=>by cases B:o==DH <;> simp[B]) _ _ _ _ ?_);rw[Oi];exact AB (AN (AN h))
section
def aw(Q:Pb X scope own N')(I:Inv X ζ σ R E)(J:∀b∈fp,Pa X ζ R b)(θ:∀b∈fp,b < E.heap.objs.size)
  (l:∀n c,B.lookup n=some c->X.env.cells.lookup n=some c) (c2:∀y∈scope.names,y.2=.free->∃c,B.lookup y.1=some c)
  (T:E.heap.objs.size<=n) (G:∀x c,(Ca n scope.names B).lookup x=some c->B.lookup x=some c∨(s.heap.IsCell c none/\n<=c)) (U:∀c,n<=c->H c=none)
  (Y:E.heap.objs.size<=C) (hn:s.heap.Ns C m) (Z:s.os=E.os) (hg:KL s.gens)
  (u:Un (frs X.stack) fp R H E.heap s.heap) (hok:HOk X.prog X.w H s.heap) (U':H C=none) :
  Inv (Em X scope N' (Ca n scope.names B) C E R fp (X.pn++ζ)) [] (Be own.length none++σ) H s:=by
 have A:∀x c v,B.lookup x=some c->E.heap.IsCell c v->s.heap.IsCell c v:=by
  rintro x c v e ⟨o,ho,hd⟩
  obtain⟨sl,q⟩:=u.any ho (I.freeC x c (l x c e)) λz=>(J c z).2.2.2.2.1 x c (l x c e) rfl
  exact⟨_,q,hd⟩
 have clt:∀x c,B.lookup x=some c->c < n:=λx c e=>by
  obtain⟨v,z⟩:=I.cell x c (l x c e);exact AV z.lt T
 have ok':(Em X scope N' (Ca n scope.names B) C E R fp (X.pn++ζ)).Ok:=by
  refine⟨I.ok.mod,Q.kind,I.ok.glob,I.ok.blt,Y,LA _ _ _ clt λx y c h1 h2=>I.ok.inj x y c (l x c h1) (l y c h2),λx hx=>?_,λx c z q=>?_,I.ok.hd,I.ok.frames,.inl rfl,λb hb=>?_,I.bs,Aw I.ok.bsz I.sz,λb o e hb=>?_,λb hb xn=>?_,I.stack,I.stkFree⟩
  ·rcases Q.vis x hx with h | h
   ·exact Dd _ _ _ _ (c2 _ h rfl)
   ·obtain⟨c,hc,_⟩:=Eg scope.names n B x h
    exact⟨c,hc⟩
  ·have z:(scope.names.lookup x==some .cell)=true:=z
   obtain⟨c',L,hl⟩:=Eg scope.names n B x (Dx (beq_iff_eq.mp z));have q:(Ca n scope.names B).lookup x=some c:=q;rw[L]at q;cases q;exact Aw T hl
  ·refine⟨A0 (AV (θ b hb) Y),λx c e=>?_⟩
   rcases G x c e with e | ⟨_,e⟩
   ·exact(J b hb).2.2.2.2.1 x c (l x c e)
   ·exact Eo (AV (θ b hb) (Aw T e))
  ·obtain⟨_,_,_,z,_⟩:=J b hb
   rcases z with z | z
   ·exact I.ok.noex b o e z
   ·exact zX (AV (Ad (I.ok.bs b o e).1) z) (EE _)
  ·obtain⟨_,z1,z2,_⟩:=J b hb
   rcases Ai.mp (I.stkSub b xn)with e | e
   ·exact z1 e
   ·exact z2 e
 refine⟨ok',Z,hg,u,⟨m,hn,λi x v e1 S e3=>?_⟩,λx c e=>?_,U',λx c e=>?_,λp hp=>?_,hok,?_⟩
 ·have hi:own.length<=i:=by
   apply Sa
   intro xH;rw[Au (by simpa using xH),Du,qX xH]at S;cases S
  obtain⟨j,rfl⟩:∃j,i=own.length+j:=⟨i - own.length,by lia⟩
  rw[Bd (by simp)]at S
  have e2':σ[j]?=some (some v):=by simpa using S
  obtain⟨⟨n1,n2,n3,n4⟩,n5,n6⟩:=Q.up j x e1 e3;obtain⟨m0,hn0,hl⟩:=I.loc;obtain⟨w',r,lk⟩:=hl j x v n1 e2' n2;refine⟨w',r,.inr ⟨n3,?_⟩⟩
  rcases lk with⟨k,_⟩ | ⟨_,c,hc,xU⟩
  ·exact(n4 k).elim
  ·obtain⟨c',L⟩:=c2 _ n6 rfl
   have e:=l x c' L;rw[hc]at e;cases e;exact⟨c,Oc n5 L,A x c _ L xU⟩
 ·rcases G x c e with e | ⟨e,_⟩
  ·obtain⟨v,z⟩:=I.cell x c (l x c e)
   exact⟨v,A x c v e z⟩
  ·exact⟨none,e⟩
 ·rcases G x c e with e | ⟨_,e⟩
  ·obtain⟨v,o,ho,hd⟩:=I.cell x c (l x c e)
   exact u.free c o ho (I.freeC x c (l x c e)) λz=>(J c z).2.2.2.2.1 x c (l x c e) rfl
  ·exact U c e
 ·have N:p∈X.pn++ζ:=by
   have hp:p∈(X.pn++ζ)++[]:=hp;rwa [Bh]at hp
  obtain⟨e,n,ne,nf,d⟩:=I.pin p N
  have O:p.1∉frs X.stack:=λz=>(Ai.mp (I.stkSub _ z)).elim ne nf
  have P:p.1∉fp:=λz=>(J _ z).2.2.2.2.2 p N rfl
  exact⟨u.keep p.1 p.2 e n O P,u.free p.1 p.2 e n P,A0 (AV (Ad e) Y),O,d⟩
 ·show(Be own.length none++σ).length=N'.length
  rw[Ak,OI,I.len,Q.len]
def iJ(k:Nat)(N:TI)(g:TG)(tc:TT)(te:TE):TE:=λC H Q=>N C H λJ E=>∀p,E p=none->∃W:Nat->Nat->St->Hp->List V->Prop,(∃m,W 0 m (Be k none++C) (upd E p (.lst [])) []) /\
 ∀i m A s o,W i m A s o->s p=some (.lst o)/\((J.stop i s/\Q (.ref p) s)∨(J.go i s/\o.length < sizeLine/\∀x G,J.yld i s x G->g x A G λl O=>tc l O λb I=>
  if b=true then te l I λy L=>L p=some (.lst o)/\∃B,B < m/\W (i+1) B l (upd L p (.lst (o++[y]))) (o++[y])else ∃B,B < m/\W (i+1) B l I o))
def fZ{X':Cx}{L ϖ iter:Expr}{N:List Expr}{pos:Pos}{J:It}{it p:AT}{tn:Nat->DA->Prop}{g:TG}{tc:TT}{te:TE}{R:Result->AK->Prop}{Q:Hp->Prop}
  (hc:X'.calm=true) (hx:X'.xe=λ_ _=>False) (T:VC X'.prog X'.w X'.K ϖ J fp it tn) (hg:PG X' ϖ g) (zt:bM X' N tc) (he:PE X' L te)
  (W:Nat->Nat->St->Hp->List V->Prop) (turn:∀i m l B xs,W i m l B xs->B p=some (.lst xs)/\((J.stop i B/\Q B)∨(J.go i B/\xs.length < sizeLine/\∀x zq,J.yld i B x zq->g x l zq λH H2=>tc H H2 λb H3=>
   if b=true then te H H3 λy H4=>H4 p=some (.lst xs)/\∃G,G < m/\W (i+1) G H (upd H4 p (.lst (xs++[y]))) (xs++[y])else ∃G,G < m/\W (i+1) G H H3 xs)))
  (fin:∀l B s',Inv X' [] l B s'->Q B->R (.ok .next) s')
  {m0:Nat} {O:St} {H0:Hp} {s0:AK} (I0:Inv X' [] O H0 s0) (st0:tn 0 s0.heap) (f0:∀b∈fp,Pa X' [] H0 b) (w0:W 0 m0 O H0 []) :
  Ox (Ag X'.prog X'.w) X'.A (.compLoop (.ListComp L [⟨ϖ,iter,N,0⟩] scope pos) 0 (.ref it) (.ref p) X'.env) R s0:=by
 have yK:∀{B:Hp},(∀b∈fp,B b=none)->∀b∈fp,Pa X' [] B b:=λhn b hb=>⟨hn b hb,(f0 b hb).2⟩
 refine codeAny_loop rfl (λn s'=>∃i l B xs,Inv X' [] l B s'/\tn i s'.heap/\(∀b∈fp,B b=none)/\W i n l B xs) (λn s1 hI=>?_) m0 ⟨0,O,H0,[],I0,st0,λb hb=>(f0 b hb).1,w0⟩;obtain⟨i,C,H1,xs,I1,xu,fr1,w1⟩:=hI;show Am _ X'.A ((compTurn (.ListComp L [⟨ϖ,iter,N,0⟩] scope pos) 0 (.ref it) (.ref p) X'.env).onRaise (λx=>do fx x X'.env;theTreesLotGoes x)) _ _ s1;refine wpAny_noted ?_;rw[compTurn_list]
 have up:∀{α:Type} {t:Sem α} {P:α->AK->Prop} {E:AI->AK->Prop} {s:AK},Am (Ag X'.prog X'.w) X'.A t P X'.xe s->Am (Ag X'.prog X'.w) X'.A t P E s:=λh=>Fq h (λ_ _ z=>z) λ_ _ z=>by rw[hx]at z;exact z.elim
 obtain⟨hp,S⟩:=turn i n C H1 xs w1;refine AB (wpAny_standAt (AB ?_))
 rcases S with⟨stop,q⟩ | ⟨go,hz,step⟩
 ·refine up (thn (T.done X' rfl rfl rfl hc i [] s1 C H1 X'.xe I1 (yK fr1) xu stop) λr s4 ⟨hr,I4⟩=>?_)
  subst hr;exact AN (fin C H1 s4 I4 q)
 ·refine up (thn (T.item X' rfl rfl rfl hc i [] s1 C H1 X'.xe I1 (yK fr1) xu go) λr s4 ⟨u,hr,h4⟩=>?_)
  subst hr;refine AB (up (thn h4 λ_ s5 ⟨x,H5,I5,r5,y5,zz,fr5⟩=>?_));have I5':=I5.pinned (yK fr5) (T.obj _ _ zz);refine AB (up (thn (hg _ s5 C H5 x u _ I5' r5 (step x H5 y5)) λ_ s6 ⟨U,H6,I6,q6⟩=>?_))
  have uQ:∀{Y:AK} {I:St} {Z:Hp} {ys:List V},Inv X' ([]++TZ fp s5.heap) I Z Y->(∃G,G < n/\W (i+1) G I Z ys)->∃m,m < n/\∃i l B xs,Inv X' [] l B Y/\tn i Y.heap/\(∀b∈fp,B b=none)/\W i m l B xs:=λ{Y I Z ys} I7 ⟨G,hm,w7⟩=>by
   refine⟨G,hm,i+1,I,Z,ys,I7.unpinned,T.keep _ _ _ zz λb hb o e=>(I7.pin (b,o) (Ba _ (Ba _ (Ma hb e)))).1,λb hb=>?_,w7⟩;obtain⟨o,e,d⟩:=T.obj _ _ zz b hb;exact(I7.pin (b,o) (Ba _ (Ba _ (Ma hb e)))).2.1
  refine AB (up (thn (zt _ s6 U H6 _ I6 q6) λok Y ⟨Z,I7,q7⟩=>?_))
  cases ok with
  | false=>
   rw[qY AH]at q7;exact AN ⟨rfl,uQ I7 q7⟩
  | true=>
   rw[qX rfl]at q7;refine AB (AB (up (thn (he _ Y U Z _ I7 q7) λyv s8 ⟨y,H8,I8,r8,hp8,q8⟩=>?_)));refine AB (up (thn (Vj (X:=X') _ s8 U H8 (.ref p) [y] (.ref p) [yv] (λv H9=>v=.non/\H9=upd H8 p (.lst (xs++[y]))) I8 rfl (.cons r8 .nil) ⟨p,xs,y,rfl,rfl,hp8,hz,rfl,rfl⟩) λv9 s9 ⟨v,H9,I9,r9,e9,e10⟩=>?_));subst e10;exact AN (AN ⟨rfl,uQ I9 q8⟩)
end
section
def Vy(N:Inv X G σ B m)(J:Inv (Em X scope N' Z C m B fp (X.pn++G)) [] O s s')(P:m.heap.objs.size<=C)(Q:∀b∈fp,Pa X G B b)
  (E:FK C s'.heap h'):Inv X G σ s { s' with heap:=h' }:=by
 have H:∀b o,m.heap.get? b=some o->b≠C:=λb o e=>A0 (AV (Ad e) P)
 have l:Un (frs X.stack) fp B s m.heap s'.heap:=J.base
 have u:Un (frs X.stack) fp B s m.heap h':=by
  refine⟨λb o e n hb A=>(E.2 b (H b o e)).trans (l.keep b o e n hb A),λb o e n hb A=>?_,l.free,λb o e A=>?_,l.tups,l.frzs,l.tbls⟩
  ·obtain⟨sl,q⟩:=l.slot b o e n hb A
   exact⟨sl,(E.2 b (H b o e)).trans q⟩
  ·obtain⟨R,q⟩:=l.there b o e A
   exact⟨R,(E.2 b (H b o e)).trans q⟩
 have L:s C=none:=J.free
 have I:HOk X.prog X.w s h':=λa o e=>(J.hok a o e).stay (λb u hb q=>(E.2 b λz=>by
  subst z
  rcases hb with z | z
  ·subst z;rw[L]at e;cases e
  ·rw[L]at z;cases z).trans q) (λ_ q=>q) λ_ _ q=>q
 exact N.call' (s':={ s' with heap:=h' }) (ch:=fp) J.os u I J.bare λb hb=>by
  obtain⟨_,S,z2,T,U,Y⟩:=Q b hb;exact⟨T,S,U,Y⟩
def UQ{σ:St}{E:AI->AK->Prop}{Qf:AT->Hp->Prop}{RR:AI->AT->Result->AK->Prop}{it:AT}{J:It}{tn:Nat->DA->Prop}(hc:X.calm=true)(Sc:Pb X scope own N')
  (hg:∀I C B G ex pn,PG (Em X scope N' I C B G ex pn) ϖ g) (zt:∀I C B G ex pn,bM (Em X scope N' I C B G ex pn) ifs tc) (he:∀I C B G ex pn,PE (Em X scope N' I C B G ex pn) elt te)
  (c1:∀n c,I.lookup n=some c->X.env.cells.lookup n=some c) (c2:∀y∈scope.names,y.2=.free->∃c,I.lookup y.1=some c)
  (I2:Inv X ζ σ L s2) (T:VC X.prog X.w X.K ϖ J fp it tn) (vp:tn 0 s2.heap) (f2:∀b∈fp,Pa X ζ L b)
  (q2:∀p,L p=none->∃W:Nat->Nat->St->Hp->List V->Prop,(∃m,W 0 m (Be own.length none++σ) (upd L p (.lst [])) []) /\
   ∀i m N O xs,W i m N O xs->O p=some (.lst xs)/\((J.stop i O/\Qf p O)∨(J.go i O/\xs.length < sizeLine/\∀x zq,J.yld i O x zq->g x N zq λP L=>tc P L λb H=>
    if b=true then te P H λy l=>l p=some (.lst xs)/\∃m',m' < m/\W (i+1) m' P (upd l p (.lst (xs++[y]))) (xs++[y])else ∃m',m' < m/\W (i+1) m' P H xs)))
  (hRR:∀D C I N O s',s2.heap.objs.size<=C->Inv (Em X scope N' I C s2 L fp (X.pn++ζ)) [] N O s'->Qf D O->RR (.ref D) C (.ok .next) s') :
  Am (Ag X.prog X.w) X.A (newList []) (λacc s₃=>Am (Ag X.prog X.w) X.A (ZX scope X.env.globals I [] X.env.qual none .none (some X.env)) (λS s₄=>
   Ox (Ag X.prog X.w) X.A (.compStart (.ListComp elt [⟨ϖ,iter,ifs,0⟩] scope pos) 0 (.ref it) acc { S with scope:=LJ scope X.env }) (RR acc S.locals) s₄) E s₃) E s2:=by
 have θ:∀b∈fp,b < s2.heap.objs.size:=λb hb=>by
  obtain⟨o,e,_⟩:=T.obj _ _ vp b hb;exact Ad e
 refine E3 (Zo ?_);dsimp only;generalize hH3:s2.heap.push { cls:=.type "list",dict:=none,data:=.seq ([]:List AI).toArray }=H;generalize hH4:H.push { cls:=.type "dict",data:=.dict #[] }=l
 have hC:H.objs.size=s2.heap.objs.size+1:=by rw[<-hH3,E5]
 have hC4:l.objs.size=H.objs.size+1:=by rw[<-hH4,E5]
 have hDC:s2.heap.objs.size≠H.objs.size:=by rw[hC];exact A0 (Dc _)
 have zQ:s2.heap.objs.size<=H.objs.size:=by rw[hC];exact O0 _
 have U:s2.heap.objs.size<=l.objs.size:=by rw[hC4];exact Nat.le_succ_of_le zQ
 have Y:∀b o,H.get? b=some o->(FP l scope.names).get? b=some o:=λb o e=>Xh _ _ _ _ (hH4▸AR _ e)
 have old:∀b o,s2.heap.get? b=some o->(FP l scope.names).get? b=some o:=λb o e=>Y b o (hH3▸AR _ e)
 have hacc:(FP l scope.names).get? s2.heap.objs.size=some { cls:=.type "list",dict:=none,data:=.seq ([]:List AI).toArray }:=Y _ _ (hH3▸Al _ rfl)
 have R:(FP l scope.names).Ns H.objs.size λ_=>none:=by
  have:=(DA.Ns.new H (.type "dict")).keeps (Xh scope.names (H.push { cls:=.type "dict",data:=.dict #[] }));rw[hH4]at this;exact this
 have hD:L s2.heap.objs.size=none:=I2.hok.fresh (AO _);have u:Un (frs X.stack) fp L (upd L s2.heap.objs.size (.lst [])) s2.heap (FP l scope.names):=Un.laid old (AO _) hD;have hok:HOk X.prog X.w (upd L s2.heap.objs.size (.lst [])) (FP l scope.names):=I2.hok.laid old (AO _) ⟨Dp _,[],0,.nil,hacc⟩
 have hHn:∀c,s2.heap.objs.size < c->upd L s2.heap.objs.size (.lst []) c=none:=λc h=>by rw[Bb (Eo h)];exact I2.hok.fresh (NR h)
 have U':upd L s2.heap.objs.size (.lst []) H.objs.size=none:=hHn _ (by rw[hC];exact Dc _)
 have zE:∀x c,(Ca l.objs.size scope.names I).lookup x=some c->I.lookup x=some c∨((FP l scope.names).IsCell c none/\l.objs.size<=c):=λx c e=>K9 scope.names l I x c e
 obtain⟨W,⟨m0,w0⟩,turn⟩:=q2 s2.heap.objs.size hD
 have Z:∀s₃:AK,s₃={ s2 with heap:=FP l scope.names } ->
   Ox (Ag X.prog X.w) X.A (.compLoop (.ListComp elt [⟨ϖ,iter,ifs,0⟩] scope pos) 0 (.ref it) (.ref s2.heap.objs.size) (compEnvC scope (Ca l.objs.size scope.names I) H.objs.size X.env))
    (RR (.ref s2.heap.objs.size) H.objs.size) s₃:=by
  rintro s₃ rfl
  have J0:Inv (Em X scope N' (Ca l.objs.size scope.names I) H.objs.size s2 L fp (X.pn++ζ)) [] (Be own.length none++σ) (upd L s2.heap.objs.size (.lst [])) { s2 with heap:=FP l scope.names }:=
   aw (s:={ s2 with heap:=FP l scope.names }) Sc I2 f2 θ c1 c2 U zE (λc h=>hHn c (by lia)) zQ R rfl I2.bare u hok U'
  refine fZ (X':=Em X scope N' (Ca l.objs.size scope.names I) H.objs.size s2 L fp (X.pn++ζ)) (fp:=fp) (Q:=Qf s2.heap.objs.size) hc rfl T (hg _ _ _ _ _ _) (zt _ _ _ _ _ _) (he _ _ _ _ _ _) W turn (λN O s' J q=>hRR _ _ _ N O s' zQ J q) J0 (T.keep _ _ _ vp λb _ o e=>old b o e) (λb hb=>?_) w0;obtain⟨z0,z1,z2,z3,z4,z5⟩:=f2 b hb;refine⟨by rw[Bb (A0 (θ b hb))];exact z0,A0 (AV (θ b hb) zQ),λz=>?_,.inl hb,λx c e=>?_,λp hp=>?_⟩
  ·exact(Ai.mp (I2.stkSub _ z)).elim z1 z2
  ·rcases zE x c e with e | ⟨_,e⟩
   ·exact z4 x c (c1 x c e)
   ·exact Eo (AV (θ b hb) (Aw U e))
  ·have hp:p∈(X.pn++ζ)++[]:=hp
   rw[Bh]at hp;exact z5 p hp
 exact codeAny_compStart_list (Z _ rfl) (T.self X.A 0 _ _ _ (T.keep _ _ _ vp λb _ o e=>old b o e) (Z _ rfl))
def nZ(Z:X.calm=true)(E:Pb X scope own N')(hi:PI X P iter wi)
  (hg:∀B C l o ex pn,PG (Em X scope N' B C l o ex pn) P g) (zt:∀B C l o ex pn,bM (Em X scope N' B C l o ex pn) G tc) (he:∀B C l o ex pn,PE (Em X scope N' B C l o ex pn) L te)
  (hs:∀x,Gq iter X.env x=pure x:=by intro _;rfl):PE X (.ListComp L [⟨P,iter,G,0⟩] scope pos) (iJ own.length wi g tc te):=by
 intro R s S H Q I h;rw[eval_ListComp];obtain⟨B,zu,c1,c2⟩:=dB (scope:=scope) (env:=X.env) (λy hy hf=>I.ok.has y.1 (E.free y hy hf));refine dM (use:=none) rfl hs zu E.kind E.names (thn (hi R s S H _ I h) λv s1 h1=>thn h1 λitv s2 h2=>?_);obtain⟨it,fp,tn,J,H2,rfl,U,T,vp,Y,q2⟩:=h2
 refine UQ (Qf:=λp N=>Q (.ref p) N) (RR:=λO C=>compPost (Ag X.prog X.w) X.A X.xe none (EP X R S Q) O C) Z E hg zt he c1 c2 U T vp Y q2 λD C cl' σ' N s' hC J q=>?_
 obtain⟨m,hn,_⟩:=J.loc;exact⟨m,hn,λh' sb=>⟨.ref D,N,Vy U J hC Y sb,rfl,q⟩⟩
def nN{i:Nat}{y:Str}{L zR:Pos}(hc:X.calm=true)(hsw:HI (.ListComp E [⟨U,iter,G,0⟩] scope pos) (some (.Name y L)) zR.line X.env=pure true)
  (hN:X.N.Nodup) (hy:X.N[i]?=some y) (ν:Loc X.env.scope y) (Y:Pb X scope own N') (hi:PI X U iter wi)
  (hg:∀O C l B ex pn,PG (Em X scope N' O C l B ex pn) U g) (zt:∀O C l B ex pn,bM (Em X scope N' O C l B ex pn) G tc) (he:∀O C l B ex pn,PE (Em X scope N' O C l B ex pn) E te)
  (hs:∀x,Gq iter X.env x=pure x:=by intro _;rfl) (hf:X.fn y=true∨X.env.scope.names.lookup y=some .local:=by first | exact .inl rfl | exact .inr rfl | assumption) :
  PS X (.Assign [.Name y L] (.ListComp E [⟨U,iter,G,0⟩] scope pos) zR) (vD (iJ own.length wi g tc te) (cn i)):=by
 intro Z s σ H D I h;rw[exec_Assign_Name_used _ _ _ _ hsw];refine AB (wpAny_standAt (AB ?_));show Am _ X.A (do let _ <-comprehension (.ListComp E [⟨U,iter,G,0⟩] scope pos) scope X.env _ (newList []) false (Cd iter X.env) (some (Zd (.Name y L) X.env))) _ _ s;obtain⟨O,zu,c1,c2⟩:=dB (scope:=scope) (env:=X.env) (λy hy hf=>I.ok.has y.1 (Y.free y hy hf))
 refine AB (Fq (dM (use:=some (Zd (.Name y L) X.env)) (Q:=λ_ s'=>SP X Z D .next s') rfl hs zu Y.kind Y.names
  (thn (hi Z s σ H _ I h) λv s1 h1=>thn h1 λitv s2 h2=>?_)) (λ_ s' hq=>AN (AN hq)) λ_ _ e=>e)
 obtain⟨it,fp,tn,J,H2,rfl,P,T,vp,f2,q2⟩:=h2
 refine UQ (Qf:=λp R=>D.nx (σ.set i (some (.ref p))) R) (RR:=λacc C=>compPost (Ag X.prog X.w) X.A X.xe (some (Zd (.Name y L) X.env)) (λ_ s'=>SP X Z D .next s') acc C) hc Y hg zt he c1 c2 P T vp f2 q2 λA C cl' σ' R s' S J q=>?_
 obtain⟨m,hn,_⟩:=J.loc;have I3:Inv X Z σ R s':=Vy P J S f2 (xF ..);have U':R C=none:=J.free
 have xU:∀x c,X.env.cells.lookup x=some c->c≠C:=λx c e z=>by
  obtain⟨v,q⟩:=P.cell x c e;exact zX (AV q.lt (by rw[z];exact S)) (EE _)
 have V':C≠X.env.locals:=Eo (AV P.lt S);show Am _ X.A (Zd (.Name y L) X.env (.ref A)) _ _ s';refine uM (Vc (v:=.ref A) I3 hN hy ν rfl (λs4 I4 ⟨a,sb,ha⟩=>?_) hf)
 have haC:C≠a:=by
  rcases ha with e | e
  ·rw[e];exact V'
  ·exact CF (xU _ _ e)
 refine⟨m,hn.sameBut sb haC,λh' sb'=>⟨_,R,?_,q⟩⟩
 refine I4.turned (t':=s4.toks) (it:=C) (λb o hb e=>(sb'.2 b hb).trans e) U' V' (.inr (Aw P.sz S)) xU λp hp z=>?_
 exact zX (AV (Ad (P.pin p hp).1) (by rw[z];exact S)) (EE _)
end
def HH(v:RF)(g:MG)(c:MT)(m:ME):Nat->Nat->Lo->Sto->List D->Res (List D)
 | k,i,e,S,l=>match v S with
  | none=>.bad
  | some A=>match A[i]? with
   | none=>.ok l S
   | some d=>match k with
    | 0=>.bad
    | k+1=>if l.length < sizeLine then(okR (g d e S)).bind λo B=>(okR (c o B)).bind λb s=>if b=true then(okR (m o s)).bind λy C=>HH v g c m k (i+1) o C (l++[y])else HH v g c m k (i+1) o s l else .bad
def Ef(n:Nat)(mi:MI)(g:MG)(c:MT)(m:ME):ML:=λe S=>(mi e S).bind λv l=>HH v g c m (EG v l) 0 (Be n none++e) l []
def G5:MT:=λ_ S=>.ok true S
section
abbrev pY(X:Cx)(E:EW)(l:List Expr)(c:MT):Prop:=bM X l (gT X.K E c)
def EC:pY X E [] G5:=by
 rintro m s o H Q I ⟨A,l,S,G,B,C⟩
 exact iq m s o H Q I (C A H .refl B)
def Ny(h:GT X E e c):pY X E [e] c:=ip h
def GP.grow{K}{ρ}{H}{e}{σ}(n:Nat)(h:GP K ρ H e σ):GP K ρ H (Be n none++e) (Be n none++σ):=by
 refine⟨by simp[h.len],λi d q=>?_⟩
 by_cases l:i < n
 ·rw[Au (by simpa using l),Du,qX l]at q
  cases q
 ·rw[Bd (by simpa using l)]at q ⊢
  simp only[OI]at q ⊢;exact h.at' _ d q
def CO.ok_of{l:Type}{K:AE}{E:EH}{ρ:List AT}{H:Hp}{r:Res l}{k:l->Sto->Prop}{a:l}{S:Sto}(e:r=.ok a S)(h:k a S):CO K E ρ H r k:=by
 subst e;exact h
def Tl{l m:Type}{r:Res l}{F:l->Sto->Res m}{b:m}{S:Sto}(h:(okR r).bind F=.ok b S):∃a S1,r=.ok a S1/\F a S1=.ok b S:=by
 cases r with
 | ok a S1=>exact⟨a,S1,rfl,h⟩
 | err c S1=>cases h
 | bad=>cases h
def Y2:∀(k i:Nat) (e:Lo) (S:Sto) (l:List D),HH v g c m k i e S l≠.err H S':=by
 intro k
 induction k with
 | zero=>
  intro i e S l h;unfold HH at h;split at h
  ·cases h
  ·split at h <;> cases h
 | succ k B=>
  intro i e S l h;unfold HH at h;split at h
  ·cases h
  ·split at h
   ·cases h
   ·dsimp only at h
    split at h
    ·cases o:g _ e S with
     | ok C E=>
      rw[o]at h;dsimp only[okR,Res.bind]at h
      cases s:c C E with
      | ok b G=>
       rw[s]at h;dsimp only[okR,Res.bind]at h
       cases b with
       | true=>
        rw[qX rfl]at h
        cases A:m C G with
        | ok y I=>rw[A]at h;exact B _ _ _ _ h
        | err _ _=>rw[A]at h;cases h
        | bad=>rw[A]at h;cases h
       | false=>
        rw[qY AH]at h;exact B _ _ _ _ h
      | err _ _=>rw[s]at h;cases h
      | bad=>rw[s]at h;cases h
     | err _ _=>rw[o]at h;cases h
     | bad=>rw[o]at h;cases h
    ·cases h
def YA{K:AE}{n:Nat}{σ:St}{H:Hp}{Q:VK}(h:gL K E (Ef n mi g c m) σ H Q):iJ n (gI K E mi) (gG K g) (gT K noE c) (gE K noE m) σ H Q:=by
 obtain⟨ρ,l,S,hl,hs,R⟩:=h;refine⟨ρ,l,S,hl,hs,R.seq λv Y R ρ1 H1 J l1 s1 vo p hp=>?_⟩
 obtain⟨Z,X,R,k⟩:∃Z X,HH v g c m (EG v Y) 0 (Be n none++l) Y []=.ok Z X/\∀N H' p I,Le K ρ H N H'->CV K N X H'->A9 K N H' Z I->H' p=some (.lst I)->(∀n:Nat,N[n]?≠some p)->H p=none->Q (.ref p) H':=by
  cases hc:HH v g c m (EG v Y) 0 (Be n none++l) Y []with
  | ok Z X=>rw[hc]at R;exact⟨Z,X,rfl,R⟩
  | err c X=>exact(Y2 _ _ _ _ _ hc).elim
  | bad=>rw[hc]at R;exact R.elim
 obtain⟨s1',l1'⟩:=JX (ho:=.lst []) s1 hp;have Μ:H p=none:=l1.back hs s1 hp
 refine⟨λi j σ2 T I=>∃B e2 S2 G,Le K ρ1 H1 B T/\GP K B T e2 σ2/\CV K B S2 T/\A9 K B T G I/\T p=some (.lst I)/\(∀q:Nat,B[q]?≠some p)/\HH v g c m j i e2 S2 G=.ok Z X,
  ⟨EG v Y,ρ1,_,Y,[],l1',(hl.mono (l1.trans l1')).grow n,s1',.nil,CG,λq e=>s1.notIn hp e,R⟩,?_⟩
 rintro i j σ2 T I ⟨B,e2,S2,G,l2,r2,s2,ra,zC,yB,A⟩;refine⟨zC,?_⟩;unfold HH at A
 cases hv:v S2 with
 | none=>rw[hv]at A;cases A
 | some vs=>
  rw[hv]at A;dsimp only at A;obtain⟨v1,v2⟩:=vo B T S2 vs i l2 s2 hv
  cases hd:vs[i]? with
  | none=>
   rw[hd]at A;cases A;exact .inl ⟨v1 hd,k B T p I (l1.trans l2) s2 ra zC yB Μ⟩
  | some d=>
   rw[hd]at A;dsimp only at A;obtain⟨go,yl⟩:=v2 d hd
   cases j with
   | zero=>cases A
   | succ j=>
    dsimp only at A;split at A
    ·rename_i hz
     obtain⟨e3,S3,h3,A⟩:=Tl A;obtain⟨b,S4,h4,A⟩:=Tl A;refine .inr ⟨go,by rw[<-ra.length];exact hz,λx H' y=>?_⟩;obtain⟨ρ3,l3,s3,rd⟩:=yl x H' y;obtain⟨hp3,hn3⟩:=l3.oth p _ zC yB;refine⟨ρ3,e2,S2,d,rd,r2.mono l3,s3,CO.ok_of h3 λρ4 H4 σ4 l4 s4 r4=>?_⟩;obtain⟨hp4,hn4⟩:=l4.oth p _ hp3 hn3;refine⟨ρ4,e3,S3,r4,s4,CO.ok_of h4 λρ5 H5 U s5=>?_⟩;obtain⟨hp5,hn5⟩:=U.oth p _ hp4 hn4
     cases b with
     | false=>
      rw[qY AH]at A ⊢;exact⟨j,Dc j,ρ5,e3,S4,G,l2.trans (l3.trans (l4.trans U)),r4.mono U,s5,ra.mono (l3.trans (l4.trans U)),hp5,hn5,A⟩
     | true=>
      rw[qX rfl]at A ⊢;obtain⟨yv,S5,h5,A⟩:=Tl A;refine⟨ρ5,e3,S4,r4.mono U,s5,CO.ok_of h5 λs C y6 l6 s6 r6=>?_⟩;obtain⟨O,hn6⟩:=l6.oth p _ hp5 hn5
      have l7:∀P,Le K s C s (upd C p (.lst P))->True:=λ_ _=>trivial
      have up7:∀P:List V,CV K s S5 (upd C p (.lst P))/\(∀a o,EQ K s C a o->a≠p->EQ K s (upd C p (.lst P)) a o)/\∀e' w',CB K s C e' w'->CB K s (upd C p (.lst P)) e' w':=λP=>by
       have L:=Hi (H:=C) (p:=p) (ho:=.lst P) (.inr (by rw[O];trivial))
       have mono:∀e' w',CB K s C e' w'->CB K s (upd C p (.lst P)) e' w':=λe' w' r=>r.keep L.1 L.2
       have mob:∀a o,EQ K s C a o->a≠p->EQ K s (upd C p (.lst P)) a o:=λa o r ne=>r.keep L.1 L.2 (Bb ne)
       exact⟨⟨s6.len,s6.nd,λn o a q1 q2=>mob a o (s6.ob n o a q1 q2) λz=>hn6 n (by rw[<-z];exact q2)⟩,mob,mono⟩
      obtain⟨u1,u2,u3⟩:=up7 (I++[y6]);refine⟨O,j,Dc j,s,e3,S5,G++[yv],?_,?_,u1,?_,CG,hn6,A⟩
      ·have lx:=l2.trans (l3.trans (l4.trans (U.trans l6)))
       have L:=Hi (H:=C) (p:=p) (ho:=.lst (I++[y6])) (.inr (by rw[O];trivial))
       exact⟨lx.pre,λa zs q=>L.1 a zs (lx.tup a zs q),λa o u q=>L.2 a o u (lx.frz a o u q),λa o q z=>by
        have nap:a≠p:=CD q hp;obtain⟨z1,z2⟩:=lx.oth a o q z
        exact⟨by rw[Bb nap];exact z1,z2⟩⟩
      ·have rr:=r4.mono (U.trans l6)
       exact⟨rr.len,λq d' hq=>by
        obtain⟨w',z1,z2⟩:=rr.at' q d' hq
        exact⟨w',z1,u3 _ _ z2⟩⟩
      ·have ra6:=ra.mono (l3.trans (l4.trans (U.trans l6)))
       have L:=Hi (H:=C) (p:=p) (ho:=.lst (I++[y6])) (.inr (by rw[O];trivial));exact(ra6.keep L.1 L.2).append (.cons (u3 _ _ r6) .nil)
    ·cases A
def Eh(H:X.calm=true)(I:Pb X scope own N')(hi:GI X E G iter mi)
  (J:∀s C l o ex pn,GG (Em X scope N' s C l o ex pn) G g) (L:∀s C l o ex pn,pY (Em X scope N' s C l o ex pn) noE A c) (N:∀s C l o ex pn,GE (Em X scope N' s C l o ex pn) noE B m)
  (O:∀x,Gq iter X.env x=pure x:=by intro _;rfl):GL X E (.ListComp B [⟨G,iter,A,0⟩] scope pos) (Ef own.length mi g c m):=
 (nZ (g:=gG X.K g) (tc:=gT X.K noE c) (te:=gE X.K noE m) H I hi J L N O).imp λ_ _ _ h=>YA h
def W4(hc:X.calm=true)(R:HI (.ListComp G [⟨T,iter,I,0⟩] scope pos) (some (.Name y py)) zR.line X.env=pure true)
  (hN:X.N.Nodup) (hy:X.N[i]?=some y) (ν:Loc X.env.scope y) (Sc:Pb X scope own N') (hi:GI X E T iter mi)
  (hg:∀J C s A ex pn,GG (Em X scope N' J C s A ex pn) T g) (zt:∀J C s A ex pn,pY (Em X scope N' J C s A ex pn) noE I c) (he:∀J C s A ex pn,GE (Em X scope N' J C s A ex pn) noE G m)
  (U:∀x,Gq iter X.env x=pure x:=by intro _;rfl) (hf:X.fn y=true∨X.env.scope.names.lookup y=some .local:=by first | exact .inl rfl | exact .inr rfl | assumption) :
  GS X E (.Assign [.Name y py] (.ListComp G [⟨T,iter,I,0⟩] scope pos) zR) (CY i (Ee (Ef own.length mi g c m))):=by
 refine(nN (g:=gG X.K g) (tc:=gT X.K noE c) (te:=gE X.K noE m) hc R hN hy ν Sc hi hg zt he U hf).imp λD σ H ⟨O,l,S,Y,U,Z⟩=>?_
 refine YA (E:=E) (Q:=λx H'=>D.nx (σ.set i (some x)) H') ⟨O,l,S,Y,U,CO.seq (F:=λds S1=>Res.ok (L2.D.ref S1.length) (S1++[Ob.lst ds])) (k:=λd P=>CO X.K noH O H ((tgN i d l P).bind λe1 P=>.ok (.nx e1) P) λfl S'=>R5 X.K E O H S' D fl) (CO.lift Z Y .refl λd P h=>h) λds S1 Z B H1 p xs L s1 r1 hp hn Μ=>?_⟩
 have l0:∀(n:Nat) a,B[n]?=some a->(B++[p])[n]?=some a:=λn a h=>by rw[Au (AG.mp h).1];exact h
 obtain⟨s2,at2⟩:=s1.adopt (o:=.lst ds) hn ⟨xs,hp,r1.more l0⟩
 have l2:Le X.K O H (B++[p]) H1:=⟨λn a h=>l0 n a (L.pre n a h),L.tup,L.frz,λa o e h=>⟨(L.oth a o e h).1,λn q=>by
  rcases J8 q with⟨q,_⟩ | ⟨_,q⟩
  ·exact(L.oth a o e h).2 n q
  ·exact CD e Μ q⟩⟩
 exact Z _ _ _ l2 s2 ((Y.mono l2).set (.ref at2) i)
end
end L2
namespace L2
open PySem.SeqAt
noncomputable def Ml:D->D->Option Bool
 | .non,.non=>some true
 | .bl a,.bl b=>some (a==b)
 | .int a,.int b=>some (a==b)
 | .str a,.str b=>some (a==b)
 | .non,.int _=>some false
 | .non,.str _=>some false
 | .non,.bl _=>some false
 | .non,.tup _=>some false
 | .int _,.non=>some false
 | .str _,.non=>some false
 | .bl _,.non=>some false
 | .tup _,.non=>some false
 | .int _,.tup _=>some false
 | .tup _,.int _=>some false
 | _,_=>none
def eqL(f:D->D->Option Bool):List D->List D->Option Bool
 | [],[]=>some true
 | [],_ :: _=>some false
 | _ :: _,[]=>some false
 | x :: l,y :: m=>match f x y,eqL f l m with
  | some a,some b=>some (a&&b)
  | _,_=>none
def eqP:Nat->D->D->Option Bool
 | 0,x,y=>Ml x y
 | n+1,x,y=>match x,y with
  | .tup l,.tup m=>eqL (eqP n) l m
  | x,y=>Ml x y
def N4(h:eqL f (x :: xs) (y :: l)=some b):∃a c,f x y=some a/\eqL f xs l=some c/\b=(a&&c):=by
 unfold eqL at h;split at h
 ·rename_i a c m o
  cases h;exact⟨a,c,m,o,rfl⟩
 ·cases h
theorem cx:∀{xs l:List D} {b:Bool},eqL f xs l=some b->(∀(j:Nat) x y,xs[j]?=some x->l[j]?=some y->∃c,f x y=some c) /\
  b=((B1 (min xs.length l.length)).all (λj=>match xs[j]?,l[j]? with | some x,some y=>(f x y).getD false | _,_=>false)&&xs.length==l.length)
 | [],[],b,h=>by cases h;exact⟨λj x y h=>by simp at h,by simp⟩
 | [],y :: l,b,h=>by cases h;exact⟨λj x y h=>by simp at h,by simp⟩
 | x :: xs,[],b,h=>by cases h;exact⟨λj x y _ h=>by simp at h,by simp⟩
 | x :: xs,y :: l,b,h=>by
  obtain⟨a,c,s,A,rfl⟩:=N4 h;obtain⟨B,C⟩:=cx A;refine⟨λj E G m o=>?_,?_⟩
  ·cases j with
   | zero=>simp at m o;subst m;subst o;exact⟨a,s⟩
   | succ j=>exact B j E G (by simpa using m) (by simpa using o)
  ·rw[C,Aj,Aj,show min (xs.length+1) (l.length+1)=min xs.length l.length+1 by lia,NG,qR,RN]
   simp only[List.getElem?_cons_zero,s,RJ,Zm,List.getElem?_cons_succ];rw[Bool.and_assoc]
   congr 1
   congr 1
   rw[Bool.eq_iff_iff];simp
section
variable{K:AE}{ρ:List AT}{H:Hp}
def cq(n k:Nat)(y:D):eqP n (.ref k) y=none:=by cases n <;> cases y <;> rfl
def cr(n:Nat)(ds:List D)(y:D):eqP n (.fro ds) y=none:=by cases n <;> cases y <;> rfl
def cu(n:Nat)(c:AT)(y:D):eqP n (.exc c) y=none:=by cases n <;> cases y <;> rfl
def P3(A:CB K ρ H x v)(l:CB K ρ H m v):x=m∨(∃ds o vs,x=.tup ds/\m=.tup o/\A9 K ρ H ds vs/\A9 K ρ H o vs)∨(∀n y,eqP n x y=none)∨∀n y,eqP n m y=none:=by
 cases A with
 | non=>cases l;exact .inl rfl
 | bl b=>cases l;exact .inl rfl
 | int b=>cases l;exact .inl rfl
 | str b=>cases l;exact .inl rfl
 | fro _ _=>exact .inr (.inr (.inl λn y=>cr n _ y))
 | ref _=>exact .inr (.inr (.inl λn y=>cq n _ y))
 | exc _ _=>exact .inr (.inr (.inl λn y=>cu n _ y))
 | tup B C=>
  cases l with
  | fro _ _=>exact .inr (.inr (.inr λn y=>cr n _ y))
  | ref _=>exact .inr (.inr (.inr λn y=>cq n _ y))
  | exc _ _=>exact .inr (.inr (.inr λn y=>cu n _ y))
  | tup s E=>
   rw[B]at s;cases s;exact .inr (.inl ⟨_,_,_,rfl,rfl,C,E⟩)
def pD:∀(n:Nat) {x C y:D} {v:V} {b b':Bool},CB K ρ H x v->CB K ρ H C v->eqP n x y=some b->eqP n C y=some b'->b=b':=by
 intro n
 induction n with
 | zero=>
  intro x C y v b b' J L h l
  rcases P3 J L with rfl | ⟨E,N,o,rfl,rfl,_,_⟩ | q | q
  ·rw[h]at l;cases l;rfl
  ·have:eqP 0 (.tup E) y=eqP 0 (.tup N) y:=by cases y <;> rfl
   rw[<-this,h]at l;cases l;rfl
  ·rw[q]at h;cases h
  ·rw[q]at l;cases l
 | succ n R=>
  intro x C y v b b' J L h l
  have lists:∀{G:List D} {o:List V} {I m:List D} {b b':Bool},A9 K ρ H G o->A9 K ρ H I o->eqL (eqP n) G m=some b->eqL (eqP n) I m=some b'->b=b':=by
   intro G
   induction G with
   | nil=>
    intro o I m b b' s A g B;cases s;cases A;rw[g]at B;cases B;rfl
   | cons d E O=>
    intro o I m b b' s A g B
    cases s with
    | cons S T=>
     cases A with
     | cons U X=>
      cases m with
      | nil=>cases g;cases B;rfl
      | cons y m=>
       obtain⟨p,q,Y,Z,rfl⟩:=N4 g;obtain⟨p',q',P,Q,rfl⟩:=N4 B;rw[R S U Y P,O T X Z Q]
  rcases P3 J L with rfl | ⟨E,N,o,rfl,rfl,s,A⟩ | q | q
  ·rw[h]at l;cases l;rfl
  ·by_cases c:∃m,y=.tup m
   ·obtain⟨m,rfl⟩:=c
    exact lists s A h l
   ·have:eqP (n+1) (.tup E) y=eqP (n+1) (.tup N) y:=by
     cases y <;> first | rfl | exact(c ⟨_,rfl⟩).elim
    rw[<-this,h]at l;cases l;rfl
  ·rw[q]at h;cases h
  ·rw[q]at l;cases l
def E6(h:Ml x x=some b):b=true:=by
 cases x <;> first | (cases h;done) | (cases h;simp)
theorem UL:∀(n:Nat) {x:D} {b:Bool},eqP n x x=some b->b=true
 | 0,_,_,h=>E6 h
 | n+1,x,b,h=>by
  have lists:∀{l:List D} {b:Bool},eqL (eqP n) l l=some b->b=true:=by
   intro l
   induction l with
   | nil=>intro b g;cases g;rfl
   | cons d A m=>
    intro b g;obtain⟨p,q,o,s,rfl⟩:=N4 g;rw[UL n o,m s];rfl
  cases x with
  | tup l=>exact lists h
  | non=>exact E6 (x:=.non) h
  | bl c=>exact E6 (x:=.bl c) h
  | int c=>exact E6 (x:=.int c) h
  | str c=>exact E6 (x:=.str c) h
  | ref c=>exact E6 (x:=.ref c) h
  | fro c=>exact E6 (x:=.fro c) h
  | exc c=>exact E6 (x:=.exc c) h
def OU(l:(∃f,y=.fro f)∨(∃r,y=.ref r)∨∃c,y=.exc c)(n:Nat):eqP n x y=none:=by
 rcases l with⟨f,rfl⟩ | ⟨r,rfl⟩ | ⟨c,rfl⟩ <;> (cases n <;> cases x <;> rfl)
def kL(n:Nat)(E:CB K ρ H x v)(s:CB K ρ H y v)(h:eqP n x y=some b):b=true:=by
 induction n generalizing x y v b with
 | zero=>
  rcases P3 E s with rfl | ⟨G,I,l,rfl,rfl,_,_⟩ | q | q
  ·exact UL 0 h
  ·cases h
  ·rw[q]at h;cases h
  ·cases s with
   | fro _ _=>rw[OU (.inl ⟨_,rfl⟩)]at h;cases h
   | ref _=>rw[OU (.inr (.inl ⟨_,rfl⟩))]at h;cases h
   | exc _ _=>rw[OU (.inr (.inr ⟨_,rfl⟩))]at h;cases h
   | non=>cases(q 0 .non)
   | bl b=>cases(q 0 (.bl b))
   | int b=>cases(q 0 (.int b))
   | str b=>cases(q 0 (.str b))
   | tup _ _=>cases(q 0 .non)
 | succ n J=>
  have lists:∀{A B:List D} {l:List V} {b:Bool},A9 K ρ H A l->A9 K ρ H B l->eqL (eqP n) A B=some b->b=true:=by
   intro A
   induction A with
   | nil=>intro B l b m o g;cases m;cases o;cases g;rfl
   | cons d G C=>
    intro B l b m o g
    cases m with
    | cons L N=>
     cases o with
     | cons O P=>
      obtain⟨p,q,Q,R,rfl⟩:=N4 g;rw[J L O Q,C N P R];rfl
  rcases P3 E s with rfl | ⟨G,I,l,rfl,rfl,m,o⟩ | q | q
  ·exact UL (n+1) h
  ·exact lists m o h
  ·rw[q]at h;cases h
  ·cases s with
   | fro _ _=>rw[OU (.inl ⟨_,rfl⟩)]at h;cases h
   | ref _=>rw[OU (.inr (.inl ⟨_,rfl⟩))]at h;cases h
   | exc _ _=>rw[OU (.inr (.inr ⟨_,rfl⟩))]at h;cases h
   | non=>cases(q 0 .non)
   | bl b=>cases(q 0 (.bl b))
   | int b=>cases(q 0 (.int b))
   | str b=>cases(q 0 (.str b))
   | tup _ _=>cases(q 0 .non)
end
section
variable{X:Cx}{ζ:List (AT×Obj)}{σ:St}{H:Hp}{s:AK}{ρ:List AT}
def IT(A:Bs):A.in1.units=A.units+1:=rfl
def CQ.at_(r:CQ vs l)(h:j < l.toArray.size):∃v,vs[j]?=some v/\RelV v l.toArray[j]:=by
 have o:j < l.length:=by simpa using h
 have m:j < vs.length:=by rw[r.length];exact o
 obtain⟨u,A,B⟩:=r.get (i:=j) (x:=vs[j]) (by simp[m]);refine⟨vs[j],by simp[m],?_⟩
 have:l.toArray[j]=u:=by
  have:=AG.mp A;obtain⟨_,e⟩:=this;simpa using e
 rw[this];exact B
def WY(Q:∀(x y:D) (b:Bool) (m o:V) (u v:AI),eqP n x y=some b->CB X.K ρ H x m->CB X.K ρ H y o->RelV m u->RelV o v->EqAt A s u v b)
  (h:eqL (eqP n) xs B=some b) (C:A9 X.K ρ H xs vs) (E:A9 X.K ρ H B R) (G:CQ vs us) (I:CQ R l) :
  ∃e:Nat->Bool,(∀j (J:j < us.toArray.size) (L:j < l.toArray.size),EqAt A s us.toArray[j] l.toArray[j] (e j))/\b=((B1 (min us.toArray.size l.toArray.size)).all e&&us.toArray.size==l.toArray.size):=by
 obtain⟨S,T⟩:=cx h;refine⟨λj=>match xs[j]?,B[j]? with | some x,some y=>(eqP n x y).getD false | _,_=>false,λj J L=>?_,?_⟩
 ·obtain⟨v,U,Y⟩:=CQ.at_ G J
  obtain⟨w,Z,yk⟩:=CQ.at_ I L;obtain⟨x,N,rx⟩:=C.get' U;obtain⟨y,O,ry⟩:=E.get' Z;obtain⟨c,P⟩:=S j x y N O;have:=Q x y c v w _ _ P rx ry Y yk;simp only[N,O,P,RJ];exact this
 ·rw[T,C.length,E.length,G.length,I.length]
  simp
def Q4(I:Inv X ζ σ H s)(m:A.units < EY)(h:Ml x y=some b)(L:CB X.K ρ H x N)(o:CB X.K ρ H y O)(B:RelV N u)(l:RelV O v) :
  EqAt A s u v b/\RcAt A s u v b/\RcNeAt A s u v (!b):=by
 cases L with
 | non=>
  cases B
  cases o with
  | non=>cases l;cases h;exact⟨EqAt.same _,RcAt.none_none,RcNeAt.none_none⟩
  | bl c=>cases l;cases h;exact⟨EqAt.none_bool _,RcAt.none_bool _,RcNeAt.none_bool _⟩
  | int i=>obtain⟨t,rfl⟩:=l;cases h;exact⟨EqAt.none_int _ _,RcAt.none_int _ _,RcNeAt.none_int _ _⟩
  | str z=>obtain⟨t,rfl⟩:=l;cases h;exact⟨EqAt.none_str _ _,RcAt.none_str _ _,RcNeAt.none_str _ _⟩
  | tup C E=>
   cases l;cases h;obtain⟨G,_,p,_⟩:=I.tuple (.inl (.inl C));exact⟨EqAt.none_tuple p m,RcAt.none_tuple p m,RcNeAt.none_tuple p m⟩
  | _=>cases h
 | bl a=>
  cases B
  cases o with
  | non=>cases l;cases h;exact⟨EqAt.bool_none _,RcAt.bool_none _,RcNeAt.bool_none _⟩
  | bl c=>cases l;cases h;exact⟨EqAt.bool_bool _ _,RcAt.bool_bool _ _,RcNeAt.bool_bool _ _⟩
  | _=>cases h
 | int a=>
  obtain⟨t,rfl⟩:=B
  cases o with
  | non=>cases l;cases h;exact⟨EqAt.int_none _ _,RcAt.int_none _ _,RcNeAt.int_none _ _⟩
  | int i=>obtain⟨J,rfl⟩:=l;cases h;exact⟨EqAt.int_int _ _ _ _,RcAt.int_int _ _ _ _,RcNeAt.int_int _ _ _ _⟩
  | tup C E=>
   cases l;cases h;obtain⟨G,_,p,_⟩:=I.tuple (.inl (.inl C));exact⟨EqAt.int_tuple _ _ p m,RcAt.int_tuple _ _ p m,RcNeAt.int_tuple _ _ p m⟩
  | _=>cases h
 | str a=>
  obtain⟨t,rfl⟩:=B
  cases o with
  | non=>cases l;cases h;exact⟨EqAt.str_none _ _,RcAt.str_none _ _,RcNeAt.str_none _ _⟩
  | str i=>obtain⟨J,rfl⟩:=l;cases h;exact⟨EqAt.str_str _ _ _ _,RcAt.str_str _ _ _ _,RcNeAt.str_str _ _ _ _⟩
  | _=>cases h
 | tup C E=>
  cases B;obtain⟨G,_,p,_⟩:=I.tuple (.inl (.inl C))
  cases o with
  | non=>cases l;cases h;exact⟨EqAt.tuple_none p m,RcAt.tuple_none p m,RcNeAt.tuple_none p m⟩
  | int i=>obtain⟨J,rfl⟩:=l;cases h;exact⟨EqAt.tuple_int _ _ p m,RcAt.tuple_int _ _ p m,RcNeAt.tuple_int _ _ p m⟩
  | _=>cases h
 | _=>cases h
def av(I:Inv X ζ σ H s):∀(n:Nat) (A:Bs) (x y:D) (b:Bool) (l m:V) (u v:AI),A.units+n < EY->eqP n x y=some b->CB X.K ρ H x l->CB X.K ρ H y m->RelV l u->RelV m v->EqAt A s u v b:=by
 intro n
 induction n with
 | zero=>exact λA x y b l m u v S h B C E G=>(Q4 I (by omega) h B C E G).1
 | succ n T=>
  intro A x y b l m u v S h B C E G
  by_cases J:∃L N,x=.tup L/\y=.tup N
  ·obtain⟨L,N,rfl,rfl⟩:=J
   cases B with
   | @tup _ a vs O P=>
    cases C with
    | @tup _ c ws Q R=>
     cases E;cases G
     by_cases o:a=c
     ·subst o
      rw[kL (n+1) (.tup O P) (.tup Q R) h];exact EqAt.same _
     ·obtain⟨j',U,p,_⟩:=I.tuple (.inl (.inl O))
      obtain⟨xt,Y,Z,_⟩:=I.tuple (.inl (.inl Q));obtain⟨e,he,rfl⟩:=WY (A:=A.in1) (λx y b l m u v g1 g2 g3 g4 g5=>T A.in1 x y b l m u v (by rw[IT];lia) g1 g2 g3 g4 g5) h P R U Y;exact EqAt.of_refs o (ue p Z (by lia) he)
  ·have hf:Ml x y=some b:=by
    cases x <;> cases y <;> first | exact h | exact(J ⟨_,_,rfl,rfl⟩).elim
   exact(Q4 I (by lia) hf B C E G).1
def QC(d:D)(S:Sto):Option (List D):=match d with
 | .fro l=>some l
 | .ref n=>match S[n]? with
  | some (.lst l)=>some l
  | _=>none
 | _=>none
def eqB(x y:D)(S:Sto):Option Bool:=match QC x S,QC y S with
 | some l,some m=>if l.length=m.length then eqL (eqP 8) l m else some false
 | none,none=>eqP 8 x y
 | some _,none=>match y with
  | .tup _=>some false
  | .non=>some false
  | _=>none
 | none,some _=>match x with
  | .tup _=>some false
  | .non=>some false
  | _=>none
def eqD(neg:Bool)(x y:D)(S:Sto):Res D:=match eqB x y S with
 | some b=>.ok (.bl (if neg then !b else b)) S
 | none=>.bad
def Mb{K}{S}{d}{x}{ds}(l:CV K ρ S H)(r:CB K ρ H d x)(h:QC d S=some ds):∃p xs,x=.ref p/\A9 K ρ H ds xs/\SqL K H p xs:=by
 cases r with
 | fro m A=>cases h;exact⟨_,_,rfl,A,m.sq⟩
 | @ref n a B=>
  obtain⟨o,C,E⟩:=l.there B;unfold QC at h;simp only[C]at h
  cases o with
  | lst I=>cases h;obtain⟨J,e,G⟩:=E;exact⟨_,_,rfl,G,.inl (.inl e)⟩
  | _=>cases h
 | _=>cases h
def kQ{S}{x y}{b}{O P}{u v}(I:Inv X ζ σ H s)(hu:X.A.units+64 < EY)(hs:CV X.K ρ S H)(Q:CB X.K ρ H x O)(R:CB X.K ρ H y P)(T:RelV O u)(U:RelV P v)(h:eqB x y S=some b) :
  RcAt X.A s u v b/\RcNeAt X.A s u v (!b):=by
 unfold eqB at h;split at h
 ·rename_i Y ys h1 h2
  obtain⟨p,vs,rfl,Z,sq⟩:=Mb hs Q h1;obtain⟨p',η,rfl,G,sq'⟩:=Mb hs R h2;cases T;cases U;obtain⟨C,J,l,_⟩:=I.list sq;obtain⟨L,N,B,_⟩:=I.list sq';split at h
  ·rename_i o
   obtain⟨e,he,rfl⟩:=WY (A:=X.A.in1) (λx y b O P u v g1 g2 g3 g4 g5=>av I 8 X.A.in1 x y b O P u v (by rw[IT];lia) g1 g2 g3 g4 g5) h Z G J N
   have m:C.toArray.size=L.toArray.size:=by
    simp only[Ax];rw[<-J.length,<-N.length,<-Z.length,<-G.length];exact o
   have e1:((B1 (min C.toArray.size L.toArray.size)).all e&&C.toArray.size==L.toArray.size)=(B1 C.toArray.size).all e:=by
    rw[<-m,Nat.min_self,beq_self_eq_true,Bool.and_true]
   rw[e1];exact⟨RcAt.lists l.isList B.isList m (by lia) he,RcNeAt.lists l.isList B.isList m (by lia) he⟩
  ·rename_i o
   cases h
   have m:(C.toArray.size != L.toArray.size)=true:=by
    simp only[Ax];rw[<-J.length,<-N.length,<-Z.length,<-G.length];simpa using o
   exact⟨RcAt.lists_lengths l.isList B.isList m (by lia),RcNeAt.lists_lengths l.isList B.isList m (by lia)⟩
 ·by_cases ht:∃Y ys,x=.tup Y/\y=.tup ys
  ·obtain⟨Y,ys,rfl,rfl⟩:=ht
   cases Q with
   | tup a1 a2=>
    cases R with
    | tup b1 b2=>
     cases T;cases U;obtain⟨C,J,p,_⟩:=I.tuple (.inl (.inl a1));obtain⟨L,yk,E,_⟩:=I.tuple (.inl (.inl b1));obtain⟨e,he,rfl⟩:=WY (n:=7) (A:=X.A.in1) (λx y b O P u v g1 g2 g3 g4 g5=>av I 7 X.A.in1 x y b O P u v (by rw[IT];lia) g1 g2 g3 g4 g5) h a2 b2 J yk;exact⟨ue p E (by lia) he,RcNeAt.tuples p E (by lia) he⟩
  ·have hf:Ml x y=some b:=by
    cases x <;> cases y <;> first | exact h | exact(ht ⟨_,_,rfl,rfl⟩).elim
   exact(Q4 I (by lia) hf Q R T U).2
 ·rename_i Y h1 h2
  obtain⟨p,vs,rfl,Z,sq⟩:=Mb hs Q h1;cases T;obtain⟨C,J,l,_⟩:=I.list sq;split at h
  ·cases h
   cases R with
   | tup b1 b2=>
    cases U;obtain⟨L,yk,E,_⟩:=I.tuple (.inl (.inl b1));exact⟨RcAt.list_tuple l.isList E (by lia),RcNeAt.list_tuple l.isList E (by lia)⟩
  ·cases h
   cases R;cases U;exact⟨RcAt.list_none l.isList (by lia),RcNeAt.list_none l.isList (by lia)⟩
  ·cases h
 ·rename_i Y h1 h2
  obtain⟨p,vs,rfl,Z,sq⟩:=Mb hs R h2;cases U;obtain⟨C,J,l,_⟩:=I.list sq;split at h
  ·cases h
   cases Q with
   | tup b1 b2=>
    cases T;obtain⟨L,yk,E,_⟩:=I.tuple (.inl (.inl b1));exact⟨RcAt.tuple_list E l.isList (by lia),RcNeAt.tuple_list E l.isList (by lia)⟩
  ·cases h
   cases Q;cases T;exact⟨RcAt.none_list l.isList (by lia),RcNeAt.none_list l.isList (by lia)⟩
  ·cases h
def Gm(o:X.A.units+64 < EY):OpR X (CS .Eq) (rD X.K (eqD false)):=by
 intro ζ s σ H x y v u Q I B C h;obtain⟨ρ,S,a,b,d,L,m,E,G,l,k⟩:=h;unfold eqD at l;split at l
 ·rename_i c J
  cases l;exact(kQ I o m E G B C J).1 _ _ _ _ ⟨.bl c,H,I,rfl,k ρ H _ .refl m (.bl _)⟩
 ·cases l
def cL(o:X.A.units+64 < EY):OpR X (CS .NotEq) (rD X.K (eqD true)):=by
 intro ζ s σ H x y v u Q I B C h;obtain⟨ρ,S,a,b,d,L,m,E,G,l,k⟩:=h;unfold eqD at l;split at l
 ·rename_i c J
  cases l;exact(kQ I o m E G B C J).2 _ _ _ _ ⟨.bl (!c),H,I,rfl,k ρ H _ .refl m (.bl _)⟩
 ·cases l
def Ot(x:D):List D->Option Bool
 | []=>some false
 | d :: l=>match eqP 8 d x,Ot x l with
  | some a,some b=>some (a||b)
  | _,_=>none
def inD(neg:Bool)(x y:D)(S:Sto):Res D:=match GD y S with
 | some l=>match Ot x l with
  | some b=>.ok (.bl (if neg then !b else b)) S
  | none=>.bad
 | none=>.bad
def bI(h:Ot x (d :: ds)=some b):∃a c,eqP 8 d x=some a/\Ot x ds=some c/\b=(a||c):=by
 unfold Ot at h;split at h
 ·rename_i a c l m
  cases h;exact⟨a,c,l,m,rfl⟩
 ·cases h
open Classical in
def QO(I:Inv X ζ σ H s)(Q:A.units+8 < EY)(R:CB X.K ρ H x S)(T:RelV S v):∀{ds:List D} {vs:List V} {us:List AI} {b:Bool},A9 X.K ρ H ds vs->CQ vs us->Ot x ds=some b ->
  ∃e:AI->Bool,(∀y∈us,EqAt A s y v (e y))/\b=us.any e:=by
 intro ds vs us b r q h
 let e:AI->Bool:=λy=>decide (∃d w,d∈ds/\CB X.K ρ H d w/\RelV w y/\eqP 8 d x=some true)
 have all:∀{m:List D} {B:List V} {l:List AI} {C:Bool},(∀d∈m,d∈ds)->A9 X.K ρ H m B->CQ B l->Ot x m=some C->(∀y∈l,EqAt A s y v (e y))/\C=l.any e:=by
  intro m
  induction m with
  | nil=>intro B l C _ r q h;cases r;cases q;cases h;exact⟨(λ_ z=>nomatch z),rfl⟩
  | cons d m U=>
   intro B l C N r q h
   cases r with
   | cons G Y=>
    cases q with
    | @cons w y _ _ J Z=>
     obtain⟨a,c,L,h2,rfl⟩:=bI h;obtain⟨i1,i2⟩:=U (λz o=>N z (AQ _ o)) Y Z h2
     have O:e y=a:=by
      by_cases E:∃d w,d∈ds/\CB X.K ρ H d w/\RelV w y/\eqP 8 d x=some true
      ·obtain⟨d',w',_,P,g2,g3⟩:=id E
       rw[RelV.inj g2 J]at P;have:=pD 8 P G g3 L;rw[<-this];exact wX E
      ·have:a=false:=by
        cases a with
        | false=>rfl
        | true=>exact(E ⟨d,_,N d AW,G,J,L⟩).elim
       rw[this];exact wY E
     refine⟨λz o=>?_,by rw[JI,O,<-i2]⟩
     rcases Ai.mp o with rfl | o
     ·rw[O]
      exact av I 8 A d x a _ _ _ _ Q L G R J T
     ·exact i1 z o
 obtain⟨e1,e2⟩:=all (λ_ h=>h) r q h;exact⟨e,e1,e2⟩
def ve(U:X.A.units+64 < EY):OpR X (CS .In) (rD X.K (inD false)):=by
 intro ζ s σ H x y v u Q I J P h;obtain⟨ρ,S,a,b,d,Y,m,L,R,l,k⟩:=h;unfold inD at l;split at l
 ·rename_i Z T
  split at l
  ·rename_i c N
   cases l;obtain⟨p,xs,rfl,O,sq⟩:=P0 m R T;cases P
   rcases sq with sq | sq
   ·obtain⟨o,B,C,_⟩:=I.list sq
    obtain⟨e,E,rfl⟩:=QO I (A:=X.A.in1) (by rw[IT];lia) L J O B N;exact in_listAt e C.isList (λz G=>E z (by simpa using G)) ⟨.bl (o.toArray.any e),H,I,rfl,by rw[M2];exact k ρ H _ .refl m (.bl _)⟩
   ·obtain⟨o,B,C,_⟩:=I.tuple sq
    obtain⟨e,E,rfl⟩:=QO I (A:=X.A.in1) (by rw[IT];lia) L J O B N;exact in_tupleAt e C (λz G=>E z (by simpa using G)) ⟨.bl (o.toArray.any e),H,I,rfl,by rw[M2];exact k ρ H _ .refl m (.bl _)⟩
  ·cases l
 ·cases l
def YY(U:X.A.units+64 < EY):OpR X (CS .NotIn) (rD X.K (inD true)):=by
 intro ζ s σ H x y v u Q I J P h;obtain⟨ρ,S,a,b,d,Y,m,L,R,l,k⟩:=h;unfold inD at l;split at l
 ·rename_i Z T
  split at l
  ·rename_i c N
   cases l;obtain⟨p,xs,rfl,O,sq⟩:=P0 m R T;cases P
   rcases sq with sq | sq
   ·obtain⟨o,B,C,_⟩:=I.list sq
    obtain⟨e,E,rfl⟩:=QO I (A:=X.A.in1) (by rw[IT];lia) L J O B N;exact notIn_listAt e C.isList (λz G=>E z (by simpa using G)) ⟨.bl (!o.toArray.any e),H,I,rfl,by rw[M2];exact k ρ H _ .refl m (.bl _)⟩
   ·obtain⟨o,B,C,_⟩:=I.tuple sq
    obtain⟨e,E,rfl⟩:=QO I (A:=X.A.in1) (by rw[IT];lia) L J O B N;exact notIn_tupleAt e C (λz G=>E z (by simpa using G)) ⟨.bl (!o.toArray.any e),H,I,rfl,by rw[M2];exact k ρ H _ .refl m (.bl _)⟩
  ·cases l
 ·cases l
end
def Tr(mo ma:ME):ME:=λe S=>(mo e S).bind λd l=>match d with
 | .ref n=>match l[n]? with
  | some (.lst _)=>(ma e l).bind λy m=>match m[n]? with
   | some (.lst o)=>if o.length < sizeLine then .ok .non (m.set n (.lst (o++[y])))else .bad
   | _=>.bad
  | _=>.bad
 | _=>.bad
section
variable{X:Cx}{E:EW}{o e:Expr}{mo ma:ME}
def cF{K}{ρ}{S}{H}{n}{x}{xs}(s:CV K ρ S H)(r:CB K ρ H (.ref n) x)(h:S[n]?=some (.lst xs)):∃a vs,x=.ref a/\ρ[n]?=some a/\H a=some (.lst vs)/\A9 K ρ H xs vs:=by
 cases r with
 | ref l=>
  obtain⟨vs,e,m⟩:=s.ob n _ _ h l;exact⟨_,vs,rfl,l,e,m⟩
def Lg(ho:GE X E o mo)(Z:GE X E e ma)(xV:Gi o "append" X.env (Cd o X.env)=Cd o X.env:=by rfl)
  (zp:((ER B (AY [e] X.env)).all (λx=>!x.1)&&(Zb B (QV [] X.env)).all (λx=>x.1.isSome)
    &&decide ([e].length+([]:List ZP).length+(if ([]:List ZP).isEmpty then 0 else 1) < 30))=true:=by rfl)
  (xW:(A.endLine==B.line)=true:=by rfl) (C:AY [e] X.env=(false,Cd e X.env) :: AY [] X.env:=by rfl) (yc:(ER B (AY [] X.env)).any (·.1)=false:=by rfl) :
  GE X E (.Call (.Attribute o "append" A) [e] [] B) (Tr mo ma):=(p8 VN PySem.F.slot_list_append PySem.F.type_list_append Vj ho (Fe Z IP C) xV zp xW C yc).imp<|by
 rintro σ H Q ⟨ρ,l,S,N,C,m⟩
 refine⟨ρ,l,S,N,C,m.seq λx S1 m G H1 v I O r1=>?_⟩
 cases x <;> first | exact m.elim | skip
 rename_i n;dsimp only at m;split at m
 ·rename_i xs0 h0
  obtain⟨a,vs,rfl,hn,e0,_⟩:=cF O r1 h0;refine⟨.inl ⟨rfl,vs,.inl (.inl e0)⟩,G,l,S1,N.mono I,O,(m.later I).seq λy S2 m s P u R T r2=>?_⟩;split at m
  ·rename_i xs h3
   split at m
   ·rename_i hz
    have J:=R.pre n a hn;obtain⟨L,U,Y⟩:=T.ob n _ _ h3 J;have le:Le X.K s P s (upd P a (.lst (L++[u]))):=Le.write J (by rw[U];trivial);obtain⟨s3,l3⟩:=T.write (ho:=.lst (L++[u])) (o:=.lst (xs++[y])) J ⟨_,CG,(Y.append (.cons r2 .nil)).mono le⟩ le;exact⟨a,L,u,rfl,rfl,U,by rw[<-Y.length];exact hz,m s _ _ (I.trans (R.trans l3)) s3 .non⟩
   ·exact m.elim
  ·exact m.elim
 ·exact m.elim
end
def An{l β:Type}[DecidableEq l](m:List (l×β))(k:l):Option β:=(m.find? λo=>decide (o.1=k)).map (·.2)
noncomputable def CK{m o:Type}[DecidableEq m](s:List (m×o))(k:m)(v:o):List (m×o):=
 if (s.any λl=>decide (l.1=k))=true then s.map (λl=>if l.1=k then(l.1,v)else l)else s++[(k,v)]
section
variable{κ:Type}[DecidableEq κ]{K:AE}{ρ:List AT}{H:Hp}
theorem KVR.val(k:κ):∀{x:List (κ×D)} {y:List (κ×V)},KVR K ρ H x y->(An x k=none->Lx y k=none)/\∀d,An x k=some d->∃v,Lx y k=some v/\CB K ρ H d v
 | _,_,.nil=>⟨λ_=>rfl,λd h=>by cases h⟩
 | (g,a) :: x,(o,b) :: y,.cons r t=>by
  obtain⟨l,m⟩:=r;dsimp only at l m;subst l;unfold An Lx;rw[Cc,Cc]
  by_cases e:g=k
  ·simp only[e,decide_true]
   exact⟨(λh=>nomatch h),(λd h=>by cases h;exact⟨b,rfl,m⟩)⟩
  ·simp only[e,decide_false]
   exact KVR.val k t
theorem KVR.any(k:κ):∀{x:List (κ×D)} {y:List (κ×V)},KVR K ρ H x y->(x.any λl=>decide (l.1=k))=y.any λl=>decide (l.1=k)
 | _,_,.nil=>rfl
 | (g,a) :: x,(m,b) :: y,.cons r t=>by
  rw[JI,JI,KVR.any k t,show g=m from r.1]
theorem KVR.repl(k:κ)(m:CB K ρ H d v):∀{x:List (κ×D)} {y:List (κ×V)},KVR K ρ H x y->KVR K ρ H (x.map λl=>if l.1=k then(l.1,d)else l) (y.map λl=>if l.1=k then(l.1,v)else l)
 | _,_,.nil=>.nil
 | (g,a) :: x,(A,b) :: y,.cons r t=>by
  obtain⟨o,s⟩:=r;dsimp only at o s;subst o;rw[As,As];refine .cons ?_ (KVR.repl k m t)
  by_cases e:g=k
  ·rw[qX e,qX e];exact⟨rfl,m⟩
  ·rw[qY e,qY e];exact⟨rfl,s⟩
def KVR.put(k:κ)(l:CB K ρ H d v)(h:KVR K ρ H x y):KVR K ρ H (CK x k d) (NA y k v):=by
 unfold CK NA;rw[KVR.any k h];split
 ·exact KVR.repl k l h
 ·exact ZM h ⟨rfl,l⟩
end
noncomputable def je:D->Option Key
 | .int i=>some (.inl i)
 | .str x=>some (.inr x)
 | _=>none
def Os:List D->Option (List Key)
 | []=>some []
 | d :: l=>match je d,Os l with
  | some k,some m=>some (k :: m)
  | _,_=>none
def SM{K}{ρ}{H}{d}{v}{k}(r:CB K ρ H d v)(h:je d=some k):v=kV k:=by
 cases r <;> first | (cases h;done) | (cases h;rfl)
theorem QG{K}{ρ}{H}:∀{ds:List D} {vs:List V} {l:List Key},A9 K ρ H ds vs->Os ds=some l->vs=l.map kV
 | _,_,_,.nil,h=>by cases h;rfl
 | _,_,_,.cons r t,h=>by
  unfold Os at h;split at h
  ·rename_i k l m o
   cases h;rw[SM r m,QG t o];rfl
  ·cases h
def NC(x y:D)(S:Sto):Option (Option D):=match x with
 | .ref n=>match S[n]? with
  | some (.dK l)=>match je y with
   | some k=>some (An l k)
   | none=>none
  | some (.dT l)=>match y with
   | .tup m=>match Os m with
    | some o=>some (An l o)
    | none=>none
   | _=>none
  | some (.fK l)=>match je y with
   | some k=>some (An l k)
   | none=>none
  | some (.fT l)=>match y with
   | .tup m=>match Os m with
    | some o=>some (An l o)
    | none=>none
   | _=>none
  | _=>none
 | _=>none
def XG{K}{ρ}{S}{H}{x y}{P Q}{o}(s:CV K ρ S H)(R:CB K ρ H x P)(I:CB K ρ H y Q)(h:NC x y S=some o) :
  ∃a o',P=.ref a/\QS H a Q o'/\(o=none->o'=none)/\∀d,o=some d->∃v,o'=some v/\CB K ρ H d v:=by
 unfold NC at h;split at h
 ·rename_i n
  cases R with
  | @ref _ a J=>
   split at h
   ·rename_i L l
    split at h
    ·rename_i k m
     cases h;obtain⟨A,e,r⟩:=s.ob n _ _ l J;rw[SM I m];obtain⟨B,C⟩:=KVR.val k r;exact⟨a,Lx A k,rfl,QS.k e,B,C⟩
    ·cases h
   ·rename_i L l
    split at h
    ·rename_i T
     split at h
     ·rename_i E m
      cases h;obtain⟨A,e,r⟩:=s.ob n _ _ l J
      cases I with
      | tup G N=>
       obtain⟨B,C⟩:=KVR.val E r;rw[QG N m]at G;exact⟨a,Lx A E,rfl,QS.t e G,B,C⟩
     ·cases h
    ·cases h
   ·rename_i L l
    split at h
    ·rename_i k m
     cases h;obtain⟨O,A,e,r⟩:=s.ob n _ _ l J;rw[SM I m];obtain⟨B,C⟩:=KVR.val k r;exact⟨a,Lx A k,rfl,(.inl ⟨_,_,.inr ⟨O,e⟩,rfl,rfl⟩),B,C⟩
    ·cases h
   ·rename_i L l
    split at h
    ·rename_i T
     split at h
     ·rename_i E m
      cases h;obtain⟨O,A,e,r⟩:=s.ob n _ _ l J
      cases I with
      | tup G N=>
       obtain⟨B,C⟩:=KVR.val E r;rw[QG N m]at G;exact⟨a,Lx A E,rfl,(.inr ⟨_,_,_,.inr ⟨O,e⟩,rfl,G,rfl⟩),B,C⟩
     ·cases h
    ·cases h
   ·cases h
 ·cases h
def UP(x y:D)(S:Sto):Res D:=match NC x y S with
 | some (some d)=>.ok d S
 | _=>.bad
def Od(neg:Bool)(y x:D)(S:Sto):Res D:=match NC x y S with
 | some o=>.ok (.bl (if neg then !o.isSome else o.isSome)) S
 | none=>.bad
section
variable{X:Cx}{E:EW}{mo mi mv:ME}
def oq(O:X.A.units+1 < EY)(ho:GE X E o mo)(hi:GE X E i mi)(s:uJ i:=by intro _ _;rfl):GE X E (.Subscript o i pos) (m2 UP mo mi):=(nY O ho hi s).imp λP H Q h=>by
 refine(O3 h:tOp (rD X.K UP) (gE X.K E mo) (gE X.K E mi) P H Q) |> λt=>?_
 obtain⟨R,l,S,T,s,k⟩:=t;refine⟨R,l,S,T,s,k.imp λx S1 k B U u Y Z r1=>?_⟩;obtain⟨C,l2,S2,yU,yj,G⟩:=k B U u Y Z r1;refine⟨C,l2,S2,yU,yj,G.imp λy S3 G I L v l3 s3 r3=>?_⟩;obtain⟨J,S4,x4,y4,d,S5,N,r4,r5,m,k4⟩:=G I L v l3 s3 r3;unfold UP at m;split at m
 ·rename_i d' hd
  cases m;obtain⟨a,o',rfl,g,_,g2⟩:=XG N r4 r5 hd;obtain⟨w',rfl,yk⟩:=g2 _ rfl;exact⟨a,w',rfl,g,k4 J L w' .refl N yk⟩
 ·cases m
def me{σ}{H}{Q}(h:gE X.K E (m2 (Od false) mi mo) σ H Q):u8 (gE X.K E mi) (gE X.K E mo) σ H Q:=by
 obtain⟨N,l,S,O,P,k⟩:=(O3 h:tOp (rD X.K (Od false)) (gE X.K E mi) (gE X.K E mo) σ H Q);refine⟨N,l,S,O,P,k.imp λx S1 k o R u T U Y=>?_⟩;obtain⟨s,Z,S2,yU,yj,A⟩:=k o R u T U Y;refine⟨s,Z,S2,yU,yj,A.imp λy S3 A B G v l3 s3 r3=>?_⟩;obtain⟨C,S4,x4,y4,d,S5,I,r4,r5,m,k4⟩:=A B G v l3 s3 r3;unfold Od at m;split at m
 ·rename_i J hd
  cases m;obtain⟨a,L,rfl,g,g1,g2⟩:=XG I r5 r4 hd;refine⟨a,L,rfl,g,?_⟩
  have:L.isSome=J.isSome:=by
   cases J with
   | none=>rw[g1 rfl];rfl
   | some d=>obtain⟨w',rfl,_⟩:=g2 d rfl;rfl
  rw[this];exact k4 C G _ .refl I (.bl _)
 ·cases m
def TD{σ}{H}{Q}(h:gE X.K E (m2 (Od true) mi mo) σ H Q):cB (gE X.K E mi) (gE X.K E mo) σ H Q:=by
 obtain⟨N,l,S,O,P,k⟩:=(O3 h:tOp (rD X.K (Od true)) (gE X.K E mi) (gE X.K E mo) σ H Q);refine⟨N,l,S,O,P,k.imp λx S1 k o R u T U Y=>?_⟩;obtain⟨s,Z,S2,yU,yj,A⟩:=k o R u T U Y;refine⟨s,Z,S2,yU,yj,A.imp λy S3 A B G v l3 s3 r3=>?_⟩;obtain⟨C,S4,x4,y4,d,S5,I,r4,r5,m,k4⟩:=A B G v l3 s3 r3;unfold Od at m;split at m
 ·rename_i J hd
  cases m;obtain⟨a,L,rfl,g,g1,g2⟩:=XG I r5 r4 hd;refine⟨a,L,rfl,g,?_⟩
  have:L.isSome=J.isSome:=by
   cases J with
   | none=>rw[g1 rfl];rfl
   | some d=>obtain⟨w',rfl,_⟩:=g2 d rfl;rfl
  rw[this];exact k4 C G _ .refl I (.bl _)
 ·cases m
def fJ(l:X.A.units+1 < EY)(hi:GE X E i mi)(ho:GE X E o mo)(m:Cq .NotIn o=false:=by rfl):GE X E (.Compare i [.NotIn] [o] pos) (m2 (Od true) mi mo):=(sE (Ve l hi ho) m).imp λ_ _ _ h=>TD h
def jR{K}{m}{σ}{H}{Q}(h:gT K E (mB m) σ H Q):gE K E m σ H λx H1=>∃c,x=.bl c/\Q c H1:=by
 obtain⟨A,l,S,B,C,o⟩:=h;refine⟨A,l,S,B,C,o.seq λd L o s H1 x G I J=>?_⟩
 cases d <;> first | exact o.elim | skip
 cases J;exact⟨_,rfl,o s H1 G I⟩
def tJ(l:X.A.units+1 < EY)(hi:GE X E i mi)(ho:GE X E o mo)(m:Cq .In o=false:=by rfl):GT X E (.Compare i [.In] [o] pos) (mB (m2 (Od false) mi mo)):=(ij (sJ l hi ho) m).imp λ_ _ _ h=>me (jR h)
def fH(l:X.A.units+1 < EY)(hi:GE X E i mi)(ho:GE X E o mo)(m:Cq .NotIn o=false:=by rfl):GT X E (.Compare i [.NotIn] [o] pos) (mB (m2 (Od true) mi mo)):=(ij (Ve l hi ho) m).imp λ_ _ _ h=>TD (jR h)
def Jy:ME:=λ_ S=>.ok (.ref S.length) (S++[.dK []])
def Qz:ME:=λ_ S=>.ok (.ref S.length) (S++[.dT []])
def Nz:GE X E (.Dict [] [] pos) Jy:=(iy (X:=X) (pos:=pos)).imp<|by
 rintro G H Q ⟨I,l,S,J,s,k⟩ p A
 obtain⟨B,C,m⟩:=s.alloc (ho:=.dK []) (o:=.dK []) A ⟨[],CG,.nil⟩;exact k _ _ _ C B (.ref m)
def UG:GE X E (.Dict [] [] pos) Qz:=(iw (X:=X) (pos:=pos)).imp<|by
 rintro G H Q ⟨I,l,S,J,s,k⟩ p A
 obtain⟨B,C,m⟩:=s.alloc (ho:=.dT []) (o:=.dT []) A ⟨[],CG,.nil⟩;exact k _ _ _ C B (.ref m)
def RB(x y v:D)(S:Sto):Option Sto:=match x with
 | .ref n=>match S[n]? with
  | some (.dK l)=>match je y with
   | some k=>if l.length < sizeLine then some (S.set n (.dK (CK l k v)))else none
   | none=>none
  | some (.dT l)=>match y with
   | .tup m=>match Os m with
    | some o=>if l.length < sizeLine then some (S.set n (.dT (CK l o v)))else none
    | none=>none
   | _=>none
  | _=>none
 | _=>none
def DB(mo mi mv:ME):MS:=λe S=>(mv e S).lift e λv l=>(mo e l).lift e λx m=>(mi e m).lift e λy o=>match RB x y v o with
 | some s=>.ok (.nx e) s
 | none=>.bad
def Hj(hu:X.A.units+1 < EY)(ho:GE X E o mo)(hi:GE X E i mi)(hv:GE X E value mv)(hs:HI value (some (.Subscript o i L)) pos.line X.env=pure false:=by rfl):GS X E (.Assign [.Subscript o i L] value pos) (DB mo mi mv):=(nM hu ho hi hv hs).imp<|by
 rintro D σ H ⟨ρ,l,S,I,hs,B⟩
 refine⟨ρ,l,S,I,hs,B.lift I .refl λv S1 B ρ1 H1 T C s1 r1=>⟨ρ1,l,S1,I.mono C,s1,(B.later C).lift (I.mono C) C λx S2 B ρ2 H2 xv G s2 r2=>⟨ρ2,l,S2,I.mono (C.trans G),s2,(B.later G).lift (I.mono (C.trans G)) (C.trans G) λy S3 B s U yv N Y r3=>?_⟩⟩⟩;have O:=r1.mono (G.trans N);have r2':=r2.mono N;have P:=I.mono (C.trans (G.trans N));split at B
 ·rename_i S4 m
  unfold RB at m;split at m
  ·rename_i n
   cases r2' with
   | @ref _ a J=>
    split at m
    ·rename_i i' h4
     split at m
     ·rename_i Z hk
      split at m
      ·rename_i hz
       cases m;obtain⟨Q,e,r⟩:=Y.ob n _ _ h4 J;rw[SM r3 hk];have le:Le X.K s U s (upd U a (.dK (NA Q Z T))):=Le.write J (by rw[e];trivial);obtain⟨s5,R⟩:=Y.write (ho:=.dK (NA Q Z T)) (o:=.dK (CK i' Z v)) J ⟨_,CG,(KVR.put Z O r).mono le⟩ le;exact⟨a,_,rfl,ZE.k e (by rw[<-KVR.length r];exact hz),B s _ σ (C.trans (G.trans (N.trans R))) s5 (P.mono R)⟩
      ·cases m
     ·cases m
    ·rename_i i' h4
     split at m
     ·rename_i ds
      split at m
      ·rename_i ks hk
       split at m
       ·rename_i hz
        cases m;obtain⟨Q,e,r⟩:=Y.ob n _ _ h4 J
        cases r3 with
        | tup b1 b2=>
         rw[QG b2 hk]at b1;have le:Le X.K s U s (upd U a (.dT (NA Q ks T))):=Le.write J (by rw[e];trivial);obtain⟨s5,R⟩:=Y.write (ho:=.dT (NA Q ks T)) (o:=.dT (CK i' ks v)) J ⟨_,CG,(KVR.put ks O r).mono le⟩ le;exact⟨a,_,rfl,ZE.t e b1 (by rw[<-KVR.length r];exact hz),B s _ σ (C.trans (G.trans (N.trans R))) s5 (P.mono R)⟩
       ·cases m
      ·cases m
     ·cases m
    ·cases m
  ·cases m
 ·exact B.elim
end
section
variable{X:Cx}{E:EW}{a b c:Expr}{pos:Pos}
def dr{K}{f g}{σ}{H}{Q}(h:gE K E (m3 f g ma mb Y) σ H Q):iK (rD K f) (rD K g) (gE K E ma) (gE K E mb) (gE K E Y) σ H Q:=by
 obtain⟨Z,l,S,G,hs,m⟩:=h;refine⟨Z,l,S,G,hs,m.seq λx S1 m I H1 u o s1 r1=>⟨I,l,S1,G.mono o,s1,(m.later o).seq λy O m J H2 v s s2 P=>?_⟩⟩
 cases C:f x y O with
 | bad=>rw[C]at m;exact m.elim
 | err _ _=>rw[C]at m;exact m.elim
 | ok z R=>
  rw[C]at m;dsimp only[okR,Res.bind]at m;refine⟨J,O,x,y,z,R,s2,r1.mono s,P,C,λA H3 w B T r3=>?_⟩
  cases z with
  | bl k=>
   cases r3;refine⟨k,rfl,?_⟩
   cases k with
   | true=>
    rw[qX rfl];refine⟨A,l,R,G.mono (o.trans (s.trans B)),T,CO.seq (m.later (s.trans B)) λw S4 m L H4 wv U s4 r4=>?_⟩;obtain⟨d,S',e,k⟩:=m.okR;exact⟨L,S4,y,w,d,S',s4,P.mono (B.trans U),r4,e,λN H' z l' s' r'=>k N H' z (o.trans (s.trans (B.trans (U.trans l')))) s' r'⟩
   | false=>rw[qY AH];exact m A H3 _ (o.trans (s.trans B)) T (.bl false)
  | _=>exact m.elim
def UD(ho:OpR X (CS op) (rD X.K f))(m:OpR X (CS l) (rD X.K g))(o:GE X E a ma)(hb:GE X E b mb)(s:GE X E c A)
  (B:lastMarks [op,l] [b,c]=false:=by with_unfolding_all rfl):GT X E (.Compare a [op,l] [b,c] pos) (mB (m3 f g ma mb A)):=(ik ho m o hb s B).imp λ_ _ _ h=>dr (jR h)
def aW(m:ME):ME:=λe S=>(m e S).bind λd l=>match d with
 | .int i=>.ok (.int (-i)) l
 | _=>.bad
def W8(h:GE X E a ma):GE X E (.UnaryOp .USub a pos) (aW ma):=(vS qu h).imp<|by
 rintro L H Q ⟨s,l,S,A,B,m⟩
 refine⟨s,l,S,A,B,m.seq λd N m o C x G I J=>?_⟩
 cases d <;> first | exact m.elim | skip
 cases J;exact⟨_,rfl,m o C _ G I (.int _)⟩
end
section
variable{X:Cx}{E:EW}{e:Expr}{p pos:Pos}{m:ME}
def JL(m:ME):ME:=λe S=>(m e S).bind λd l=>match GD d l with
 | some o=>.ok (.tup o) l
 | none=>.bad
def Ld(Y:Gl X "tuple") (B:X.mg "tuple" = none) (h:GE X E e m) (R:AY [e] X.env=(false,Cd e X.env) :: AY [] X.env:=by rfl):GE X E (.Call (.Name "tuple" p) [e] [] pos) (JL m):=
 (Qt U9 Y B wx (Fe h IP R) (by decide) (by decide) R rfl).imp<|by
 rintro σ H Q ⟨Z,l,S,hl,hs,B⟩
 refine⟨Z,l,S,hl,hs,B.seq λd S1 B I C x T L r1=>?_⟩
 cases s:GD d S1 with
 | none=>rw[s]at B;exact B.elim
 | some ds=>
  rw[s]at B
  have G:∀a A,x=.ref a->SqL X.K C a A->A9 X.K I C ds A->∃p N,[x]=[.ref p]/\((SqL X.K C p N/\∀l,C l=none->Q (.ref l) (upd C l (.tup N)))∨(SqT X.K C p N/\Q (.ref p) C)):=λa A e sq O=>by
   subst e;refine⟨a,A,rfl,.inl ⟨sq,λq s=>?_⟩⟩;obtain⟨s2,U⟩:=JX (ho:=.tup A) L s;exact B _ _ _ (T.trans U) s2 (.tup CG (O.mono U))
  cases r1 with
  | @tup _ a A J P=>cases s;exact⟨a,A,rfl,.inr ⟨.inl (.inl J),B I C _ T L (.tup J P)⟩⟩
  | @fro _ a A J P=>cases s;exact G a A rfl J.sq P
  | @ref n a hn=>
   obtain⟨o,ho,ro⟩:=L.there hn;unfold GD at s;simp only[ho]at s
   cases o with
   | lst es=>cases s;obtain⟨A,e,O⟩:=ro;exact G a A rfl (.inl (.inl e)) O
   | _=>cases s
  | _=>cases s
variable{o:Expr}
def atL(d:D)(S:Sto):Option (Nat×List D):=match d with
 | .ref n=>match S[n]? with
  | some (.lst l)=>some (n,l)
  | _=>none
 | _=>none
def UX{K}{ρ}{S}{H}{d}{x}{n}{xs}(s:CV K ρ S H)(r:CB K ρ H d x)(h:atL d S=some (n,xs)):d=.ref n/\S[n]?=some (.lst xs)/\∃a vs,x=.ref a/\ρ[n]?=some a/\H a=some (.lst vs)/\A9 K ρ H xs vs:=by
 unfold atL at h;split at h
 ·split at h
  ·rename_i A l
   cases h;exact⟨rfl,l,cF s r l⟩
  ·cases h
 ·cases h
def cJ{K}{ρ}{S}{H}{n}{a}{vs l}{A}(s:CV K ρ S H)(B:ρ[n]?=some a)(e:H a=some (.lst vs))(r:A9 K ρ H A l) :
  CV K ρ (S.set n (.lst A)) (upd H a (.lst l))/\Le K ρ H ρ (upd H a (.lst l)):=by
 have le:Le K ρ H ρ (upd H a (.lst l)):=Le.write B (by rw[e];trivial);exact s.write (ho:=.lst l) (o:=.lst A) B ⟨_,CG,r.mono le⟩ le
end
section
variable{X:Cx}
def range_getD{l:Type}(d:l)(bs:List l):(B1 bs.length).map (λi=>bs.getD i d)=bs:=by
 apply Fy
 intro i;rw[Ac]
 by_cases h:i < bs.length
 ·rw[Cu h]
  simp[List.getD,h]
 ·rw[Cr.mpr (by simpa using h),Cr.mpr (by simpa using h)]
  rfl
def mR{bs:List Bool}{l:List AI}(r:CQ (bs.map V.bl) l){i:Nat}{v:AI}(h:l.toArray[i]?=some v):v=.bool (bs.getD i false):=by
 have m:l[i]?=some v:=by simpa using h
 obtain⟨A,e⟩:=AG.mp m
 have hb:i < bs.length:=by have:=r.length;simp at this;lia
 obtain⟨u,o,s⟩:=r.get (show(bs.map V.bl)[i]?=some (V.bl bs[i]) by simp[hb]);rw[m]at o;cases o;rw[show v=M6 bs[i]from s];simp[List.getD,hb]
def ig(K:AE)(f:List Bool->Bool):List V->Hp->VK->Prop:=λl H Q=>∃p bs,l=[.ref p]/\(SqL K H p (bs.map V.bl)∨SqT K H p (bs.map V.bl))/\Q (.bl (f bs)) H
def az{N:List (AT×Obj)}{s:AK}{σ:St}{H:Hp}{p:AT}{bs:List Bool}{R:AI->AK->Prop}{E:AI->AK->Prop}(U:X.calm=true)(I:Inv X N σ H s)(B:SqL X.K H p (bs.map V.bl)∨SqT X.K H p (bs.map V.bl))
  (h:∀C L,(∃I fp wr n P St O,C=BB I/\Walks X.prog X.w X.A.in1 I fp wr n P St/\St 0 L.heap/\TruthOf X.prog X.w X.A.in1 P O/\(B1 n).map O=bs /\
   ∀(h':DA) (tk:Nat),(∀b o,¬b∈wr->L.heap.get? b=some o->h'.get? b=some o)->Inv X N σ H { L with heap:=h',toks:=tk })->R C L) :
  Am (Ag X.prog X.w) X.A.in1 (gV (.ref p)) R E s:=by
 have S:X.A.in1.handled=none:=I.ok.hd U
 have fin:∀(l:List AI),CQ (bs.map V.bl) l->(B1 l.toArray.size).map (λi=>bs.getD i false)=bs:=λl r=>by
  have:l.toArray.size=bs.length:=by have:=r.length;simp at this;simpa using this.symm
  rw[this,range_getD]
 have G:∀(l:List AI),CQ (bs.map V.bl) l->TruthOf X.prog X.w X.A.in1 (λi v=>l.toArray[i]?=some v) (λi=>bs.getD i false):=λl r i v s Q E Y q=>by
  rw[mR r Y];exact DC q
 have kp:∀(T:Obj) (h':DA) (tk:Nat),(∀b o,¬b∈[s.heap.objs.size]->(s.heap.push T).get? b=some o->h'.get? b=some o)->Inv X N σ H { s with heap:=h',toks:=tk }:=λT h' tk k=>
  I.kept λb o e=>k b o (by simpa using A0 (Ad e)) (AR _ e)
 rcases B with B | B
 ·obtain⟨l,J,m,Z⟩:=I.list B
  refine uL m.isList (h _ _ ⟨s.heap.objs.size,_,_,_,_,_,_,rfl,Walks.list S _ p (A0 (Ad m.isList.choose_spec.1)) l.toArray,⟨⟨_,Al _ rfl,rfl,rfl⟩,?_⟩,G l J,fin l J,kp _⟩)
  exact m.isList.at λo e=>AR _ e
 ·obtain⟨l,J,m,Z⟩:=I.tuple B
  have pt:s.heap.IsTuple p l.toArray:=m;refine IH pt (h _ _ ⟨s.heap.objs.size,_,_,_,_,_,_,rfl,Walks.tuple S _ p (A0 m.lt) l.toArray,⟨⟨_,Al _ rfl,rfl,rfl⟩,?_⟩,G l J,fin l J,kp _⟩);obtain⟨o,e,c⟩:=pt;exact⟨o,AR _ e,c⟩
def fq(m:X.calm=true):JU X (.builtin "all") (ig X.K λbs=>bs.all id):=by
 intro N s O H R S Q I r h;obtain⟨p,bs,rfl,o,q⟩:=h;obtain⟨u,rfl,A⟩:=vals1 r;cases A;refine call_all_walk (az m I o λB T ⟨J,C,wr,n,P,St,E,e,W,st,l,G,kp⟩=>⟨J,C,wr,n,P,St,E,e,W,st,l,λL tk k=>⟨.bl _,H,kp L tk k,rfl,?_⟩⟩);rw[<-G]at q;dsimp only at q;rw[RN]at q;exact q
noncomputable def bA:List D->Option (List Bool)
 | []=>some []
 | .bl b :: l=>(bA l).map (b :: ·)
 | _ :: _=>none
theorem dD{K}{ρ}{H}:∀{ds:List D} {vs:List V} {bs:List Bool},A9 K ρ H ds vs->bA ds=some bs->vs=bs.map V.bl
 | _,_,_,.nil,h=>by cases h;rfl
 | .bl b :: ds,_,bs,.cons r t,h=>by
  unfold bA at h
  cases l:bA ds with
  | none=>rw[l]at h;cases h
  | some m=>rw[l]at h;cases h;cases r;rw[dD t l];rfl
 | .non :: _,_,_,.cons r t,h=>by cases h
 | .int _ :: _,_,_,.cons r t,h=>by cases h
 | .str _ :: _,_,_,.cons r t,h=>by cases h
 | .tup _ :: _,_,_,.cons r t,h=>by cases h
 | .fro _ :: _,_,_,.cons r t,h=>by cases h
 | .ref _ :: _,_,_,.cons r t,h=>by cases h
 | .exc _ :: _,_,_,.cons r t,h=>by cases h
def pM(f:List Bool->Bool)(ds:List D)(S:Sto):Res D:=match bA ds with
 | some bs=>.ok (.bl (f bs)) S
 | none=>.bad
def iU:uI X.K (ig X.K f) (pM f):=λm H S A q B d C Q o s sq l k=>by
 unfold pM at l;split at l
 ·rename_i bs hb
  cases l;rw[dD s hb]at sq;exact⟨q,bs,rfl,sq,k m H _ .refl o (.bl _)⟩
 ·cases l
abbrev pS:=pM λbs=>bs.all id
def WV:ZLi->Int:=λl=>SW (λi=>l.getD i 0) l.length
theorem MQ:∀(n:Nat),(∀i,i < n->f i=g i)->SW f n=SW g n
 | 0,_=>rfl
 | n+1,h=>by
  show SW f n+f n=SW g n+g n;rw[MQ n λi l=>h i (by lia),h n (by lia)]
theorem RZ(x:Int)(f:Nat->Int):∀n:Nat,SW (λi=>match i with | 0=>x | j+1=>f j) (n+1)=x+SW f n
 | 0=>by show(0:Int)+x=x+0;lia
 | n+1=>by
  show SW _ (n+1)+f n=x+(SW f n+f n);rw[RZ x f n]
  lia
theorem WU:∀ns:ZLi,WV ns=ns.sum
 | []=>rfl
 | n :: ns=>by
  have:=WU ns;unfold WV at this ⊢;rw[Lm,<-this,Aj,<-RZ]
  refine MQ _ λi l=>?_
  cases i <;> simp
def U2{ns:ZLi}{l:List AI}(r:CQ (ns.map V.int) l):∃xs:Array (Int×Tok),l.toArray=intItems xs/\xs.size=ns.length/\∀i,i < ns.length->numAt xs i=ns.getD i 0:=by
 induction ns generalizing l with
 | nil=>
  cases r;exact⟨#[],by simp[intItems],rfl,λi m=>zX m (by simp)⟩
 | cons n ns s=>
  cases r with
  | cons A B=>
   obtain⟨xs,o,C,E⟩:=s B;obtain⟨t,rfl⟩:=A;refine⟨#[(n,t)]++xs,?_,by simp[C];lia,λi m=>?_⟩
   ·unfold intItems at o ⊢
    rw[Array.map_append,<-o];simp
   ·cases i with
    | zero=>
     unfold numAt;rw[Array.getElem?_append_left (by simp)];simp
    | succ i=>
     have:=E i (by simpa using m);unfold numAt at this ⊢;rw[Array.getElem?_append_right (by simp)];simpa using this
def vL(K:AE)(f:ZLi->Int):List V->Hp->VK->Prop:=λm H Q=>∃p l,m=[.ref p]/\SqL K H p (l.map V.int)/\Q (.int (f l)) H
def ff(l:X.calm=true):JU X (.builtin "sum") (vL X.K WV):=by
 intro L s N H xs O Q I r h;obtain⟨p,P,rfl,m,q⟩:=h;obtain⟨u,rfl,o⟩:=vals1 r;cases o;obtain⟨R,A,B,S⟩:=I.list m;obtain⟨xs,C,E,G⟩:=U2 A
 refine sum_intListG (xs:=xs) (I.ok.hd l) (by rw[<-C];exact B.isList) λT tk J kp=>⟨.int _,H,I.kept kp,⟨J,rfl⟩,?_⟩
 rw[E,MQ _ G];exact q
noncomputable def JS:List D->Option ZLi
 | []=>some []
 | .int b :: l=>(JS l).map (b :: ·)
 | _ :: _=>none
theorem Nt:∀{ds:List D} {ns:ZLi},JS ds=some ns->ds=ns.map D.int
 | [],_,h=>by cases h;rfl
 | .int b :: ds,ns,h=>by
  unfold JS at h
  cases l:JS ds with
  | none=>rw[l]at h;cases h
  | some m=>rw[l]at h;cases h;rw[Nt l];rfl
 | .non :: _,_,h=>by cases h
 | .bl _ :: _,_,h=>by cases h
 | .str _ :: _,_,h=>by cases h
 | .tup _ :: _,_,h=>by cases h
 | .fro _ :: _,_,h=>by cases h
 | .ref _ :: _,_,h=>by cases h
 | .exc _ :: _,_,h=>by cases h
def oP(m:ME):ME:=λe S=>(m e S).bind λd l=>match QC d l with
 | some o=>match JS o with
  | some s=>.ok (.int (WV s)) l
  | none=>.bad
 | none=>.bad
def tT(J:X.calm=true)(L:Gl X "sum") (o:X.mg "sum" = none) (h:GE X E e m) (C:AY [e] X.env=(false,Cd e X.env) :: AY [] X.env:=by rfl):GE X E (.Call (.Name "sum" p) [e] [] pos) (oP m):=
 (LU (ff J) L o wy (Fe h IP C) (by decide) (by decide) C rfl).imp<|by
 rintro σ H Q ⟨N,l,S,O,P,o⟩
 refine⟨N,l,S,O,P,o.seq λd R o s T x U G Y=>?_⟩
 cases A:QC d R with
 | none=>rw[A]at o;exact o.elim
 | some Z=>
  rw[A]at o;dsimp only at o
  cases B:JS Z with
  | none=>rw[B]at o;exact o.elim
  | some ns=>
   rw[B]at o;obtain⟨p,xs,rfl,I,sq⟩:=Mb G Y A;rw[Nt B]at I;rw[I.ints]at sq;exact⟨p,ns,rfl,sq,o s T _ U G (.int _)⟩
noncomputable def tyD(d:D)(S:Sto):Option String:=match d with
 | .non=>some "NoneType"
 | .bl _=>some "bool"
 | .int _=>some "int"
 | .str _=>some "str"
 | .tup _=>some "tuple"
 | .ref n=>match S[n]? with
  | some (.lst _)=>some "list"
  | some (.dK _)=>some "dict"
  | some (.dT _)=>some "dict"
  | _=>none
 | .fro _=>none
 | .exc _=>none
def qv{K}{ρ}{S}{H}{d}{x}{T}(s:CV K ρ S H)(r:CB K ρ H d x)(h:tyD d S=some T):QQ K H x (.type T):=by
 cases r with
 | non=>cases h;exact .non
 | bl b=>cases h;exact .bl b
 | int i=>cases h;exact .int i
 | str i=>cases h;exact .str i
 | tup C _=>cases h;exact .tup C
 | fro _ _=>cases h
 | exc _ _=>cases h
 | @ref n a E=>
  obtain⟨o,G,l⟩:=s.there E;unfold tyD at h;simp only[G]at h
  cases o with
  | lst m=>cases h;obtain⟨A,e,B⟩:=l;exact .lst e
  | dK m=>cases h;obtain⟨A,e,B⟩:=l;exact .dK e
  | dT m=>cases h;obtain⟨A,e,B⟩:=l;exact .dT e
  | ins _ _=>cases h
  | fK _=>cases h
  | fT _=>cases h
  | mem _=>cases h
end
def Jw{α:Type}(r l:Res α):Res α:=match r with
 | .bad=>l
 | r=>r
def ee{l:Type}(r r':Res l):Jw r r'=r∨Jw r r'=r':=by cases r <;> simp[Jw]
def op2(f g:D->D->Sto->Res D):D->D->Sto->Res D:=λx y S=>Jw (f x y S) (g x y S)
def cR(f g:D->D->Sto->Res D)(ma mb:ME)(l:Lo)(S:Sto):m2 (op2 f g) ma mb l S=m2 f ma mb l S∨m2 (op2 f g) ma mb l S=m2 g ma mb l S:=by
 unfold m2
 cases ma l S with
 | ok x o=>
  dsimp only[Res.bind]
  cases mb l o with
  | ok y m=>
   dsimp only[Res.bind];unfold op2
   rcases ee (f x y m) (g x y m)with e | e <;> rw[e] <;> simp
  | err c m=>exact .inl rfl
  | bad=>exact .inl rfl
 | err c o=>exact .inl rfl
 | bad=>exact .inl rfl
section
def j8{m o m2}(L:GE X E e o)(N:GE X E e m2)(h:∀l S,m l S=o l S∨m l S=m2 l S):GE X E e m:=by
 rintro A s B H Q I ⟨C,l,S,G,J,a⟩
 rcases h l S with q | q
 ·rw[q]at a;exact L A s B H Q I ⟨C,l,S,G,J,a⟩
 ·rw[q]at a;exact N A s B H Q I ⟨C,l,S,G,J,a⟩
def jv(G:GT X E e J)(L:GT X E e N)(h:∀l S,t l S=J l S∨t l S=N l S):GT X E e t:=by
 rintro m s o H Q I ⟨A,l,S,B,C,a⟩
 rcases h l S with q | q
 ·rw[q]at a;exact G m s o H Q I ⟨A,l,S,B,C,a⟩
 ·rw[q]at a;exact L m s o H Q I ⟨A,l,S,B,C,a⟩
def tS(G:GI X E tg e J)(L:GI X E tg e N)(h:∀l S,t l S=J l S∨t l S=N l S):GI X E tg e t:=by
 rintro m s o H R I ⟨A,l,S,B,C,a⟩
 rcases h l S with q | q
 ·rw[q]at a;exact G m s o H R I ⟨A,l,S,B,C,a⟩
 ·rw[q]at a;exact L m s o H R I ⟨A,l,S,B,C,a⟩
def qC{m o m2}(h:∀l S,m l S=o l S∨m l S=m2 l S)(l:Lo)(S:Sto):mB m l S=mB o l S∨mB m l S=mB m2 l S:=by
 unfold mB
 rcases h l S with q | q <;> rw[q] <;> simp
abbrev inA(neg:Bool):=op2 (inD neg) (Od neg)
def j4(m:X.A.units+64 < EY)(hi:GE X E i mi)(ho:GE X E o mo)(l:Cq .NotIn o=false:=by with_unfolding_all rfl):GE X E (.Compare i [.NotIn] [o] pos) (m2 (inA true) mi mo):=
 j8 (Me (YY m) hi ho l) (fJ (by lia) hi ho l) λ_ _=>cR _ _ _ _ _ _
def qH(m:X.A.units+64 < EY)(hi:GE X E i mi)(ho:GE X E o mo)(l:Cq .In o=false:=by with_unfolding_all rfl):GT X E (.Compare i [.In] [o] pos) (mB (m2 (inA false) mi mo)):=
 jv (Cp (ve m) hi ho l) (tJ (by lia) hi ho l) (qC λ_ _=>cR _ _ _ _ _ _)
def Jz(m:X.A.units+64 < EY)(hi:GE X E i mi)(ho:GE X E o mo)(l:Cq .NotIn o=false:=by with_unfolding_all rfl):GT X E (.Compare i [.NotIn] [o] pos) (mB (m2 (inA true) mi mo)):=
 jv (Cp (YY m) hi ho l) (fH (by lia) hi ho l) (qC λ_ _=>cR _ _ _ _ _ _)
abbrev ixA:=op2 ixD UP
def Df(m:X.A.units+64 < EY)(ho:GE X E o mo)(hi:GE X E i mi)(l:XU i:=by intro _ _;rfl):GE X E (.Subscript o i pos) (m2 ixA mo mi):=
 j8 (wL vd ho hi l) (oq (by lia) ho hi l) λ_ _=>cR _ _ _ _ _ _
def GB(d:D):RF:=match d with
 | .tup l=>ID l
 | d=>RS d
def E1(m:ME):MI:=λe S=>(m e S).bind λd l=>match GB d l with
 | some _=>.ok (GB d) l
 | none=>.bad
def D2(h:GE X E e m):GI X E tg e (E1 m):=tS (tR h) (tP h) λl S=>by
 unfold E1 wF qG
 cases m l S with
 | ok d o=>
  dsimp only[Res.bind]
  cases d <;> first | exact .inl rfl | exact .inr rfl
 | err c o=>exact .inl rfl
 | bad=>exact .inl rfl
def QA(m:ME):ME:=λe S=>(m e S).bind λd l=>match GD d l with
 | some o=>.ok (.int o.length) l
 | none=>.bad
def PQ(s:Gl X "len") (A:X.mg "len" = none) (h:GE X E e m) (B:AY [e] X.env=(false,Cd e X.env) :: AY [] X.env:=by rfl):GE X E (.Call (.Name "len" p) [e] [] pos) (QA m):=
 (cg XR rH s A PySem.boot_len (jw h) (by decide) (by decide) B).imp λJ H Q ⟨C,l,S,G,I,a⟩=>⟨C,l,S,G,I,by
  have q:mQ vx (Uz m) l S=QA m l S:=by
   unfold mQ Uz QA
   cases m l S with
   | ok d o=>
    dsimp only[Res.bind]
    cases GD d o <;> rfl
   | err c o=>rfl
   | bad=>rfl
  rw[q];exact a⟩
def W9(l:X.calm=true)(m:Gl X "min") (o:X.mg "min" = none) (h:GA X E [a,b] ml) (s:AY [a,b] X.env=(false,Cd a X.env) :: AY [b] X.env:=by rfl) (A:(ER pos (AY [b] X.env)).any (·.1)=false:=by rfl):GE X E (.Call (.Name "min" p) [a,b] [] pos) (mQ P9 ml):=
 cj (fj l) pT m o wz h (by decide) (by decide) s A
def oj(l:X.calm=true)(m:Gl X "max") (o:X.mg "max" = none) (h:GA X E [a,b] ml) (s:AY [a,b] X.env=(false,Cd a X.env) :: AY [b] X.env:=by rfl) (A:(ER pos (AY [b] X.env)).any (·.1)=false:=by rfl):GE X E (.Call (.Name "max" p) [a,b] [] pos) (mQ Vm ml):=
 cj (fm l) pU m o w5 h (by decide) (by decide) s A
def om(l:Gl X "list") (o:X.mg "list" = none) (h:GE X E e m) (s:AY [e] X.env=(false,Cd e X.env) :: AY [] X.env:=by rfl):GE X E (.Call (.Name "list" p) [e] [] pos) (Ee (mN cT (Uz m))):=
 Cz (oZ XQ my l o w6 (jw h) (by decide) (by decide) s)
def tX(l:X.calm=true)(o:Gl X "all") (s:X.mg "all" = none) (h:GE X E e m) (A:AY [e] X.env=(false,Cd e X.env) :: AY [] X.env:=by rfl):GE X E (.Call (.Name "all" p) [e] [] pos) (mQ pS (Uz m)):=
 cg (fq l) iU o s xA (jw h) (by decide) (by decide) A
end
abbrev MJ:=Str->Lo->Sto->Res Str
def oW:MJ:=λl _ S=>if l.length<=sizeLine then .ok l S else .bad
def Tz(m:ME)(r:MJ):MJ:=λl e S=>(m e S).bind λd o=>match d with
 | .str y=>if (l++y).length<=sizeLine then r (l++y) e o else .bad
 | _=>.bad
def gJ(K:AE)(E:EW)(m:MJ)(s:Str):TE:=λB H Q=>∃o e S,GP K o H e B/\CV K o S H/\CO K (λc=>E c B) o H (m s e S) λy C=>∀l A,Le K o H l A->CV K l C A->Q (.str y) A
def GJ(X:Cx)(E:EW)(es:List Expr)(m:MJ):Prop:=∀(l:Str) (B:List (AT×Obj)) (s:AK) (o:St) (H:Hp) (Q:VK),Inv X B o H s->gJ X.K E m l o H Q->Am (Ag X.prog X.w) X.A (joinParts l (evalEach es X.env)) (EP X B o Q) X.xe s
def jP(m:MJ):ME:=λe S=>(m ZI e S).bind λy l=>.ok (.str y) l
def sd(m:ME):ME:=λe S=>(m e S).bind λd l=>match d with
 | .int i=>if i.natAbs.log2 < 1920 then .ok (.str (toString i)) l else .bad
 | _=>.bad
section
def tO:GJ X E [] oW:=by
 rintro o G s J H Q I ⟨A,l,S,L,B,m⟩
 unfold oW at m;split at m
 ·rename_i C
  exact joinParts_nil ⟨.str o,H,I.tok _,⟨_,rfl⟩,m A H .refl B⟩ C
 ·exact m.elim
def W5(h:GE X E e m)(T:GJ X E es mj):GJ X E (e :: es) (Tz m mj):=by
 rintro o P s C H Q I ⟨U,l,S,R,Y,A⟩
 show Am _ _ (joinParts o (Cd e X.env :: evalEach es X.env)) _ _ s;refine joinParts_cons (thn (h P s C H (λx B=>∃y,x=.str y/\(o++y).length<=sizeLine/\gJ X.K E mj (o++y) C B Q) I ⟨U,l,S,R,Y,CO.seq A λd Z A G B x J L r1=>?_⟩) λu L ⟨x,B,I1,rx,y,ex,N,q⟩=>?_)
 ·cases d <;> first | exact A.elim | skip
  dsimp only at A;split at A
  ·rename_i y N
   cases r1;exact⟨y,rfl,N,G,l,Z,R.mono J,L,A.go J λ_ _ k O H2 l2 s2=>k O H2 (J.trans l2) s2⟩
  ·exact A.elim
 ·subst ex
  obtain⟨t,rfl⟩:=rx;exact⟨N,T _ P L C B Q I1 q⟩
def oo(h:GJ X E (a :: b :: es) mj):GE X E (.JoinedStr (a :: b :: es) pos) (jP mj):=by
 rintro A s B H Q I ⟨C,l,S,G,J,m⟩
 refine JoinedStr_many (h ZI A s B H Q I ⟨C,l,S,G,J,CO.seq m λy P m o L N O=>m o L _ N O (.str y)⟩)
def tW(h:GE X E e m):GE X E (.FormattedValue e (-1) none pos) (sd m):=by
 rintro J s L H Q I ⟨N,l,S,O,P,o⟩
 refine FormattedValue_plain (thn (h J s L H (λx A=>∃i:Int,x=.int i/\i.natAbs.log2 < 1920/\Q (.str (toString i)) A) I ⟨N,l,S,O,P,CO.seq o λd Z o B A x R G T=>?_⟩) λu G ⟨x,A,U,Y,i,ex,C,q⟩=>?_)
 ·cases d <;> first | exact o.elim | skip
  dsimp only at o;split at o
  ·rename_i C
   cases T;exact⟨_,rfl,C,o B A _ R G (.str _)⟩
  ·exact o.elim
 ·subst ex
  obtain⟨t,rfl⟩:=Y;exact wpAny_formatField_int C ⟨.str (toString i),A,U.tok _,⟨_,rfl⟩,q⟩
end
def QB(mo ma:ME):ME:=λe S=>(mo e S).bind λd m=>match atL d m with
 | some (n,_)=>(ma e m).bind λy l=>match atL d l,atL y l with
  | some (_,o),some (k,s)=>if k≠n/\o.length+s.length<=sizeLine then .ok .non (l.set n (.lst (o++s)))else .bad
  | _,_=>.bad
 | none=>.bad
section
def fI(ho:GE X E o mo)(ha:GE X E e ma)(xV:Gi o "extend" X.env (Cd o X.env)=Cd o X.env:=by rfl)
  (zp:((ER A (AY [e] X.env)).all (λx=>!x.1)&&(Zb A (QV [] X.env)).all (λx=>x.1.isSome)
    &&decide ([e].length+([]:List ZP).length+(if ([]:List ZP).isEmpty then 0 else 1) < 30))=true:=by rfl)
  (xW:(s.endLine==A.line)=true:=by rfl) (B:AY [e] X.env=(false,Cd e X.env) :: AY [] X.env:=by rfl) (yc:(ER A (AY [] X.env)).any (·.1)=false:=by rfl) :
  GE X E (.Call (.Attribute o "extend" s) [e] [] A) (QB mo ma):=(p8 VN PySem.F.slot_list_extend PySem.F.type_list_extend en ho (Fe ha IP B) xV zp xW B yc).imp<|by
 rintro σ H Q ⟨ρ,l,S,O,B,m⟩
 refine⟨ρ,l,S,O,B,m.seq λd P m C H1 v G R T=>?_⟩
 cases I:atL d P with
 | none=>rw[I]at m;exact m.elim
 | some z=>
  obtain⟨n,xs0⟩:=z;rw[I]at m;dsimp only at m;obtain⟨rfl,h0,a,J,rfl,hn,e0,_⟩:=UX R T I;refine⟨.inl ⟨rfl,J,.inl (.inl e0)⟩,C,l,P,O.mono G,R,(m.later G).seq λy S2 m L H2 u U N r2=>?_⟩;split at m
  ·rename_i n' xs k ys h2 h3
   split at m
   ·rename_i hz
    obtain⟨e',h4,a',vs,ea,yB,Y,Z⟩:=UX N (T.mono U) h2;cases e';cases ea;obtain⟨ey,h5,p,ws,rfl,hk,e3,yk⟩:=UX N r2 h3;obtain⟨s3,l3⟩:=cJ N yB Y (Z.append yk);exact⟨a,p,vs,ws,rfl,rfl,Y,e3,by rw[<-Z.length,<-yk.length];exact hz.2,m L _ _ (G.trans (U.trans l3)) s3 .non⟩
   ·exact m.elim
  ·exact m.elim
end
def isN(A:String):Option Bool:=if ["NoneType", "bool", "int", "str", "tuple", "list", "dict"].contains A then some false else none
def mIs(l:String->Option Bool)(s:AT->Option Bool)(m:ME):ME:=λe S=>(m e S).bind λd o=>match d with
 | .exc C=>match s C with
  | some b=>.ok (.bl b) o
  | none=>.bad
 | d=>match tyD d o with
  | some T=>match l T with
   | some b=>.ok (.bl b) o
   | none=>.bad
  | none=>.bad
noncomputable def mE(l:Uj)(x:Str):Bool:=decide (l.names.lookup x=some .local)||decide (l.names.lookup x=some .cell)||decide (l.names.lookup x=some .free)
def kc(X:Cx)(scope:Uj)(own N':List Str):Bool:=
 decide (scope.kind=.function)&&scope.names.all (λy=>!decide (y.2=.local)||decide (scope.names.lookup y.1=some .local)) &&
 scope.names.all (λy=>!decide (y.2=.free)||decide (X.env.kindOf y.1=some .cell)||decide (X.env.kindOf y.1=some .free))&&decide (N'.length=own.length+X.N.length) &&
 ((N'.drop own.length).zip X.N).all (λp=>!mE (LJ scope X.env) p.1||(decide (p.1=p.2)&&mE X.env.scope p.1&&(decide ((LJ scope X.env).names.lookup p.1=some .cell)||decide ((LJ scope X.env).names.lookup p.1=some .free))&&!decide (X.env.kindOf p.1=some .local)&&!scope.names.any (λz=>decide (z=(p.1,DH)))&&scope.names.any (λz=>decide (z=(p.1,Gr))))) &&
 (LJ scope X.env).names.all (λy=>(!decide (y.2=.cell)&&!decide (y.2=.free))||scope.names.any (λz=>decide (z=(y.1,Gr)))||scope.names.any (λz=>decide (z=(y.1,DH))))
def Xr:mE l x=true↔Vis l x:=by
 unfold mE Vis;simp[or_assoc]
def Do(h:kc X scope own N'=true):Pb X scope own N':=by
 unfold kc at h;simp only[Db]at h;obtain⟨⟨⟨⟨⟨I,o⟩,s⟩,A⟩,B⟩,C⟩:=h;rw[E4]at o s B C;refine⟨of_decide_eq_true I,λy m e=>?_,λy m e=>?_,of_decide_eq_true A,λi x e v=>?_,λx l=>?_⟩
 ·have:=o y m
  simpa[e]using this
 ·have:=s y m
  simpa[e]using this
 ·have E:=of_decide_eq_true A
  have T:own.length+i < N'.length:=(AG.mp e).1
  have l:i < X.N.length:=by lia
  have J:(x,X.N[i])∈(N'.drop own.length).zip X.N:=by
   rw[List.mem_iff_getElem?];refine⟨i,?_⟩;rw[List.getElem?_zip_eq_some];exact⟨by rw[KS];exact e,by simp[l]⟩
  have:=B _ J;rw[Xr.mpr v]at this;simp only[Xe,qS,Db,NT,decide_eq_true_eq,gh,decide_eq_false_iff_not]at this;obtain⟨⟨⟨⟨⟨L,O⟩,P⟩,Q⟩,G⟩,R⟩:=this;refine⟨⟨by rw[L];simp[l],Xr.mp O,P,Q⟩,λq=>?_,?_⟩
  ·rw[gd]at G
   exact G _ q (wX rfl)
  ·obtain⟨z,H,e⟩:=Gs.mp R
   rw[of_decide_eq_true e]at H;exact H
 ·have key:∀k,(LJ scope X.env).names.lookup x=some k->(k=.cell∨k=.free)->(x,Gr)∈scope.names∨(x,DH)∈scope.names:=λk e S=>by
   have:=C _ (Dx e)
   rcases S with rfl | rfl
   ·simpa using this
   ·simpa using this
  rcases l with e | e
  ·exact key _ e (.inl rfl)
  ·exact key _ e (.inr rfl)
structure Dfn(K:AE)(mg:Str->Option AI)(x qual:Str)(st:DQ)(ps:List Str) where
 f:AT
 fd:KN
 F:Fun K x qual st f fd
 b:Binds K fd ps []
 m:mg x=some (.ref f)
def Dfn.kp{K}{m}{x l}{st}{ps}(d:Dfn K m x l st ps):Ft K (.ref d.f)=true:=d.F.kp
structure Mtd(K:AE)(x qual:Str)(st:DQ)(ps:List Str) where
 f:AT
 fd:KN
 F:Fun K x qual st f fd
 b:Binds K fd ps []
structure Own(K:AE)(mg:Str->Option AI)(x:Str)(C f:AT):Prop where
 cl:Cls K C
 mk':Mk K C f
 m:mg x=some (.ref C)
structure Xcl(K:AE)(mg:Str->Option AI)(x:Str)(C:AT):Prop where
 xc:XCl K C
 m:mg x=some (.ref C)
abbrev wN:Nat:=1000000
structure XIs(K:AE)(C:AT):Prop where
 cl:(Ej K C).isSome=true
 ga:Cg K (.ref C) "__getattribute__" = some (some (.builtin "BaseException.__getattribute__"))
 gn:Cg K (.ref C) "__getattr__" = some none
 ca:Cg K (.ref C) "__class__" = some (some (.builtin "object.__class__"))
 sp:bT K (.builtin "object.__class__") "__get__" = some (some (.builtin "getset_descriptor.__get__"))
 tk:gD K (.builtin "object.__class__")=some true
 ob:Og K C (.type "object")=some true
 be:Og K C (.type "BaseException")=some true
def XW.inst(g:h.get? a=some o)(x:XW o C):gX h a o C none:=by
 obtain⟨l,m,A,s⟩:=x;refine⟨g,l,?_,?_⟩
 ·unfold PySem.W.notCls;rw[s]
 ·rw[m];trivial
section
variable{prog:Bf}{w:CH}{A:Bs}{E:AI->AK->Prop}{s:AK}{K:AE}{a C:AT}{o:Obj}
def fU(c:XIs K C)(X:K.In s.heap)(g:s.heap.get? a=some o)(x:XW o C)(h:Q () s):Am M A (ud "BaseException.__getattribute__" ⟨[.ref a,nameV],[]⟩) Q E s:=by
 have I:=x.inst g;obtain⟨l,J,d,t,os⟩:=s;have m:=I.type (M:=M);have B:Ib M l (isInstance (.ref a) (.type "BaseException")) true:=m.andThen (PySem.W.looks_mroIn X c.be)
 have G:builtinKind "BaseException.__getattribute__" = some .slot:=by decide +kernel
 have H:splitId "BaseException.__getattribute__" = some ("BaseException", "__getattribute__"):=by decide +kernel
 have k3:=PySem.F.args_bexc_ga (.ref a) nameV;simp only[ud,G,H];refine AB (B.at ?_)
 repeat(any_goals (first | assumption | wp_step))
def fR(c:XIs K C)(X:K.In s.heap)(g:s.heap.get? a=some o)(x:XW o C)(h:Q (.done (.ret (.ref C))) s) :
  Am (Ag prog w) A (Builtin.«object.__getattribute__» ⟨[.ref a,.str "__class__" tk],[]⟩) Q E s:=by
 have I:=x.inst g;obtain⟨H,J,d,t,os⟩:=s;have l:=I.type (M:=Ag prog w)
 have m:gH K C none "__class__" = some (.bind (.builtin "getset_descriptor.__get__") (.builtin "object.__class__")):=by
  obtain⟨L,B⟩:=Cb.mp c.cl;unfold gH;rw[B,c.ca];simp only[AC];rw[c.sp];simp only[AC];rw[c.tk];rfl
 have G:=PySem.W.looks_find (M:=Ag prog w) X I m;unfold Builtin.«object.__getattribute__»;refine AB (AN ?_);dsimp only;refine AB (AN (AB (l.at (AB (G.at ?_)))));dsimp only;unfold lI;dsimp only;refine AB (IA (ZV (PySem.W.class_get X I c.ob ?_)));exact AN h
def fS(c:XIs K C)(X:K.In s.heap)(g:s.heap.get? a=some o)(x:XW o C)(h:Q (some (.ref C)) { s with toks:=s.toks+1 }):Am (Ag prog w) A (getAttr? (.ref a) "__class__") Q E s:=by
 have I:=x.inst g;obtain⟨G,H,d,t,os⟩:=s;have l:=I.type (M:=Ag prog w);have m:=NN (M:=Ag prog w) X c.ga;have L2:=NN (M:=Ag prog w) X c.gn;unfold getAttr? getAttrBy? getAttrBy;refine AB (wpAny_mkText (AB (KI (IA (AB (l.at (AB (m.at ?_))))))))
 have B:(onTheHeap (BB C)&&ph "BaseException.__getattribute__"==ph "object.__getattribute__")=false:=by show(true&&_)=false;decide +kernel
 dsimp only;rw[qY (by rw[B];exact AH)];unfold getAttrByItsOwn hookBefore;refine AB ?_;rw[qX (show onTheHeap (BB C)=true from rfl)];refine L2.at (AB (KI (IA ?_)));unfold callGetattribute;rw[qY (by simp)];unfold boundAndCalled;refine AB (lM (SZ.ga.bind (.ref a)) ?_);refine ZV (codeAny_call_builtin SZ.ga.plain PySem.F.entry_bexc_ga (fU c X g x (fR c X g x ?_)));exact AN (AN h)
def jc(c:XIs K C):PySem.W.KitX K (.ref a) (.ref C) (λh=>∃o,h.get? a=some o/\XW o C) where
 ty:=λM h X ⟨o,g,x⟩=>(x.inst g).type
 it:=λM h X _=>by
  have z:=c.cl;unfold Ej at z;split at z
  ·rename_i l
   intro B G H I k q;unfold isType loadHead;exact AB (ZU (k _ _ (X _ _ l)) (AN q))
  ·cases z
 ne:=λh tp J L n sl X m=>by
  refine Bool.eq_false_iff.mpr λq=>?_
  have e:C=tp:=BB.inj (beq_iff_eq.mp q);subst e;have z:=c.cl;unfold Ej at z;split at z
  ·rename_i l
   have y:=(X _ _ l).symm.trans m;cases y
  ·cases z
 ca:=λX ⟨o,g,x⟩ k=>fS c X g x k
end
def rIs(K:AE)(c:V)(cv:AI):List V->Hp->VK->Prop:=λl H Q=>(∃x t b,l=[x,c]/\QQ K H x t/\CW K t cv=some b/\Q (.bl b) H) ∨
 ∃a o u C b,l=[.ref a,c]/\H a=some (.frz o u)/\XW o C/\XIs K C/\CW K (.ref C) cv=some b/\Q (.bl b) H
section
variable{X:Cx}{E:EW}{e ce:Expr}{c:V}
def pL(A:∀u,RelV c u->u=cv):JU X (.builtin "isinstance") (rIs X.K c cv):=by
 intro L s N H O P Q I r h
 rcases h with⟨x,t,b,rfl,ty,e,q⟩ | ⟨a,o,u,C,b,rfl,B,G,J,e,q⟩
 ·obtain⟨v,w,rfl,l,m⟩:=vals2 r
  rw[A w m]
  exact fC I l ty e λtk=>⟨.bl b,H,I.tok tk,rfl,q⟩
 ·obtain⟨v,w,rfl,l,m⟩:=vals2 r
  rw[A w m];cases(show v=BB a from l);obtain⟨g,_⟩:=(show Ck X.prog X.w H s.heap a (.frz o u)from I.hok a _ B)
  exact Ci (jc J) I.kIn ⟨o,g,G⟩ e (λz=>nomatch z) λtk=>⟨.bl b,H,I.tok tk,rfl,q⟩
def j6(hv:∀u,RelV c u->u=cv)(ht:∀T b,s T=some b->CW X.K (.type T) cv=some b)(R:∀C b,U C=some b->XIs X.K C/\CW X.K (.ref C) cv=some b)
  (hg:Gl X "isinstance") (o:X.mg "isinstance" = none) (h:GE X E e m) (I:PE X ce (tC c))
  (Y:AY [e,ce] X.env=(false,Cd e X.env) :: AY [ce] X.env:=by rfl) (ς:AY [ce] X.env=(false,Cd ce X.env) :: AY [] X.env:=by rfl) (xM:(ER pos (AY [ce] X.env)).any (·.1)=false:=by rfl) :
  GE X E (.Call (.Name "isinstance" p) [e,ce] [] pos) (mIs s U m):=
 (LU (pL hv) hg o w8 (Fe h (Fe I IP ς) Y) (by decide) (by decide) Y xM).imp<|by
 rintro σ H Q ⟨J,l,S,hl,hs,o⟩
 refine⟨J,l,S,hl,hs,o.seq λd L o B N x Z O r1=>?_⟩
 have υ:∀(z:CO X.K (λc=>E c σ) J H (match tyD d L with | some T=>(match s T with | some b=>Res.ok (D.bl b) L | none=>.bad) | none=>.bad) λd S'=>∀A G x,Le X.K J H A G->CV X.K A S' G->CB X.K A G d x->Q x G),rIs X.K c cv [x,c] N Q:=λo=>by
  cases P:tyD d L with
  | none=>rw[P]at o;exact o.elim
  | some T=>
   rw[P]at o;dsimp only at o
   cases hb:s T with
   | none=>rw[hb]at o;exact o.elim
   | some b=>
    rw[hb]at o;exact .inl ⟨x,_,b,rfl,qv O r1 P,ht T b hb,o B N _ Z O (.bl _)⟩
 cases d with
 | exc C=>
  dsimp only at o
  cases hb:U C with
  | none=>rw[hb]at o;exact o.elim
  | some b=>
   rw[hb]at o
   cases r1 with
   | exc g x=>exact .inr ⟨_,_,_,C,b,rfl,g,x,(R C b hb).1,(R C b hb).2,o B N _ Z O (.bl _)⟩
 | _=>exact υ o
end
end L2
namespace Srt
structure Ord(U:BQ->Prop)(lt:BQ->BQ->Bool):Prop where
 asym:∀x y,U x->U y->lt x y=true->lt y x=false
 ntr:∀x y z,U x->U y->U z->lt y x=false->lt z y=false->lt z x=false
def Ord.irr(o:Ord U lt)(h:U x):lt x x=false:=by
 cases e:lt x x with
 | false=>rfl
 | true=>exact(o.asym x x h h e).symm.trans e |>.symm▸rfl
def ix(xs:Array BQ)(i:Nat):BQ:=xs.getD i (.none,.none)
def La(h:xs[i]?=l[j]?):ix xs i=ix l j:=by
 unfold ix;rw[Fo,Fo,h]
def D1(h:i < xs.size):xs[i]?=some (ix xs i):=by
 unfold ix;rw[Fo,getElem?_pos xs i h];rfl
def fB(o:l < xs.size)(s:d<=l)(k:Nat) :
  ix (qP xs l d) k=if k=l - d then ix xs l else if l - d < k/\k<=l then ix xs (k - 1)else ix xs k:=by
 have e:=getElem?_bubble o d s k;split
 ·rename_i h;rw[qX h]at e;exact La e
 ·rename_i h
  rw[qY h]at e;split
  ·rename_i m;rw[qX m]at e;exact La e
  ·rename_i m;rw[qY m]at e;exact La e
def E0(l:j<=xs.size)(k:Nat) :
  ix (Lq xs i j ((j - i) / 2)) k=if i<=k/\k < j then ix xs (i+j - 1 - k)else ix xs k:=by
 have e:=getElem?_mirror_all (i:=i) l k;split
 ·rename_i h;rw[qX h]at e;exact La e
 ·rename_i h;rw[qY h]at e;exact La e
section
def M5(prog:Bf)(w:CH)(A:Bs)(s:AK)(a₀:Array BQ)(l:QX)(lt:BQ->BQ->Bool):Prop:=
 ∀x y,x∈a₀->y∈a₀->∀(Q:Bool->AK->Prop) (E:AI->AK->Prop),Q (lt x y) s->Am (Ag prog w) A (keyLt' l x.1 y.1) Q E s
structure Good(a₀:Array BQ)(κ:QX)(st:BM):Prop where
 perm:(AX st).Perm a₀
 kind:kindOf st=κ
 failed:KM st=none
def Good.size{st:BM}(g:Good a₀ l st):(AX st).size=a₀.size:=g.perm.size_eq
def Good.mem{st:BM}(g:Good a₀ m st){i:Nat}(h:i < a₀.size):ix (AX st) i∈a₀:=by
 have l:i < (AX st).size:=by rw[g.size];exact h
 have e:=D1 l;have:=DW e;exact Bj.mp ((GX.mp g.perm).mem_iff.mp (Bj.mpr this))
def Good.setArr{st:BM}(g:Good a₀ l st){xs:Array BQ}(m:xs.Perm (AX st)):Good a₀ l (setArr st xs):=⟨m.trans g.perm,g.kind,g.failed⟩
def Sf{st:BM}{x y:BQ}{Q:Option Bool->BM->Prop}(C:M5 prog w A s a₀ l lt)(g:Good a₀ l st)(m:x∈a₀)(o:y∈a₀)(h:Q (some (lt x y)) st):wpS (Ag prog w) A E s (lt' x y) Q st:=by
 rw[lt'_eq];refine Ae (JG ?_);rw[g.kind];refine Ae (wpS_lift (KI ?_));refine C x y m o _ _ ⟨rfl,?_⟩;exact Af h
def Qa{st:BM}{i j:Nat}{Q:Option Bool->BM->Prop}(C:M5 prog w A s a₀ m lt)(g:Good a₀ m st)(hi:i < a₀.size)(l:j < a₀.size)(h:Q (some (lt (ix (AX st) i) (ix (AX st) j))) st) :
  wpS (Ag prog w) A E s (uP i j) Q st:=by
 rw[ltAt'_eq];refine Ae (JG ?_);show wpS _ _ _ _ (do let x <-elem' (AX st) i;let y <-elem' (AX st) j;lt' x y) Q st;rw[lS,lS,D1 (by rw[g.size];exact hi),D1 (by rw[g.size];exact l)];exact Ae (Af (Ae (Af (Sf C g (g.mem hi) (g.mem l) h))))
def Up(lt:BQ->BQ->Bool)(xs:Array BQ)(lo hi:Nat):Prop:=∀i j,lo<=i->i<=j->j < hi->lt (ix xs j) (ix xs i)=false
def Dn(lt:BQ->BQ->Bool)(xs:Array BQ)(lo hi:Nat):Prop:=∀i j,lo<=i->i<=j->j < hi->lt (ix xs i) (ix xs j)=false
def Out(xs l:Array BQ)(lo hi:Nat):Prop:=∀i,(i < lo∨hi<=i)->ix l i=ix xs i
def Out.refl{xs:Array BQ}{lo hi:Nat}:Out xs xs lo hi:=λ_ _=>rfl
def Out.trans{xs l m:Array BQ}{lo hi:Nat}(a:Out xs l lo hi)(b:Out l m lo hi):Out xs m lo hi:=λi h=>(b i h).trans (a i h)
def Up.out{xs m:Array BQ}{lo hi l h:Nat}(u:Up lt xs l h)(o:Out xs m lo hi)(d:h<=lo∨hi<=l):Up lt m l h:=λi j s A B=>by
 rw[o i (by lia),o j (by lia)];exact u i j s A B
def Up.grow{st:BM}(O:Ord (·∈a₀) lt)(g:Good a₀ B st){lo hi:Nat}(l:hi < a₀.size)(u:Up lt (AX st) lo hi)(C:lo < hi)(h:lt (ix (AX st) hi) (ix (AX st) (hi - 1))=false):Up lt (AX st) lo (hi+1):=λi j m o E=>by
 by_cases s:j < hi
 ·exact u i j m o s
 ·have:j=hi:=by lia
  subst this
  by_cases A:i=j
  ·subst A;exact O.irr (g.mem l)
  ·exact O.ntr _ _ _ (g.mem (by lia)) (g.mem (show j - 1 < _ by omega)) (g.mem l) (u i (j - 1) m (by lia) (by lia)) h
def wpS_binarySort{st:BM}{lo n ok:Nat}{Q:Bool->BM->Prop}(C:M5 prog w A s a₀ S lt)(O:Ord (·∈a₀) lt)(hn:lo+n<=a₀.size)(hok:ok<=n)(g:Good a₀ S st)(u:Up lt (AX st) lo (lo+ok))
  (h:∀m,Good a₀ S m->Up lt (AX m) lo (lo+n)->Out (AX st) (AX m) lo (lo+n)->AZ m=AZ st->Q true m):wpS (Ag prog w) A E s (binarySort' lo n ok) Q st:=by
 rw[binarySort'_eq]
 refine Ae (Hy (Ds (I:=λk c m=>c=(none,())/\Good a₀ S m/\Up lt (AX m) lo (lo+min k n)/\Out (AX st) (AX m) lo (lo+n)/\AZ m=AZ st)
  (Q:=λc m=>c=(none,())/\Good a₀ S m/\Up lt (AX m) lo (lo+n)/\Out (AX st) (AX m) lo (lo+n)/\AZ m=AZ st) ?step ?fin ?init) ?post)
 case post=>
  rintro c m ⟨rfl,X,Y,Z,p'⟩;exact Af (h m X Y Z p')
 case init=>
  refine⟨rfl,g,λi j R T h3=>?_,.refl,rfl⟩
  by_cases h0:ok=0
  ·have:i=j:=by lia
   subst this;exact O.irr (g.mem (by omega))
  ·exact u i j R T (by lia)
 case fin=>
  rintro c m ⟨hc,X,Y,Z,p'⟩;refine⟨hc,X,?_,Z,p'⟩;rwa [show min (max (max ok 1) n) n=n by lia]at Y
 case step=>
  rintro k c H hak hkn ⟨rfl,B,U,o1,p1⟩;rw[show min k n=k by lia]at U
  have L:lo+k < a₀.size:=by lia
  refine Ae (Hy (Ds (I:=λx c o=>o=H/\∃l r,c=(none,l,r)/\l<=r/\r<=k/\r - l<=k - x /\
    (∀i,i < l->lt (ix (AX H) (lo+k)) (ix (AX H) (lo+i))=false)/\(∀i,r<=i->i < k->lt (ix (AX H) (lo+k)) (ix (AX H) (lo+i))=true))
   (Q:=λc o=>o=H/\∃l r,c=(none,l,r)/\l<=k /\
    (∀i,i < l->lt (ix (AX H) (lo+k)) (ix (AX H) (lo+i))=false)/\(∀i,l<=i->i < k->lt (ix (AX H) (lo+k)) (ix (AX H) (lo+i))=true)) ?istep ?ifin ?iinit) ?ipost)
  case iinit=>exact⟨rfl,0,k,rfl,by lia,by lia,by lia,λi hi=>by lia,λi R T=>by lia⟩
  case ifin=>
   rintro c o ⟨rfl,l,r,rfl,hlr,J,hm,N,P⟩
   have:l=r:=by lia
   subst this;exact⟨rfl,l,l,rfl,J,N,P⟩
  case istep=>
   rintro x c o _ hxk ⟨rfl,l,r,rfl,hlr,J,hm,N,P⟩;dsimp only
   by_cases yd:l ≥ r
   ·rw[qX yd]
    have:l=r:=by lia
    subst this;exact Af ⟨rfl,l,l,rfl,J,N,P⟩
   ·rw[qY yd]
    refine Ae (Qa C B L (by lia) ?_)
    cases G:lt (ix (AX o) (lo+k)) (ix (AX o) (lo+(l+r) / 2))with
    | true=>
     refine Af ⟨rfl,l,(l+r) / 2,rfl,by lia,by lia,by omega,N,λi R T=>?_⟩
     cases e:lt (ix (AX o) (lo+k)) (ix (AX o) (lo+i))with
     | true=>rfl
     | false=>
      have:=O.ntr _ _ _ (B.mem (show lo+(l+r) / 2 < _ by lia)) (B.mem (show lo+i < _ by lia)) (B.mem L) (U (lo+(l+r) / 2) (lo+i) (by lia) (by lia) (by lia)) e;rw[G]at this;cases this
    | false=>
     refine Af ⟨rfl,(l+r) / 2+1,r,rfl,by lia,by omega,by omega,λi R=>?_,P⟩;exact O.ntr _ _ _ (B.mem (show lo+i < _ by lia)) (B.mem (show lo+(l+r) / 2 < _ by lia)) (B.mem L) (U (lo+i) (lo+(l+r) / 2) (by lia) (by lia) (by lia)) G
  case ipost=>
   rintro c o ⟨rfl,l,r,rfl,hlk,N,P⟩;show wpS _ _ _ _ (do moveDown' (lo+k) (lo+l);pure (Iw (none,()))) _ _;rw[moveDown'_eq]
   have hks:lo+k < (AX o).size:=by rw[B.size];exact L
   have e:∀i,ix (qP (AX o) (lo+k) (lo+k - (lo+l))) i=if i=lo+l then ix (AX o) (lo+k)else if lo+l < i/\i<=lo+k then ix (AX o) (i - 1)else ix (AX o) i:=λi=>by
    rw[fB hks (by lia),show lo+k - (lo+k - (lo+l))=lo+l by lia]
   refine Ae (D6 (Af ⟨rfl,B.setArr (bubble_perm _ _ _),?_,o1.trans λi hi=>?_,p1⟩))
   ·rw[show min (k+1) n=k+1 by lia]
    intro i j R T h3;show lt (ix (qP (AX o) (lo+k) (lo+k - (lo+l))) j) (ix (qP (AX o) (lo+k) (lo+k - (lo+l))) i)=false;rw[e,e]
    repeat' split
    all_goals first
     | (exfalso;lia)
     | exact O.irr (B.mem L)
     | (have q:=N (i - lo) (by lia);rw[show lo+(i - lo)=i by lia]at q;exact q)
     | (have q:=P (j - 1 - lo) (by omega) (by omega);rw[show lo+(j - 1 - lo)=j - 1 by lia]at q;exact O.asym _ _ (B.mem L) (B.mem (by lia)) q)
     | exact U _ _ (by omega) (by omega) (by lia)
   ·show ix (qP (AX o) (lo+k) (lo+k - (lo+l))) i=ix (AX o) i
    rw[e,qY (by lia),qY (by lia)]
end
section
def LO{σ:Type}{M:Zk}{r:String}{Q:PUnit->σ->Prop}{st:σ}(h:Q ⟨⟩ st):wpS M A E s (liftM (rule r):StateT σ Sem PUnit) Q st:=wpS_lift (ZT ⟨rfl,h⟩)
def Dn.flip{xs:Array BQ}{lo hi:Nat}(l:hi<=xs.size)(d:Dn lt xs lo hi):Up lt (Lq xs lo hi ((hi - lo) / 2)) lo hi:=λi j m o s=>by
 rw[E0 l,E0 l,qX (by lia),qX (by lia)];exact d _ _ (by omega) (by omega) (by omega)
def Dn.part{xs:Array BQ}{lo hi m:Nat}(l:hi<=xs.size)(s:lo<=m)(o:m<=hi)(d:Dn lt xs lo hi)(e:Up lt xs m hi):Dn lt (Lq xs m hi ((hi - m) / 2)) lo hi:=λi j A B C=>by
 rw[E0 l,E0 l]
 by_cases E:m<=i
 ·rw[qX (by lia),qX (by lia)]
  exact e _ _ (by omega) (by omega) (by omega)
 ·rw[qY (by lia)]
  split
  ·exact d _ _ (by omega) (by lia) (by omega)
  ·exact d _ _ (by omega) (by omega) (by omega)
def MX{xs:Array BQ}{i j lo hi:Nat}(l:j<=xs.size)(m:lo<=i)(o:j<=hi):Out xs (Lq xs i j ((j - i) / 2)) lo hi:=λk s=>by
 rw[E0 l,qY (by lia)]
def Dn.grow{st:BM}(O:Ord (·∈a₀) lt)(g:Good a₀ B st){lo hi:Nat}(l:hi < a₀.size)(u:Dn lt (AX st) lo hi)(C:lo < hi)(h:lt (ix (AX st) (hi - 1)) (ix (AX st) hi)=false):Dn lt (AX st) lo (hi+1):=λi j m o E=>by
 by_cases s:j < hi
 ·exact u i j m o s
 ·have:j=hi:=by lia
  subst this
  by_cases A:i=j
  ·subst A;exact O.irr (g.mem l)
  ·exact O.ntr _ _ _ (g.mem l) (g.mem (show j - 1 < _ by omega)) (g.mem (by lia)) h (u i (j - 1) m (by lia) (by lia))
def Z0(O:Ord (·∈a₀) lt){st:BM}(g:Good a₀ o st){lo:Nat}(h:lo < a₀.size):Up lt (AX st) lo (lo+1):=λi j s A B=>by
 have l:i=lo:=by lia
 have m:j=lo:=by lia
 rw[l,m];exact O.irr (g.mem h)
def lr{st:BM}{lo xh n:Nat}{Q:Option Nat->BM->Prop}(C:M5 prog w A s a₀ m lt)(O:Ord (·∈a₀) lt)(L:1<=n)(N:n<=xh)(P:lo+xh<=a₀.size)(g:Good a₀ m st)(u:Up lt (AX st) lo (lo+n))
  (h:∀n,1<=n->n<=xh->Up lt (AX st) lo (lo+n)->Q (some n) st):wpS (Ag prog w) A E s (do
   let mut n:=n
   for _ in [n:xh] do
    let some o <-uP (lo+n) (lo+n - 1) | return none
    if o then break
    n:=n+1
   return some n) Q st:=by
 refine Ae (Hy (Ds (I:=λx c l=>l=st/\c=(none,x)/\Up lt (AX st) lo (lo+x))
  (Q:=λc l=>l=st/\∃n,c=(none,n)/\1<=n/\n<=xh/\Up lt (AX st) lo (lo+n)) ?step ?fin ⟨rfl,rfl,u⟩) ?post)
 case fin=>
  rintro c l ⟨rfl,rfl,u⟩
  have e:max n xh=xh:=by lia
  rw[e]at u ⊢;exact⟨rfl,xh,rfl,by lia,AO _,u⟩
 case step=>
  rintro x c l B G ⟨rfl,rfl,u⟩;dsimp only;refine Ae (Qa C g (by lia) (by lia) ?_)
  cases H:lt (ix (AX l) (lo+x)) (ix (AX l) (lo+x - 1))with
  | true=>exact Af ⟨rfl,x,rfl,by lia,by lia,u⟩
  | false=>exact Af ⟨rfl,rfl,Up.grow (hi:=lo+x) O g (by lia) u (by lia) H⟩
 case post=>
  rintro c l ⟨rfl,n,rfl,Ϭ,J,u⟩;exact Af (h n Ϭ J u)
def wpS_countRun{st}{lo xh}{Q}(C:M5 prog w A s a₀ H lt)(O:Ord (·∈a₀) lt)(h1:1<=xh)(hn:lo+xh<=a₀.size)(g:Good a₀ H st)
  (h:∀l n,Good a₀ H l->1<=n->n<=xh->Up lt (AX l) lo (lo+n)->Out (AX st) (AX l) lo (lo+xh)->AZ l=AZ st->Q (some n) l):wpS (Ag prog w) A E s (countRun' lo xh) Q st:=by
 rw[countRun'_eq]
 refine Ae (Hy (Ds (I:=λx c l=>l=st/\c=(none,x)/\Up lt (AX st) lo (lo+x))
  (Q:=λc l=>l=st/\∃n,c=(none,n)/\1<=n/\n<=xh/\Up lt (AX st) lo (lo+n)/\(n=xh∨lt (ix (AX st) (lo+n)) (ix (AX st) (lo+n - 1))=true)) ?step ?fin ?init) ?post)
 case init=>
  refine⟨rfl,rfl,λi j a1 a2 a3=>?_⟩
  have:i=j:=by lia
  subst this;exact O.irr (g.mem (by lia))
 case fin=>
  rintro c l ⟨rfl,rfl,u⟩
  have e:max 1 xh=xh:=by lia
  rw[e]at u ⊢;exact⟨rfl,xh,rfl,h1,AO _,u,.inl rfl⟩
 case step=>
  rintro x c l Y hx2 ⟨rfl,rfl,u⟩;dsimp only;refine Ae (Qa C g (by lia) (by lia) ?_)
  cases N:lt (ix (AX l) (lo+x)) (ix (AX l) (lo+x - 1))with
  | true=>exact Af ⟨rfl,x,rfl,Y,by lia,u,.inr N⟩
  | false=>exact Af ⟨rfl,rfl,Up.grow (hi:=lo+x) O g (by lia) u (by lia) N⟩
 case post=>
  rintro c l ⟨rfl,n,rfl,Ϭ,yB,u,hd⟩;dsimp only
  by_cases U:n=xh
  ·rw[qX (by simpa using U)]
   exact Af (h l n g Ϭ yB u .refl rfl)
  ·rw[qY (by simpa using U)]
   have y9:=hd.resolve_left U
   have P:∀(xu:BM),Good a₀ H xu->Dn lt (AX xu) lo (lo+(n+1))->Out (AX l) (AX xu) lo (lo+xh)->AZ xu=AZ l ->
     wpS (Ag prog w) A E s (do
      liftM (rule "list.sort.descending-run")
      let mut n:=n+1
      let mut neq:=0
      for _ in [n:xh] do
       let some Z <-uP (lo+n) (lo+n - 1) | return none
       if Z then
        if neq > 0 then R7 (lo+n - (neq+1)) (lo+n)
        neq:=0
       else
        let some ψ <-uP (lo+n - 1) (lo+n) | return none
        if ψ then break
        neq:=neq+1
       n:=n+1
      if neq > 0 then R7 (lo+n - (neq+1)) (lo+n)
      R7 lo (lo+n)
      for _ in [n:xh] do
       let some Z <-uP (lo+n) (lo+n - 1) | return none
       if Z then break
       n:=n+1
      return some n) Q xu:=by
    intro xu g1 d1 o1 p1;refine Ae (LO ?_)
    refine Ae (Hy (Ds (I:=λx c B=>Good a₀ H B/\∃q,c=(none,x,q)/\q+1<=x/\Dn lt (AX B) lo (lo+x)/\Up lt (AX B) (lo+x - (q+1)) (lo+x)/\Out (AX l) (AX B) lo (lo+xh)/\AZ B=AZ l)
     (Q:=λc B=>Good a₀ H B/\∃n q,c=(none,n,q)/\n<=xh/\q+1<=n/\Dn lt (AX B) lo (lo+n)/\Up lt (AX B) (lo+n - (q+1)) (lo+n)/\Out (AX l) (AX B) lo (lo+xh)/\AZ B=AZ l) ?dstep ?dfin ?dinit) ?dpost)
    case dinit=>
     refine⟨g1,0,rfl,by lia,d1,?_,o1,p1⟩;have:=Z0 O g1 (lo:=lo+n) (by lia);rwa [show lo+(n+1) - (0+1)=lo+n by lia,show lo+(n+1)=lo+n+1 by lia]
    case dfin=>
     rintro c B ⟨G,q,rfl,N,d2,S,J,L⟩
     have e:max (n+1) xh=xh:=by lia
     rw[e]at d2 S N ⊢;exact⟨G,xh,q,rfl,AO _,N,d2,S,J,L⟩
    case dstep=>
     rintro x c B Y hx2 ⟨G,q,rfl,N,d2,S,J,L⟩;dsimp only;refine Ae (Qa C G (by lia) (by lia) ?_)
     cases hs:lt (ix (AX B) (lo+x)) (ix (AX B) (lo+x - 1))with
     | true=>
      dsimp only;rw[qX rfl];have xH:=O.asym _ _ (G.mem (show lo+x < _ by lia)) (G.mem (show lo+x - 1 < _ by lia)) hs
      by_cases ω:q > 0
      ·rw[qX ω,OX]
       have o:lo+x<=(AX B).size:=by rw[G.size];lia
       have X:Good a₀ H (setArr B (Lq (AX B) (lo+x - (q+1)) (lo+x) ((lo+x - (lo+x - (q+1))) / 2))):=G.setArr (XY _ _ _ _);have d3:=Dn.part (lt:=lt) (lo:=lo) o (show lo<=lo+x - (q+1) by lia) (by omega) d2 S;refine Ae (D6 (Af ⟨X,0,rfl,by lia,?_,?_,J.trans (MX o (by lia) (by lia)),L⟩))
       ·refine Dn.grow (hi:=lo+x) O X (by lia) d3 (by lia) ?_
        show lt (ix (Lq (AX B) (lo+x - (q+1)) (lo+x) ((lo+x - (lo+x - (q+1))) / 2)) (lo+x - 1)) (ix (Lq (AX B) (lo+x - (q+1)) (lo+x) ((lo+x - (lo+x - (q+1))) / 2)) (lo+x))=false;rw[E0 o,E0 o,qX (by omega),qY (by lia)];exact O.ntr _ _ _ (G.mem (by lia)) (G.mem (show lo+x - 1 < _ by lia)) (G.mem (by omega)) xH (d2 _ _ (by lia) (by omega) (by lia))
       ·have:=Z0 O X (lo:=lo+x) (by lia)
        rwa [show lo+(x+1) - (0+1)=lo+x by lia,show lo+(x+1)=lo+x+1 by lia]
      ·rw[qY ω]
       refine Af ⟨G,0,rfl,by lia,Dn.grow (hi:=lo+x) O G (by lia) d2 (by lia) xH,?_,J,L⟩;have:=Z0 O G (lo:=lo+x) (by lia);rwa [show lo+(x+1) - (0+1)=lo+x by lia,show lo+(x+1)=lo+x+1 by lia]
     | false=>
      dsimp only;rw[qY AH];refine Ae (Qa C G (by lia) (by lia) ?_)
      cases hl:lt (ix (AX B) (lo+x - 1)) (ix (AX B) (lo+x))with
      | true=>exact Af ⟨G,x,q,rfl,by lia,N,d2,S,J,L⟩
      | false=>
       refine Af ⟨G,q+1,rfl,by lia,Dn.grow (hi:=lo+x) O G (by lia) d2 (by lia) hl,?_,J,L⟩;rw[show lo+(x+1) - (q+1+1)=lo+x - (q+1) by lia];exact Up.grow (hi:=lo+x) O G (by lia) S (by omega) hs
    case dpost=>
     rintro c B ⟨G,m,q,rfl,hm,N,d2,S,J,L⟩;dsimp only
     have o:lo+m<=(AX B).size:=by rw[G.size];lia
     have last:∀yA,Good a₀ H yA->Dn lt (AX yA) lo (lo+m)->Out (AX l) (AX yA) lo (lo+xh)->AZ yA=AZ l->∀(R:StateT BM Sem (Option Nat)),R=(do
        let mut n:=m
        for _ in [n:xh] do
         let some Z <-uP (lo+n) (lo+n - 1) | return none
         if Z then break
         n:=n+1
        return some n)->wpS (Ag prog w) A E s (do R7 lo (lo+m);R) Q yA:=by
      rintro yA X d3 o3 p3 R rfl
      have T:lo+m<=(AX yA).size:=by rw[X.size];lia
      rw[OX];refine Ae (D6 ?_);have g4:Good a₀ H (setArr yA (Lq (AX yA) lo (lo+m) ((lo+m - lo) / 2))):=X.setArr (XY _ _ _ _)
      exact lr C O (by lia) hm hn g4 (Dn.flip T d3) λk k1 k2 k3=>h _ k g4 k1 k2 k3 (o3.trans (MX T (by lia) (by lia))) p3
     by_cases ω:q > 0
     ·rw[qX ω,OX]
      refine Ae (D6 ?_);exact last _ (G.setArr (XY _ _ _ _)) (Dn.part o (by lia) (by omega) d2 S) (J.trans (MX o (by lia) (by lia))) L _ rfl
     ·rw[qY ω]
      exact last _ G d2 J L _ rfl
   have xH:=O.asym _ _ (g.mem (show lo+n < _ by lia)) (g.mem (show lo+n - 1 < _ by omega)) y9
   by_cases hn0:n > 1
   ·rw[qX hn0]
    refine Ae (Qa C g (by lia) (by omega) ?_)
    cases hr:lt (ix (AX l) lo) (ix (AX l) (lo+n - 1))with
    | true=>exact Af (h l n g Ϭ yB u .refl rfl)
    | false=>
     dsimp only;rw[qY AH,OX]
     have o:lo+n<=(AX l).size:=by rw[g.size];lia
     have g1:Good a₀ H (setArr l (Lq (AX l) lo (lo+n) ((lo+n - lo) / 2))):=g.setArr (XY _ _ _ _)
     have al:∀i j,lo<=i->i < lo+n->lo<=j->j < lo+n->lt (ix (AX l) i) (ix (AX l) j)=false:=λi j i1 i2 j1 j2=>by
      have q1:=u j (lo+n - 1) (by omega) (by lia) (by omega);have q2:=u lo i (by lia) (by omega) (by omega);exact O.ntr _ _ _ (g.mem (by lia)) (g.mem (show lo < _ by lia)) (g.mem (by lia)) (O.ntr _ _ _ (g.mem (by lia)) (g.mem (show lo+n - 1 < _ by lia)) (g.mem (by lia)) q1 hr) q2
     refine Ae (D6 ?_);refine P _ g1 ?_ (MX o (by lia) (by lia)) rfl;refine Dn.grow (hi:=lo+n) O g1 (by lia) (λi j a1 a2 a3=>?_) (by lia) ?_
     ·show lt (ix (Lq (AX l) lo (lo+n) ((lo+n - lo) / 2)) i) (ix (Lq (AX l) lo (lo+n) ((lo+n - lo) / 2)) j)=false
      rw[E0 o,E0 o,qX (by lia),qX (by lia)];exact al _ _ (by omega) (by omega) (by omega) (by omega)
     ·show lt (ix (Lq (AX l) lo (lo+n) ((lo+n - lo) / 2)) (lo+n - 1)) (ix (Lq (AX l) lo (lo+n) ((lo+n - lo) / 2)) (lo+n))=false
      rw[E0 o,E0 o,qX (by omega),qY (by lia),show lo+(lo+n) - 1 - (lo+n - 1)=lo by omega];exact O.ntr _ _ _ (g.mem (by lia)) (g.mem (show lo+n - 1 < _ by lia)) (g.mem (by lia)) xH hr
   ·rw[qY hn0]
    have e:n=1:=by lia
    subst e;refine P _ g (Dn.grow (hi:=lo+1) O g (by lia) (λi j a1 a2 a3=>?_) (by lia) xH) .refl rfl
    have e1:i=lo:=by lia
    have e2:j=lo:=by lia
    rw[e1,e2];exact O.irr (g.mem (by lia))
end
def wM:Bool->BQ->Array BQ->Nat->Nat->Nat->StateT BM Sem (Option Nat):=sortPriv% PySem.Builtin.gallop
section
abbrev BS:=Option (Option Nat)×Nat×Nat
def pN{st:BM}{p:Nat->Bool}{n lo hi:Nat}{F:Nat->BS->StateT BM Sem (ForInStep BS)}{T:BS->StateT BM Sem (Option Nat)}{Q:Option Nat->BM->Prop}(H:lo<=hi)(J:hi<=n)
  (O:∀i,i < lo->p i=true) (P:∀i,hi<=i->i < n->p i=false) (mono:∀i j,i<=j->j < n->p j=true->p i=true)
  (S:∀x l h (R:ForInStep BS->BM->Prop),l<=h->h<=n->(l ≥ h->R (.done (none,l,h)) st)->(l < h->p (l+(h - l) / 2)=true->R (.yield (none,l+(h - l) / 2+1,h)) st)->(l < h->p (l+(h - l) / 2)=false->R (.yield (none,l,l+(h - l) / 2)) st) ->
   wpS (Ag prog w) A E s (F x (none,l,h)) R st)
  (U:∀l h,h<=n->(∀i,i < h->p i=true)->(∀i,h<=i->i < n->p i=false)->wpS (Ag prog w) A E s (T (none,l,h)) Q st):wpS (Ag prog w) A E s (forIn [0:n] (none,lo,hi) F >>= T) Q st:=by
 refine Ae (Hy (Ds (I:=λx c m=>m=st/\∃l h,c=(none,l,h)/\l<=h/\h<=n/\h - l<=n - x/\(∀i,i < l->p i=true)/\(∀i,h<=i->i < n->p i=false))
  (Q:=λc m=>m=st/\∃l h,c=(none,l,h)/\h<=n/\(∀i,i < h->p i=true)/\(∀i,h<=i->i < n->p i=false)) ?step ?fin ⟨rfl,lo,hi,rfl,H,J,by lia,O,P⟩) ?post)
 case fin=>
  rintro c m ⟨rfl,l,h,rfl,N,o,X,B,C⟩
  have:l=h:=by lia
  subst this;exact⟨rfl,l,l,rfl,o,B,C⟩
 case step=>
  rintro x c m _ hx ⟨rfl,l,h,rfl,N,o,X,B,C⟩
  refine S x l h _ N o (λyd=>?_) (λY G=>?_) λY G=>?_
  ·have:l=h:=by lia
   subst this;exact⟨rfl,l,l,rfl,o,B,C⟩
  ·exact⟨rfl,_,_,rfl,by lia,o,by omega,λi hi=>mono i (l+(h - l) / 2) (by lia) (by lia) G,C⟩
  ·refine⟨rfl,_,_,rfl,by lia,by lia,by omega,B,λi Z L=>?_⟩
   cases e:p i with
   | false=>rfl
   | true=>rw[mono _ i Z L e]at G;cases G
 case post=>
  rintro c m ⟨rfl,l,h,rfl,o,B,C⟩;exact U l h o B C
def cm{st:BM}{q:Nat->Bool}{n mx:Nat}{F:Nat->BS->StateT BM Sem (ForInStep BS)}{T:BS->StateT BM Sem (Option Nat)}{Q:Option Nat->BM->Prop}(P:mx<=n)(H:q 0=true)
  (J:∀x a b (R:ForInStep BS->BM->Prop),a < b->(b ≥ mx->R (.done (none,a,b)) st)->(b < mx->q b=false->R (.done (none,a,b)) st)->(b < mx->q b=true->R (.yield (none,b,2 * b+1)) st)->wpS (Ag prog w) A E s (F x (none,a,b)) R st)
  (L:∀a b,a < b->q a=true->(a=0∨a < mx)->(b < mx->q b=false)->wpS (Ag prog w) A E s (T (none,a,b)) Q st):wpS (Ag prog w) A E s (forIn [0:n] (none,0,1) F >>= T) Q st:=by
 refine Ae (Hy (Ds (I:=λx c l=>l=st/\∃a b,c=(none,a,b)/\a < b/\x+1<=b/\q a=true/\(a=0∨a < mx))
  (Q:=λc l=>l=st/\∃a b,c=(none,a,b)/\a < b/\q a=true/\(a=0∨a < mx)/\(b < mx->q b=false)) ?step ?fin ⟨rfl,0,1,rfl,by lia,by lia,H,.inl rfl⟩) ?post)
 case fin=>
  rintro c l ⟨rfl,a,b,rfl,m,N,o,B⟩;exact⟨rfl,a,b,rfl,m,o,B,λh=>by lia⟩
 case step=>
  rintro x c l _ S ⟨rfl,a,b,rfl,m,N,o,B⟩
  refine J x a b _ m (λU=>?_) (λG C=>?_) λG C=>?_
  ·exact⟨rfl,a,b,rfl,m,o,B,λh=>by lia⟩
  ·exact⟨rfl,a,b,rfl,m,o,B,λ_=>C⟩
  ·exact⟨rfl,b,2 * b+1,rfl,by lia,by lia,C,.inr G⟩
 case post=>
  rintro c l ⟨rfl,a,b,rfl,m,o,B,O⟩;exact L a b m o B O
def IL{st:BM}{left:Bool}{key:BQ}{arr:Array BQ}{base n hint:Nat}{Q:Option Nat->BM->Prop}(C:M5 prog w A s a₀ κ lt)(g:Good a₀ κ st)(p:Nat->Bool)
  (zM:key∈a₀) (U:∀i,i < n->base+i < arr.size/\ix arr (base+i)∈a₀) (hp:∀i,i < n->p i=if left=true then lt (ix arr (base+i)) key else !lt key (ix arr (base+i)))
  (mono:∀i j,i<=j->j < n->p j=true->p i=true) (hh:hint < n)
  (h:∀k,k<=n->(∀i,i < k->p i=true)->(∀i,k<=i->i < n->p i=false)->Q (some k) st):wpS (Ag prog w) A E s (wM left key arr base n hint) Q st:=by
 have B:∀i,i < n->∀R:Option Bool->BM->Prop,R (some (p i)) st->wpS (Ag prog w) A E s (do let x <-elem' arr (base+i);if left=true then lt' x key else do let y <-lt' key x;pure (y.map (!·))) R st:=by
  intro i G R Z;obtain⟨S,J⟩:=U i G;rw[lS,D1 S];refine Ae (Af ?_);rw[hp i G]at Z
  cases left with
  | true=>exact Sf C g J zM Z
  | false=>exact Ae (Sf C g zM J (Af Z))
 refine(Ae ?_:wpS _ _ _ _ (wM left key arr base n hint) Q st);refine B hint hh _ ?_
 have fin:∀(lo G:Nat) {F:Nat->BS->StateT BM Sem (ForInStep BS)} {T:BS->StateT BM Sem (Option Nat)},lo<=G->G<=n->(∀i,i < lo->p i=true)->(∀i,G<=i->i < n->p i=false) ->
   (∀x l m (R:ForInStep BS->BM->Prop),l<=m->m<=n->(l ≥ m->R (.done (none,l,m)) st)->(l < m->p (l+(m - l) / 2)=true->R (.yield (none,l+(m - l) / 2+1,m)) st)->(l < m->p (l+(m - l) / 2)=false->R (.yield (none,l,l+(m - l) / 2)) st) ->
    wpS (Ag prog w) A E s (F x (none,l,m)) R st)->(∀l m,T (none,l,m)=pure (some m))->wpS (Ag prog w) A E s (forIn [0:n] (none,lo,G) F >>= T) Q st:=λlo G F T S J h3 h4 hF hT=>
  pN S J h3 h4 mono hF λl m q1 q2 q3=>by rw[hT];exact Af (h m q1 q2 q3)
 cases hq:p hint with
 | true=>
  dsimp only;rw[qX rfl]
  refine cm (q:=λi=>decide (hint+i < n)&&p (hint+i)) (mx:=n - hint) (by lia) (by simp[hq,hh]) (λx a b R ϐ L N O=>?_) λa b ϐ H ha hb=>?_
  ·dsimp only
   by_cases o:b ≥ n - hint
   ·rw[qX o];exact Af (L o)
   ·rw[qY o]
    refine Ae (B (hint+b) (by lia) _ ?_);have I:decide (hint+b < n)=true:=wX (by lia)
    cases e:p (hint+b)with
    | true=>exact Af (O (by lia) (by simp[I,e]))
    | false=>exact Af (N (by lia) (by simp[I,e]))
  ·dsimp only
   have Y:p (hint+a)=true:=by simp at H;exact H.2
   have X:hint+a < n:=by simp at H;exact H.1
   refine fin (hint+a+1) (hint+min b (n - hint)) (by omega) (by omega) (λi G=>mono i (hint+a) (by lia) X Y) (λi S J=>?_) (λx l m R l1 l2 L N O=>?_) λl m=>rfl
   ·by_cases P:b < n - hint
    ·have:=hb P
     have I:decide (hint+b < n)=true:=wX (by lia);rw[I,Xd]at this
     cases e:p i with
     | false=>rfl
     | true=>rw[mono (hint+b) i (by lia) J e]at this;cases this
    ·omega
   ·dsimp only
    by_cases o:l ≥ m
    ·rw[qX o];exact Af (L o)
    ·rw[qY o]
     refine Ae (B (l+(m - l) / 2) (by lia) _ ?_)
     cases e:p (l+(m - l) / 2)with
     | true=>exact Af (N (by lia) e)
     | false=>exact Af (O (by lia) e)
 | false=>
  dsimp only;rw[qY AH]
  refine cm (q:=λi=>decide (i<=hint)&&!p (hint - i)) (mx:=hint+1) (by lia) (by simp[hq]) (λx a b R ϐ L N O=>?_) λa b ϐ H ha hb=>?_
  ·dsimp only
   by_cases o:b ≥ hint+1
   ·rw[qX o];exact Af (L o)
   ·rw[qY o]
    refine Ae (B (hint - b) (by omega) _ ?_);have I:decide (b<=hint)=true:=wX (by lia)
    cases e:p (hint - b)with
    | true=>exact Af (N (by lia) (by simp[I,e]))
    | false=>exact Af (O (by lia) (by simp[I,e]))
  ·dsimp only
   have Y:p (hint - a)=false:=by simp at H;exact H.2
   have X:a<=hint:=by simp at H;exact H.1
   refine fin (hint+1 - min b (hint+1)) (hint - a) (by omega) (by omega) (λi G=>?_) (λi S J=>?_) (λx l m R l1 l2 L N O=>?_) λl m=>rfl
   ·by_cases P:b < hint+1
    ·have:=hb P
     have I:decide (b<=hint)=true:=wX (by lia);rw[I,Xd]at this;exact mono i (hint - b) (by omega) (by lia) (by simpa using this)
    ·omega
   ·cases e:p i with
    | false=>rfl
    | true=>rw[mono (hint - a) i S J e]at Y;cases Y
   ·dsimp only
    by_cases o:l ≥ m
    ·rw[qX o];exact Af (L o)
    ·rw[qY o]
     refine Ae (B (l+(m - l) / 2) (by lia) _ ?_)
     cases e:p (l+(m - l) / 2)with
     | true=>exact Af (N (by lia) e)
     | false=>exact Af (O (by lia) e)
end
structure MI(R:BQ->BQ->Prop)(T o ra rb:List BQ):Prop where
 perm:(o++(ra++rb)).Perm T
 srt:o.Pairwise R
 low:∀x∈o,∀y∈ra++rb,R x y
 sa:ra.Pairwise R
 sb:rb.Pairwise R
structure ND(R:BQ->BQ->Prop)(T r:List BQ):Prop where
 perm:r.Perm T
 srt:r.Pairwise R
section
def MI.takeA(m:MI R T o (xs++B) rb)(h:∀x∈xs,∀y∈rb,R x y):MI R T (o++xs) B rb:=by
 have A:=BK.mp m.sa;refine⟨by simpa[Bw]using m.perm,BK.mpr ⟨m.srt,A.1,λx l y s=>m.low x l y (by simp[s])⟩,λx l y s=>?_,A.2.1,m.sb⟩
 rcases Av.mp l with l | l
 ·exact m.low x l y (by rcases Av.mp s with h | h <;> simp[h])
 ·rcases Av.mp s with s | s
  ·exact A.2.2 x l y s
  ·exact h x l y s
def MI.takeB(m:MI R T o B (xs++rb))(h:∀x∈xs,∀y∈B,R x y):MI R T (o++xs) B rb:=by
 have A:=BK.mp m.sb;refine⟨?_,BK.mpr ⟨m.srt,A.1,λx l y s=>m.low x l y (by simp[s])⟩,λx l y s=>?_,m.sa,A.2.1⟩
 ·refine List.Perm.trans ?_ m.perm
  rw[Bw];refine Ls o ?_;rw[<-Bw,<-Bw];exact Um rb OG
 ·rcases Av.mp l with l | l
  ·exact m.low x l y (by rcases Av.mp s with h | h <;> simp[h])
  ·rcases Av.mp s with s | s
   ·exact h x l y s
   ·exact A.2.2 x l y s
def MI.endA(m:MI R T o l []):ND R T (o++l):=by
 refine⟨by simpa using m.perm,BK.mpr ⟨m.srt,m.sa,λx s y A=>m.low x s y (by simp[A])⟩⟩
def MI.endB(m:MI R T o [] l):ND R T (o++l):=by
 refine⟨by simpa using m.perm,BK.mpr ⟨m.srt,m.sb,λx s y A=>m.low x s y (by simp[A])⟩⟩
def MI.last(m:MI R T o l s)(h:∀y∈s,∀x∈l,R y x):ND R T (o++(s++l)):=by
 refine⟨(Ls o OG).trans m.perm,BK.mpr ⟨m.srt,BK.mpr ⟨m.sb,m.sa,h⟩,λx A y B=>m.low x A y (by rcases Av.mp B with h | h <;> simp[h])⟩⟩
end
def SR(h:i < a.size):a.toList.drop i=ix a i :: a.toList.drop (i+1):=by
 rw[DV (by simpa using h)]
 congr 1
 have:=D1 h;rw[getElem?_pos a i h]at this;simpa using this
def KB{a:Array BQ}{i k:Nat}(h:i+k<=a.size):a.toList.drop i=(a.extract i (i+k)).toList++a.toList.drop (i+k):=by
 have e:(a.extract i (i+k)).toList=(a.toList.drop i).take k:=by simp[RM]
 rw[e,<-VR,Iu]
def SJ(h:i+k<=a.size)(l:x∈(a.extract i (i+k)).toList):∃j,j < k/\x=ix a (i+j):=by
 rw[Bj,R9]at l;obtain⟨j,m,rfl⟩:=l;refine⟨j,by lia,?_⟩;have:=D1 (xs:=a) (i:=i+j) (by lia);rw[getElem?_pos a _ (by lia)]at this;simpa using this
def Mi(a:Array BQ)(i:Nat):(a.extract i a.size).toList=a.toList.drop i:=by
 simp[RM];exact DO (by simp)
def HE(l:x∈a.toList.drop i):∃j,i<=j/\j < a.size/\x=ix a j:=by
 obtain⟨k,m,rfl⟩:=bY.mp l;simp at m;refine⟨i+k,by lia,by omega,?_⟩;have:=D1 (xs:=a) (i:=i+k) (by omega);rw[getElem?_pos a _ (by omega)]at this;simpa using this
def SB{l:Type}{M:Zk}{A:Bs}{E:AI->AK->Prop}{s:AK}{c:Prop}[Decidable c]{a b:StateT BM Sem l}{Q:l->BM->Prop}{st:BM}(m:c->wpS M A E s a Q st)(hb:¬c->wpS M A E s b Q st):wpS M A E s (if c then a else b) Q st:=by
 split
 ·exact m ‹_›
 ·exact hb ‹_›
def EF{l:Type}{M:Zk}{A:Bs}{E:AI->AK->Prop}{s:AK}{x y:Nat}{a b:StateT BM Sem l}{Q:l->BM->Prop}{st:BM}(m:x=y->wpS M A E s a Q st)(hb:¬x=y->wpS M A E s b Q st):wpS M A E s (if (x==y)=true then a else b) Q st:=SB (λh=>m (by simpa using h)) λh=>hb (by simpa using h)
def LP{M:Zk}{A:Bs}{E:AI->AK->Prop}{s:AK}{σ m B:Type}{a b:Nat}{f:Nat->m->StateT σ Sem (ForInStep m)}{k:m->StateT σ Sem B}{R:B->σ->Prop}(I:Nat->m->σ->Prop){Q:m->σ->Prop}
  (step:∀F,f=F->∀(i:Nat) (c:m) (st:σ),a<=i->i < b->I i c st->wpS M A E s (F i c) (λr l=>match r with | .done o=>Q o l | .yield o=>I (i+1) o l) st)
  (fin:∀c st,I (max a b) c st->Q c st) {c:m} {st:σ} (init:I a c st) (post:∀K,k=K->∀c l,Q c l->wpS M A E s (K c) R l):wpS M A E s (forIn [a:b] c f >>= k) R st:=Ae (Hy (Ds I (step f rfl) fin init) (post k rfl))
def gi{m l:Type}{M:Zk}{A:Bs}{E:AI->AK->Prop}{s:AK}{c:l->Prop}{d:∀i,Decidable (c i)}{F t:l->StateT BM Sem m}{Q:m->BM->Prop}{st:BM}(h:∀i,wpS M A E s (F i) Q st)(o:(∀i,wpS M A E s (F i) Q st)->∀i,wpS M A E s (t i) Q st)(i:l):wpS M A E s (if c i then t i else F i) Q st:=SB (λ_=>o h i) λ_=>h i
def SA{o l m:Type}{M:Zk}{A:Bs}{E:AI->AK->Prop}{s:AK}{c:l->m->Prop}{d:∀i j,Decidable (c i j)}{F t:l->m->StateT BM Sem o}{x:l}{y:m}{Q:o->BM->Prop}{st:BM}(I:l->m->Prop)(h:∀i j,I i j->wpS M A E s (F i j) Q st)(B:(∀i j,I i j->wpS M A E s (F i j) Q st)->c x y->wpS M A E s (t x y) Q st)(C:¬c x y->I x y):∀i,x=i->∀j,y=j->wpS M A E s (if c i j then t i j else F i j) Q st:=λ_ e _ f=>e▸f▸SB (B h) λn=>h x y (C n)
def QZ{l:Type}{M:Zk}{A:Bs}{E:AI->AK->Prop}{s:AK}{c:Prop}{d:Decidable c}{x:l}{Q:ForInStep l->BM->Prop}{st:BM}(h:Q (.done x) st/\Q (.yield x) st):wpS M A E s (if c then pure (.done x)else pure (.yield x)) Q st:=SB (λ_=>Af h.1) λ_=>Af h.2
section
variable{prog:Bf}{w:CH}{A:Bs}{E:AI->AK->Prop}{s:AK}{a₀:Array BQ}{κ:QX}{lt:BQ->BQ->Bool}
def Sg{st:BM}{a:Array BQ}{i:Nat}{Q:BQ->BM->Prop}(h:i < a.size)(l:Q (ix a i) st):wpS (Ag prog w) A E s (elem' a i) Q st:=by
 rw[lS,D1 h];exact Af l
def Cv{l:Type}{st:BM}{a:Array BQ}{i:Nat}{f:BQ->StateT BM Sem l}{Q:l->BM->Prop}(h:i < a.size)(m:wpS (Ag prog w) A E s (f (ix a i)) Q st):wpS (Ag prog w) A E s (elem' a i >>= f) Q st:=Ae (Sg h m)
def mLo:Array BQ->Array BQ->StateT BM Sem (Array BQ):=sortPriv% PySem.Builtin.mergeLo
def mHi:Array BQ->Array BQ->StateT BM Sem (Array BQ):=sortPriv% PySem.Builtin.mergeHi
structure QR(a₀:Array BQ)(κ:QX)(st st':BM):Prop where
 good:Good a₀ κ st'
 arr:AX st'=AX st
 pend:AZ st'=AZ st
def QR.gal{st l:BM}(h:QR a₀ κ st l)(n:Nat):QR a₀ κ st (Ia (kindOf l) (AX l) (AZ l) n (KM l)):=⟨⟨h.good.perm,h.good.kind,h.good.failed⟩,h.arr,h.pend⟩
abbrev Rl(lt:BQ->BQ->Bool)(x y:BQ):Prop:=lt y x=false
def X7(O:Ord (·∈a₀) lt){a:Array BQ}(ma:∀i,i < a.size->ix a i∈a₀)(m:a.toList.Pairwise (Rl lt)):∀i j,i<=j->j < a.size->Rl lt (ix a i) (ix a j):=λi j o l=>by
 by_cases e:i=j
 ·subst e;exact O.irr (ma i l)
 ·have B:=SR (a:=a) (i:=i) (by lia)
  have:=m.sublist (List.drop_sublist i a.toList);rw[B]at this;refine(KQ.mp this).1 _ ?_;rw[show a.toList.drop (i+1)=(a.extract (i+1) (i+1+(j - (i+1)))).toList++a.toList.drop (i+1+(j - (i+1)))from KB (by lia),show i+1+(j - (i+1))=j by lia,SR l];simp
def Wz(ma:∀x∈a.toList,x∈a₀):∀i,i < a.size->ix a i∈a₀:=λi l=>ma _ (Bj.mpr (DW (D1 l)))
def SC{st:BM}{n:Nat}{Q:Unit->BM->Prop}(h:Q () (Ia (kindOf st) (AX st) (AZ st) n (KM st))):wpS (Ag prog w) A E s ((sortPriv% PySem.Builtin.setMinGallop) n) Q st:=D6 h
abbrev L7:=Option (Array BQ)×Array BQ×Nat×Nat×Nat×Nat×Nat
abbrev GL(M:Array BQ->Nat->Nat->Prop)(p q n t:Nat)(o:Array BQ)(i j:Nat):Prop:=M o i j/\i+1 < p/\j < q/\t+n<=i+j
def ll{st:BM}{a b:Array BQ}{Q:Array BQ->BM->Prop}(C:M5 prog w A s a₀ κ lt)(O:Ord (·∈a₀) lt)(g:Good a₀ κ st)
  (ma:∀x∈a.toList,x∈a₀) (mb:∀x∈b.toList,x∈a₀) (sa:a.toList.Pairwise (Rl lt)) (sb:b.toList.Pairwise (Rl lt)) (na:0 < a.size) (nb:0 < b.size)
  (h0:∀x∈a.toList,Rl lt (ix b 0) x) (h1:∀y∈b.toList,Rl lt y (ix a (a.size - 1)))
  (h:∀r B,QR a₀ κ st B->ND (Rl lt) (a.toList++b.toList) r.toList->Q r B):wpS (Ag prog w) A E s (mLo a b) Q st:=by
 have R:=Wz ma;have S:=Wz mb;have ua:=X7 O R sa;have ub:=X7 O S sb
 have tr:∀x y z:BQ,x∈a₀->y∈a₀->z∈a₀->Rl lt x y->Rl lt y z->Rl lt x z:=λx y z Z hy hz h1 h2=>O.ntr x y z Z hy hz h1 h2
 let M (out:Array BQ) (l ib:Nat):Prop:=MI (Rl lt) (a.toList++b.toList) out.toList (a.toList.drop l) (b.toList.drop ib)
 have tA:∀out l ib,M out l ib->l < a.size->(∀j,ib<=j->j < b.size->Rl lt (ix a l) (ix b j))->M (out.push (ix a l)) (l+1) ib:=λout l ib m hia hr=>by
  have N:MI (Rl lt) (a.toList++b.toList) out.toList ([ix a l]++a.toList.drop (l+1)) (b.toList.drop ib):=by rw[Iv,<-SR hia];exact m
  have:=N.takeA λx Z y hy=>by
   obtain⟨j,P,H,rfl⟩:=HE hy;rw[AU.mp Z];exact hr j P H
  simpa[M]using this
 have tB:∀out l ib,M out l ib->ib < b.size->(∀j,l<=j->j < a.size->Rl lt (ix b ib) (ix a j))->M (out.push (ix b ib)) l (ib+1):=λout l ib m hib hr=>by
  have N:MI (Rl lt) (a.toList++b.toList) out.toList (a.toList.drop l) ([ix b ib]++b.toList.drop (ib+1)):=by rw[Iv,<-SR hib];exact m
  have:=N.takeB λx Z y hy=>by
   obtain⟨j,P,H,rfl⟩:=HE hy;rw[AU.mp Z];exact hr j P H
  simpa[M]using this
 have sA:∀out l ib k,M out l ib->l+k<=a.size->(∀i j,i < k->ib<=j->j < b.size->Rl lt (ix a (l+i)) (ix b j))->M (out++a.extract l (l+k)) (l+k) ib:=λout l ib k m hk hr=>by
  have N:MI (Rl lt) (a.toList++b.toList) out.toList ((a.extract l (l+k)).toList++a.toList.drop (l+k)) (b.toList.drop ib):=by rw[<-KB hk];exact m
  have:=N.takeA λx Z y hy=>by
   obtain⟨j,P,H,rfl⟩:=HE hy;obtain⟨i,i1,rfl⟩:=SJ hk Z;exact hr i j i1 P H
  show MI _ _ (out++a.extract l (l+k)).toList _ _;rw[BW];exact this
 have sB:∀out l ib k,M out l ib->ib+k<=b.size->(∀i j,i < k->l<=j->j < a.size->Rl lt (ix b (ib+i)) (ix a j))->M (out++b.extract ib (ib+k)) l (ib+k):=λout l ib k m hk hr=>by
  have N:MI (Rl lt) (a.toList++b.toList) out.toList (a.toList.drop l) ((b.extract ib (ib+k)).toList++b.toList.drop (ib+k)):=by rw[<-KB hk];exact m
  have:=N.takeB λx Z y hy=>by
   obtain⟨j,P,H,rfl⟩:=HE hy;obtain⟨i,i1,rfl⟩:=SJ hk Z;exact hr i j i1 P H
  show MI _ _ (out++b.extract ib (ib+k)).toList _ _;rw[BW];exact this
 have eB:∀out l ib,M out l ib->ib=b.size->ND (Rl lt) (a.toList++b.toList) (out++a.extract l a.size++b.extract ib b.size).toList:=λout l ib m e=>by
  subst e
  have N:MI (Rl lt) (a.toList++b.toList) out.toList (a.toList.drop l) []:=by
   have:b.toList.drop b.size=[]:=by simp
   rw[<-this];exact m
  rw[BW,BW,Mi,Mi,show b.toList.drop b.size=[] by simp,Bh];exact N.endA
 have eA:∀out l ib,M out l ib->l=a.size->ND (Rl lt) (a.toList++b.toList) (out++a.extract l a.size++b.extract ib b.size).toList:=λout l ib m e=>by
  subst e
  have N:MI (Rl lt) (a.toList++b.toList) out.toList [] (b.toList.drop ib):=by
   have:a.toList.drop a.size=[]:=by simp
   rw[<-this];exact m
  rw[BW,BW,Mi,Mi,show a.toList.drop a.size=[] by simp,Bh];exact N.endB
 have eL:∀out l ib,M out l ib->l+1=a.size->ND (Rl lt) (a.toList++b.toList) (out++b.extract ib b.size++a.extract l a.size).toList:=λout l ib m e=>by
  have:=m.last λy hy x Z=>by
   obtain⟨j,P,H,rfl⟩:=HE Z;obtain⟨i,i1,i2,rfl⟩:=HE hy
   have:j=a.size - 1:=by lia
   subst this;exact h1 _ (Bj.mpr (DW (D1 i2)))
  rw[BW,BW,Mi,Mi,Bw];exact this
 have m0:M #[] 0 0:=⟨by simp,by simp,by simp,by simpa using sa,by simpa using sb⟩
 have m1:M #[ix b 0] 0 1:=by
  have:=tB #[] 0 0 m0 nb λj _ hj=>h0 _ (Bj.mpr (DW (D1 hj)))
  simpa using this
 let F (r:Array BQ):Prop:=ND (Rl lt) (a.toList++b.toList) r.toList
 refine(Ae (LO ?_):wpS _ _ _ _ (mLo a b) Q st);refine Cv nb ?_;refine(show wpS (Ag prog w) A E s (if (1==b.size)=true then _ else _) Q st from ?_)
 refine EF (λc1=>Af (h _ st ⟨g,rfl,rfl⟩ (eB _ _ _ m1 c1))) λc1=>?_
 refine EF (λc2=>Af (h _ st ⟨g,rfl,rfl⟩ (eL _ _ _ m1 c2))) λc2=>?_
 refine Ae (JG ?_)
 refine LP (I:=λx c B=>QR a₀ κ st B/\∃out l ib mg,c=(none,out,l,ib,mg)/\GL M a.size b.size x 1 out l ib)
  (Q:=λc B=>QR a₀ κ st B/\∃r z,c=(some r,z)/\F r) ?step ?fin ?init ?post
 case init=>exact⟨⟨g,rfl,rfl⟩,_,_,_,_,rfl,m1,by lia,by lia,by lia⟩
 case fin=>
  rintro c B ⟨_,out,l,ib,mg,_,_,k1,k2,k3⟩
  lia
 case post=>
  rintro F hF c B ⟨s1,r,z,rfl,f⟩;subst hF;exact Af (h r B s1 f)
 case step=>
  rintro G hG x c xu _ _ ⟨s1,out,l,ib,mg,rfl,m,k1,k2,k3⟩;subst hG
  refine LP (I:=λy c B=>B=xu/\∃U J yn X Y,c=(none,U,J,yn,X,Y)/\GL M a.size b.size y (l+ib) U J yn)
   (Q:=λc B=>B=xu/\((∃r z,c=(some r,z)/\F r)∨∃U J yn X Y,c=(none,U,J,yn,X,Y)/\GL M a.size b.size 1 (l+ib) U J yn)) ?step1 ?fin1 ?init1 ?post1
  case init1=>exact⟨rfl,out,l,ib,0,0,rfl,m,k1,k2,by lia⟩
  case fin1=>
   rintro c B ⟨rfl,U,J,yn,X,Y,rfl,N,q1,q2,q3⟩;exact⟨rfl,.inr ⟨U,J,yn,X,Y,rfl,N,q1,q2,by lia⟩⟩
  case step1=>
   rintro G hG y c B _ _ ⟨rfl,U,J,yn,X,Y,rfl,N,q1,q2,q3⟩;subst hG
   have q4:J < a.size:=by lia
   refine Cv q2 (Cv q4 (Ae (Sf C s1.good (S _ q2) (R _ q4) ?_)))
   cases e:lt (ix b yn) (ix a J)with
   | true=>
    have m2:=tB U J yn N q2 λj P H=>tr _ _ _ (S _ q2) (R _ q4) (R _ H) (O.asym _ _ (S _ q2) (R _ q4) e) (ua J j P H)
    refine Cv q2 (EF (λd=>Af ⟨rfl,.inl ⟨_,_,rfl,eB _ _ _ m2 d⟩⟩) λd=>QZ ?_)
    have z:yn+1 < b.size/\l+ib+(y+1)<=J+(yn+1):=by lia
    exact⟨⟨rfl,.inr ⟨_,J,yn+1,_,_,rfl,m2,q1,z.1,by lia⟩⟩,rfl,_,J,yn+1,_,_,rfl,m2,q1,z⟩
   | false=>
    have m2:=tA U J yn N q4 λj P H=>tr _ _ _ (R _ q4) (S _ q2) (S _ H) e (ub yn j P H)
    refine Cv q4 (EF (λd=>Af ⟨rfl,.inl ⟨_,_,rfl,eL _ _ _ m2 d⟩⟩) λd=>QZ ?_)
    have z:J+1+1 < a.size/\l+ib+(y+1)<=J+1+yn:=by lia
    exact⟨⟨rfl,.inr ⟨_,J+1,yn,_,_,rfl,m2,z.1,q2,by lia⟩⟩,rfl,_,J+1,yn,_,_,rfl,m2,z.1,q2,z.2⟩
  case post1=>
   rintro G hG c B ⟨rfl,⟨r,z,rfl,f⟩ | ⟨U,J,yn,X,Y,rfl,N⟩⟩ <;> subst hG
   ·exact Af ⟨s1,_,_,rfl,f⟩
   refine Ae (LO ?_)
   refine LP (I:=λy c vp=>QR a₀ κ st vp/\∃xq L yt yL X Y,c=(none,xq,L,yt,yL,X,Y)/\GL M a.size b.size 1 (l+ib) xq L yt)
    (Q:=λc vp=>QR a₀ κ st vp/\((∃r z,c=(some r,z)/\F r)∨∃xq L yt yL X Y,c=(none,xq,L,yt,yL,X,Y)/\GL M a.size b.size 1 (l+ib) xq L yt)) ?step2 ?fin2 ?init2 ?post2
   case init2=>exact⟨s1,U,J,yn,mg+1,X,Y,rfl,N⟩
   case fin2=>exact λc vp h=>⟨h.1,.inr h.2⟩
   case post2=>
    rintro G hG c vp ⟨s2,⟨r,z,rfl,f⟩ | ⟨xq,L,yt,yL,ac2,bc2,rfl,m2,p1,p2,p3⟩⟩ <;> subst hG
    ·exact Af ⟨s2,_,_,rfl,f⟩
    ·exact Ae (SC (Af ⟨s2.gal _,xq,L,yt,yL+1,rfl,m2,p1,p2,by lia⟩))
   case step2=>
    rintro G hG y c vp _ _ ⟨s2,xq,L,yt,yL,ac2,bc2,rfl,m2,p1,p2,p3⟩;subst hG;dsimp only
    revert yL
    refine gi (λmg3=>?_) λt i=>t _
    refine Ae (SC (Cv p2 ?_));have s3:=s2.gal mg3;refine Ae (IL (base:=L) (n:=a.size - L) (hint:=0) (arr:=a) (key:=ix b yt) (left:=false) C s3.good (λi=>!lt (ix b yt) (ix a (L+i))) (S _ p2) (λi hi=>⟨by lia,R _ (by lia)⟩) (λi hi=>rfl) (λi j hij hj e=>?_) (by lia) λk hk k1 k2=>?_)
    ·have e':lt (ix b yt) (ix a (L+j))=false:=by simpa using e
     have:=tr _ _ _ (R _ (by lia)) (R _ (by lia)) (S _ p2) (ua (L+i) (L+j) (by lia) (by lia)) e';simpa using this
    have far:∀j,L+k<=j->j < a.size->Rl lt (ix b yt) (ix a j):=λj P H=>by
     have:=k2 (j - L) (by lia) (by lia);rw[show L+(j - L)=j by lia]at this;exact O.asym _ _ (S _ p2) (R _ H) (by simpa using this)
    have m5:=sA xq L yt k m2 (by lia) λi j hi P H=>tr _ _ _ (R _ (by lia)) (S _ p2) (S _ H) (by simpa using k1 i hi) (ub yt j P H)
    generalize ho:xq=o;generalize hi:L=i
    revert o i
    refine SA (λo i=>M o i yt/\i+1 < a.size/\i=L+k) ?_ (λt hk0=>?_) λhk0=>⟨m2,p1,by lia⟩
    case refine_2=>
     refine EF (λd=>Af ⟨s3,.inl ⟨_,_,rfl,eL _ _ _ m5 d⟩⟩) λd1=>?_
     exact EF (λd=>Af ⟨s3,.inl ⟨_,_,rfl,eA _ _ _ m5 d⟩⟩) λd2=>t _ _ ⟨m5,by lia,rfl⟩
    rintro ϑ T ⟨m3,c1,hi3⟩
    have c3:l+ib+1<=T+yt:=by lia
    have c4:T < a.size:=by lia
    have m4:=tB _ _ _ m3 p2 λj h=>far j (hi3▸h)
    refine Cv p2 (EF (λd=>Af ⟨s3,.inl ⟨_,_,rfl,eB _ _ _ m4 d⟩⟩) λd=>Cv c4 ?_)
    have c5:yt+1 < b.size:=by lia
    have c6:l+ib+1+1<=T+(yt+1):=by lia
    generalize ϑ.push (ix b yt)=out4 at m4 ⊢;generalize yt+1=ib4 at m4 c5 c6 ⊢;refine Ae (IL (base:=ib4) (n:=b.size - ib4) (hint:=0) (arr:=b) (key:=ix a T) (left:=true) C s3.good (λi=>lt (ix b (ib4+i)) (ix a T)) (R _ c4) (λi hi=>⟨by lia,S _ (by lia)⟩) (λi hi=>rfl) (λi j hij hj e=>?_) (by lia) λk3 hk3 k4 k5=>?_)
    ·cases e2:lt (ix b (ib4+i)) (ix a T)with
     | true=>rfl
     | false=>
      have:=tr _ _ _ (R _ c4) (S _ (by lia)) (S _ (by lia)) e2 (ub (ib4+i) (ib4+j) (by lia) (by lia));exact nomatch (show true=false from(show lt (ix b (ib4+j)) (ix a T)=true from e).symm.trans this)
    have far2:∀j,ib4+k3<=j->j < b.size->Rl lt (ix a T) (ix b j):=λj P H=>by
     have:=k5 (j - ib4) (by lia) (by lia);rwa [show ib4+(j - ib4)=j by lia]at this
    have m6:=sB _ T ib4 k3 m4 (by lia) λi j hi P H=>tr _ _ _ (S _ (by lia)) (R _ c4) (R _ H) (O.asym _ _ (S _ (by lia)) (R _ c4) (k4 i hi)) (ua T j P H)
    generalize ho:out4=o;generalize hi:ib4=i
    revert o i
    refine SA (λo j=>M o T j/\j < b.size/\j=ib4+k3) ?_ (λt hk3=>EF (λd=>Af ⟨s3,.inl ⟨_,_,rfl,eB _ _ _ m6 d⟩⟩) λd=>t _ _ ⟨m6,by lia,rfl⟩) λhk3=>⟨m4,c5,by lia⟩
    rintro out5 ib5 ⟨m5,c7,hi5⟩
    have m7:=tA _ _ _ m5 c4 λj h=>far2 j (hi5▸h)
    refine Cv c4 (EF (λd=>Af ⟨s3,.inl ⟨_,_,rfl,eL _ _ _ m7 d⟩⟩) λd=>QZ ?_)
    have z:T+1+1 < a.size/\ib5 < b.size/\l+ib+1<=T+1+ib5:=by lia
    exact⟨⟨s3,.inr ⟨_,T+1,ib5,_,_,_,rfl,m7,z⟩⟩,s3,_,T+1,ib5,_,_,_,rfl,m7,z⟩
end
def MI.last2(m:MI R T o l s)(h:∀x∈l,∀y∈s,R x y):ND R T (o++(l++s)):=by
 refine⟨m.perm,BK.mpr ⟨m.srt,BK.mpr ⟨m.sa,m.sb,h⟩,λx A y B=>m.low x A y B⟩⟩
def ND.rev(f:ND (λx y=>Rl lt y x) T r):ND (Rl lt) T r.reverse:=⟨r.reverse_perm.trans f.perm,OH.mpr f.srt⟩
def cA(h:i < a.size):(a.toList.take (i+1)).reverse=ix a i :: (a.toList.take i).reverse:=by
 have:=D1 h;rw[getElem?_pos a i h]at this;rw[Fv,show a.toList[i]?=some (ix a i) by simpa using D1 h];simp
def X9{a:Array BQ}{i n:Nat}(h:i<=n)(l:n<=a.size):(a.toList.take n).reverse=(a.extract i n).toList.reverse++(a.toList.take i).reverse:=by
 have e:(a.extract i n).toList=(a.toList.take n).drop i:=by simp[RM,List.drop_take]
 rw[e,<-List.reverse_append]
 congr 1
 have:=Iu i (a.toList.take n);rw[List.take_take,show min i n=i by lia]at this;exact this.symm
def HD(l:x∈(a.toList.take n).reverse):∃j,j < n/\j < a.size/\x=ix a j:=by
 rw[lD]at l;obtain⟨k,m,rfl⟩:=bY.mp l;simp at m;refine⟨k,by lia,by lia,?_⟩;have:=D1 (xs:=a) (i:=k) (by lia);rw[getElem?_pos a _ (by lia)]at this;simpa using this
def Yh(l:x∈(a.extract i n).toList.reverse):∃j,i<=j/\j < n/\j < a.size/\x=ix a j:=by
 rw[lD,Bj,R9]at l;obtain⟨j,m,rfl⟩:=l;refine⟨i+j,by lia,by omega,by omega,?_⟩;have:=D1 (xs:=a) (i:=i+j) (by omega);rw[getElem?_pos a _ (by omega)]at this;simpa using this
def Jg(a:Array BQ)(n:Nat):(a.extract 0 n).toList=a.toList.take n:=by simp[RM]
section
abbrev GH(M:Array BQ->Nat->Nat->Prop)(p q n t:Nat)(o:Array BQ)(i j:Nat):Prop:=M o i j/\0 < i/\1 < j/\i<=p/\j<=q/\i+j+n<=t
def lq{st:BM}{a b:Array BQ}{Q:Array BQ->BM->Prop}(C:M5 prog w A s a₀ κ lt)(O:Ord (·∈a₀) lt)(g:Good a₀ κ st)
  (ma:∀x∈a.toList,x∈a₀) (mb:∀x∈b.toList,x∈a₀) (sa:a.toList.Pairwise (Rl lt)) (sb:b.toList.Pairwise (Rl lt)) (pa:0 < a.size) (pb:0 < b.size)
  (h0:∀x∈a.toList,Rl lt (ix b 0) x) (h1:∀y∈b.toList,Rl lt y (ix a (a.size - 1)))
  (h:∀r B,QR a₀ κ st B->ND (Rl lt) (a.toList++b.toList) r.toList->Q r B):wpS (Ag prog w) A E s (mHi a b) Q st:=by
 have P:=Wz ma;have R:=Wz mb;have ua:=X7 O P sa;have ub:=X7 O R sb
 have tr:∀x y z:BQ,x∈a₀->y∈a₀->z∈a₀->Rl lt x y->Rl lt y z->Rl lt x z:=λx y z Z hy hz h1 h2=>O.ntr x y z Z hy hz h1 h2
 let M (out:Array BQ) (l nb:Nat):Prop:=MI (λx y=>Rl lt y x) (a.toList++b.toList) out.toList (a.toList.take l).reverse (b.toList.take nb).reverse
 have tA0:∀out l nb,M out (l+1) nb->l < a.size->nb<=b.size->(∀j,j < nb->Rl lt (ix b j) (ix a l))->M (out.push (ix a l)) l nb:=λout l nb m zS zT hr=>by
  have N:MI (λx y=>Rl lt y x) (a.toList++b.toList) out.toList ([ix a l]++(a.toList.take l).reverse) (b.toList.take nb).reverse:=by rw[Iv,<-cA zS];exact m
  have:=N.takeA λx Z y hy=>by
   obtain⟨j,S,j2,rfl⟩:=HD hy;rw[AU.mp Z];exact hr j S
  simpa[M]using this
 have tB0:∀out l nb,M out l (nb+1)->nb < b.size->l<=a.size->(∀j,j < l->Rl lt (ix a j) (ix b nb))->M (out.push (ix b nb)) l nb:=λout l nb m zT zS hr=>by
  have N:MI (λx y=>Rl lt y x) (a.toList++b.toList) out.toList (a.toList.take l).reverse ([ix b nb]++(b.toList.take nb).reverse):=by rw[Iv,<-cA zT];exact m
  have:=N.takeB λx Z y hy=>by
   obtain⟨j,S,j2,rfl⟩:=HD hy;rw[AU.mp Z];exact hr j S
  simpa[M]using this
 have tA:∀out l nb,M out l nb->0 < l->l<=a.size->nb<=b.size->(∀j,j < nb->Rl lt (ix b j) (ix a (l - 1)))->M (out.push (ix a (l - 1))) (l - 1) nb:=λout l nb m h0 zS zT hr=>
  tA0 out (l - 1) nb (by rw[show l - 1+1=l by lia];exact m) (by omega) zT hr
 have tB:∀out l nb,M out l nb->0 < nb->nb<=b.size->l<=a.size->(∀j,j < l->Rl lt (ix a j) (ix b (nb - 1)))->M (out.push (ix b (nb - 1))) l (nb - 1):=λout l nb m h0 zT zS hr=>
  tB0 out l (nb - 1) (by rw[show nb - 1+1=nb by lia];exact m) (by omega) zS hr
 have sA:∀out l nb k,M out l nb->k<=l->l<=a.size->nb<=b.size->(∀i j,k<=i->i < l->j < nb->Rl lt (ix b j) (ix a i))->M (out++(a.extract k l).reverse) k nb:=λout l nb k m hk zS zT hr=>by
  have N:MI (λx y=>Rl lt y x) (a.toList++b.toList) out.toList ((a.extract k l).toList.reverse++(a.toList.take k).reverse) (b.toList.take nb).reverse:=by rw[<-X9 hk zS];exact m
  have:=N.takeA λx Z y hy=>by
   obtain⟨j,S,j2,rfl⟩:=HD hy;obtain⟨i,i1,i2,i3,rfl⟩:=Yh Z;exact hr i j i1 i2 S
  show MI _ _ (out++(a.extract k l).reverse).toList _ _;rw[BW,GV];exact this
 have sB:∀out l nb k,M out l nb->k<=nb->nb<=b.size->l<=a.size->(∀i j,k<=i->i < nb->j < l->Rl lt (ix a j) (ix b i))->M (out++(b.extract k nb).reverse) l k:=λout l nb k m hk zT zS hr=>by
  have N:MI (λx y=>Rl lt y x) (a.toList++b.toList) out.toList (a.toList.take l).reverse ((b.extract k nb).toList.reverse++(b.toList.take k).reverse):=by rw[<-X9 hk zT];exact m
  have:=N.takeB λx Z y hy=>by
   obtain⟨j,S,j2,rfl⟩:=HD hy;obtain⟨i,i1,i2,i3,rfl⟩:=Yh Z;exact hr i j i1 i2 S
  show MI _ _ (out++(b.extract k nb).reverse).toList _ _;rw[BW,GV];exact this
 have eA:∀out l nb,M out l nb->l=0->ND (Rl lt) (a.toList++b.toList) (a.extract 0 l++b.extract 0 nb++out.reverse).toList:=λout l nb m e=>by
  subst e
  have N:MI (λx y=>Rl lt y x) (a.toList++b.toList) out.toList [] (b.toList.take nb).reverse:=by simpa[M]using m
  have:=N.endB.rev;rw[BW,BW,Jg,Jg,GV];simpa using this
 have eB:∀out l nb,M out l nb->nb=0->ND (Rl lt) (a.toList++b.toList) (a.extract 0 l++b.extract 0 nb++out.reverse).toList:=λout l nb m e=>by
  subst e
  have N:MI (λx y=>Rl lt y x) (a.toList++b.toList) out.toList (a.toList.take l).reverse []:=by simpa[M]using m
  have:=N.endA.rev;rw[BW,BW,Jg,Jg,GV];simpa using this
 have eF:∀out l nb,M out l nb->nb=1->ND (Rl lt) (a.toList++b.toList) (b.extract 0 nb++a.extract 0 l++out.reverse).toList:=λout l nb m e=>by
  have:=m.last2 λx Z y hy=>by
   obtain⟨j,S,j2,rfl⟩:=HD Z;obtain⟨i,i1,i2,rfl⟩:=HD hy
   have:i=0:=by lia
   subst this;exact h0 _ (Bj.mpr (DW (D1 j2)))
  have:=this.rev;rw[BW,BW,Jg,Jg,GV];simpa using this
 have m0:M #[] a.size b.size:=by
  refine⟨?_,by simp,by simp,?_,?_⟩
  ·rw[DO (by simp),DO (by simp)]
   simpa using List.Perm.append a.toList.reverse_perm b.toList.reverse_perm
  ·rw[DO (by simp)];exact OH.mpr sa
  ·rw[DO (by simp)];exact OH.mpr sb
 have m1:M #[ix a (a.size - 1)] (a.size - 1) b.size:=by
  have:=tA #[] a.size b.size m0 pa (AO _) (AO _) λj hj=>h1 _ (Bj.mpr (DW (D1 hj)))
  simpa using this
 let F (r:Array BQ):Prop:=ND (Rl lt) (a.toList++b.toList) r.toList
 refine(Ae (LO ?_):wpS _ _ _ _ (mHi a b) Q st);refine Cv (i:=a.size - 1) (by omega) ?_;refine(show wpS (Ag prog w) A E s (if (a.size - 1==0)=true then _ else _) Q st from ?_)
 refine EF (λc1=>Af (h _ st ⟨g,rfl,rfl⟩ (eA _ _ _ m1 c1))) λc1=>?_
 refine EF (λc2=>Af (h _ st ⟨g,rfl,rfl⟩ (eF _ _ _ m1 c2))) λc2=>?_
 refine Ae (JG ?_)
 refine LP (I:=λx c B=>QR a₀ κ st B/\∃out l nb mg,c=(none,l,nb,out,mg)/\GH M a.size b.size (1+x) (a.size+b.size) out l nb)
  (Q:=λc B=>QR a₀ κ st B/\∃r z,c=(some r,z)/\F r) ?step ?fin ?init ?post
 case init=>exact⟨⟨g,rfl,rfl⟩,_,a.size - 1,b.size,_,rfl,m1,by lia,by lia,by omega,by lia,by lia⟩
 case fin=>
  rintro c B ⟨_,out,l,nb,mg,_,_,k1,k2,k3,k4,k5⟩
  lia
 case post=>
  rintro G hG c B ⟨s1,r,z,rfl,f⟩;subst hG;exact Af (h r B s1 f)
 case step=>
  rintro G hG x c xu _ _ ⟨s1,out,l,nb,mg,rfl,m,k1,k2,k3,k4,k5⟩;subst hG
  refine LP (I:=λy c B=>B=xu/\∃U H J X Y,c=(none,H,J,U,X,Y)/\GH M a.size b.size y (l+nb) U H J)
   (Q:=λc B=>B=xu/\((∃r z,c=(some r,z)/\F r)∨∃U H J X Y,c=(none,H,J,U,X,Y)/\GH M a.size b.size 1 (l+nb) U H J)) ?step1 ?fin1 ?init1 ?post1
  case init1=>exact⟨rfl,out,l,nb,0,0,rfl,m,k1,k2,k3,k4,by lia⟩
  case fin1=>
   rintro c B ⟨rfl,U,H,J,X,Y,rfl,N,q1,q2,q3,q4,q5⟩;exact⟨rfl,.inr ⟨U,H,J,X,Y,rfl,N,q1,q2,q3,q4,by lia⟩⟩
  case step1=>
   rintro G hG y c B _ _ ⟨rfl,U,H,J,X,Y,rfl,N,q1,q2,q3,q4,q5⟩;subst hG
   have q6:H - 1 < a.size:=by lia
   have q7:J - 1 < b.size:=by lia
   refine Cv q7 (Cv q6 (Ae (Sf C s1.good (R _ q7) (P _ q6) ?_)))
   cases e:lt (ix b (J - 1)) (ix a (H - 1))with
   | true=>
    have m2:=tA U H J N q1 q3 q4 λj S=>tr _ _ _ (R _ (by lia)) (R _ q7) (P _ q6) (ub j (J - 1) (by lia) q7) (O.asym _ _ (R _ q7) (P _ q6) e)
    refine Cv q6 (EF (λd=>Af ⟨rfl,.inl ⟨_,_,rfl,eA _ _ _ m2 d⟩⟩) λd=>QZ ?_)
    have z:0 < H - 1/\H - 1<=a.size/\H - 1+J+(y+1)<=l+nb:=by lia
    exact⟨⟨rfl,.inr ⟨_,H - 1,J,_,_,rfl,m2,z.1,q2,z.2.1,q4,by lia⟩⟩,rfl,_,H - 1,J,_,_,rfl,m2,z.1,q2,z.2.1,q4,z.2.2⟩
   | false=>
    have m2:=tB U H J N (by lia) q4 q3 λj S=>tr _ _ _ (P _ (by lia)) (P _ q6) (R _ q7) (ua j (H - 1) (by lia) q6) e
    refine Cv q7 (EF (λd=>Af ⟨rfl,.inl ⟨_,_,rfl,eF _ _ _ m2 d⟩⟩) λd=>QZ ?_)
    have z:1 < J - 1/\J - 1<=b.size/\H+(J - 1)+(y+1)<=l+nb:=by lia
    exact⟨⟨rfl,.inr ⟨_,H,J - 1,_,_,rfl,m2,q1,z.1,q3,z.2.1,by lia⟩⟩,rfl,_,H,J - 1,_,_,rfl,m2,q1,z.1,q3,z.2.1,z.2.2⟩
  case post1=>
   rintro G hG c B ⟨rfl,⟨r,z,rfl,f⟩ | ⟨U,H,J,X,Y,rfl,N⟩⟩ <;> subst hG
   ·exact Af ⟨s1,_,_,rfl,f⟩
   refine Ae (LO ?_)
   refine LP (I:=λy c vp=>QR a₀ κ st vp/\∃xq yN L yL X Y,c=(none,yN,L,xq,yL,X,Y)/\GH M a.size b.size 1 (l+nb) xq yN L)
    (Q:=λc vp=>QR a₀ κ st vp/\((∃r z,c=(some r,z)/\F r)∨∃xq yN L yL X Y,c=(none,yN,L,xq,yL,X,Y)/\GH M a.size b.size 1 (l+nb) xq yN L)) ?step2 ?fin2 ?init2 ?post2
   case init2=>exact⟨s1,U,H,J,mg+1,X,Y,rfl,N⟩
   case fin2=>exact λc vp h=>⟨h.1,.inr h.2⟩
   case post2=>
    rintro G hG c vp ⟨s2,⟨r,z,rfl,f⟩ | ⟨xq,yN,L,yL,ac2,bc2,rfl,m2,p1,p2,p3,p4,p5⟩⟩ <;> subst hG
    ·exact Af ⟨s2,_,_,rfl,f⟩
    ·exact Ae (SC (Af ⟨s2.gal _,xq,yN,L,yL+1,rfl,m2,p1,p2,p3,p4,by lia⟩))
   case step2=>
    rintro G hG y c vp _ _ ⟨s2,xq,yN,L,yL,ac2,bc2,rfl,m2,p1,p2,p3,p4,p5⟩;subst hG;dsimp only
    revert yL
    refine gi (λmg3=>?_) λt i=>t _
    have s3:=s2.gal mg3
    have p6:L - 1 < b.size:=by lia
    refine Ae (SC (Cv p6 ?_));refine Ae (IL (base:=0) (n:=yN) (hint:=yN - 1) (arr:=a) (key:=ix b (L - 1)) (left:=false) C s3.good (λi=>!lt (ix b (L - 1)) (ix a (0+i))) (R _ p6) (λi hi=>⟨by lia,P _ (by lia)⟩) (λi hi=>rfl) (λi j hij hj e=>?_) (by lia) λk hk k1 k2=>?_)
    ·have e':lt (ix b (L - 1)) (ix a (0+j))=false:=by simpa using e
     have:=tr _ _ _ (P _ (by lia)) (P _ (by lia)) (R _ p6) (ua (0+i) (0+j) (by lia) (by lia)) e';simpa using this
    have near:∀j,j < k->Rl lt (ix a j) (ix b (L - 1)):=λj S=>by
     have:=k1 j S;rw[NQ]at this;simpa using this
    have m5:=sA xq yN L k m2 hk p3 p4 λi j i1 i2 S=>by
     have:=k2 i i1 i2;rw[NQ]at this;exact tr _ _ _ (R _ (by lia)) (R _ p6) (P _ (by lia)) (ub j (L - 1) (by lia) p6) (O.asym _ _ (R _ p6) (P _ (by lia)) (by simpa using this))
    dsimp only;generalize hk6:yN - k=k6;generalize ho:xq=o;generalize hi:yN=i
    revert o i
    refine SA (λo i=>M o i L/\0 < i/\i=k) ?_ (λt hk0=>EF (λd=>Af ⟨s3,.inl ⟨_,_,rfl,eA _ _ _ m5 d⟩⟩) λd=>t (xq++(a.extract k yN).reverse) k ⟨m5,by lia,rfl⟩) λhk0=>⟨m2,p1,by lia⟩
    rintro ϑ T ⟨m3,c1,hi3⟩
    have c4:T - 1 < a.size:=by lia
    have c5:T<=yN:=by lia
    have m4:=tB _ _ _ m3 (by lia) p4 (by lia) λj h=>near j (hi3▸h)
    refine Cv p6 (EF (λd=>Af ⟨s3,.inl ⟨_,_,rfl,eF _ _ _ m4 d⟩⟩) λd=>Cv c4 ?_)
    have c6:1 < L - 1/\L - 1 < b.size/\T+(L - 1)+2<=l+nb:=by lia
    generalize ϑ.push (ix b (L - 1))=out4 at m4 ⊢;generalize L - 1=nb4 at m4 c6 ⊢;obtain⟨c6,c7,c8⟩:=c6;refine Ae (IL (base:=0) (n:=nb4) (hint:=nb4 - 1) (arr:=b) (key:=ix a (T - 1)) (left:=true) C s3.good (λi=>lt (ix b (0+i)) (ix a (T - 1))) (P _ c4) (λi hi=>⟨by lia,R _ (by lia)⟩) (λi hi=>rfl) (λi j hij hj e=>?_) (by lia) λk3 hk3 k4 k5=>?_)
    ·cases e2:lt (ix b (0+i)) (ix a (T - 1))with
     | true=>rfl
     | false=>
      have:=tr _ _ _ (P _ c4) (R _ (by lia)) (R _ (by lia)) e2 (ub (0+i) (0+j) (by lia) (by lia));exact nomatch (show true=false from(show lt (ix b (0+j)) (ix a (T - 1))=true from e).symm.trans this)
    have near2:∀j,j < k3->Rl lt (ix b j) (ix a (T - 1)):=λj S=>by
     have:=k4 j S;rw[NQ]at this;exact O.asym _ _ (R _ (by lia)) (P _ c4) this
    have m6:=sB _ T nb4 k3 m4 hk3 (by lia) (by lia) λi j i1 i2 S=>by
     have:=k5 i i1 i2;rw[NQ]at this;exact tr _ _ _ (P _ (by lia)) (P _ c4) (R _ (by lia)) (ua j (T - 1) (by lia) c4) this
    dsimp only;generalize hk7:nb4 - k3=k7;generalize ho:out4=o;generalize hi:nb4=i
    revert o i
    refine SA (λo j=>M o T j/\1 < j/\j<=nb4/\j=k3) ?_ (λt hk4=>?_) λhk4=>⟨m4,c6,AO _,by lia⟩
    case refine_2=>
     refine EF (λd=>Af ⟨s3,.inl ⟨_,_,rfl,eF _ _ _ m6 d⟩⟩) λd2=>?_
     exact EF (λd=>Af ⟨s3,.inl ⟨_,_,rfl,eB _ _ _ m6 d⟩⟩) λd4=>t (out4++(b.extract k3 nb4).reverse) k3 ⟨m6,by lia,by lia,rfl⟩
    rintro out5 nb5 ⟨m5,c9,c10,hi5⟩
    have m7:=tA _ _ _ m5 c1 (by lia) (by lia) λj h=>near2 j (hi5▸h)
    refine Cv c4 (EF (λd=>Af ⟨s3,.inl ⟨_,_,rfl,eA _ _ _ m7 d⟩⟩) λd=>QZ ?_)
    have z:0 < T - 1/\1 < nb5/\T - 1<=a.size/\nb5<=b.size/\T - 1+nb5+1<=l+nb:=by lia
    exact⟨⟨s3,.inr ⟨_,T - 1,nb5,_,_,_,rfl,m7,z⟩⟩,s3,_,T - 1,nb5,_,_,_,rfl,m7,z⟩
end
def wr(arr:Array BQ)(m:Nat)(l:List (BQ×Nat)):Array BQ:=l.foldl (λa (x:BQ×Nat)=>match x with | (p,j)=>a.setIfInBounds (m+j) p) arr
theorem WK(m:Nat):∀(l:List BQ) (k:Nat) (arr:Array BQ),m+k+l.length<=arr.size->(wr arr m (l.zipIdx k)).toList=arr.toList.take (m+k)++l++arr.toList.drop (m+k+l.length)
 | [],k,arr,h=>by simp[wr]
 | x :: l,k,arr,h=>by
  rw[Aj]at h;have e:wr arr m ((x :: l).zipIdx k)=wr (arr.setIfInBounds (m+k) x) m (l.zipIdx (k+1)):=rfl;rw[e,WK m l (k+1) _ (by simp;lia)]
  have o:m+k < arr.toList.length:=by simp;lia
  rw[Uq,Aj,show m+(k+1)=m+k+1 by lia];rw[Fv,List.take_set_of_le (AO _),At o,List.drop_set_of_lt (by lia)];simp[show m+k+1+l.length=m+k+(l.length+1) by lia]
def ix_list(a:Array BQ)(i:Nat):ix a i=(a.toList[i]?).getD (.none,.none):=by
 unfold ix;rw[Fo];simp
def ji(h:sa+m.size<=arr.size)(i:Nat):ix (wr arr sa m.toList.zipIdx) i=if i < sa then ix arr i else if i < sa+m.size then ix m (i - sa)else ix arr i:=by
 have e:=WK sa m.toList 0 arr (by simpa using h);rw[ix_list,show m.toList.zipIdx=m.toList.zipIdx 0 from rfl,e,uj]
 have o:(arr.toList.take sa).length=sa:=by simp;lia
 split
 ·rename_i l
  rw[Bw,Au (by lia),Xa l,ix_list]
 ·rename_i l
  split
  ·rename_i s
   rw[Bw,Bd (by lia),o,Au (by simp;lia),ix_list]
  ·rename_i s
   rw[Bd (by simp;lia),KS,ix_list]
   congr 2
   simp
   lia
def nV{arr m:Array BQ}{l:Nat}(h:l+m.size<=arr.size)(o:m.toList.Perm (arr.extract l (l+m.size)).toList):(wr arr l m.toList.zipIdx).Perm arr:=by
 rw[GX];have e:=WK l m.toList 0 arr (by simpa using h);rw[show m.toList.zipIdx=m.toList.zipIdx 0 from rfl,e,uj]
 have s:arr.toList=arr.toList.take l++(arr.extract l (l+m.size)).toList++arr.toList.drop (l+m.toList.length):=by
  rw[Bw,Bg,<-KB h,Iu]
 conv=>rhs;rw[s]
 exact Um _ (Ls _ o)
def ah{a:Array BQ}{lo hi i:Nat}(h:hi<=a.size)(l:i < hi - lo):ix (a.extract lo hi) i=ix a (lo+i):=by
 apply La
 rw[Array.getElem?_extract];simp
 lia
section
variable{prog:Bf}{w:CH}{A:Bs}{E:AI->AK->Prop}{s:AK}{a₀:Array BQ}{κ:QX}{lt:BQ->BQ->Bool}
def iB{a:Array BQ}{lo hi:Nat}(h:hi<=a.size)(u:Up lt a lo hi):(a.extract lo hi).toList.Pairwise (Rl lt):=by
 rw[WD];intro i j o B C;simp at o B
 have e:∀k (l:k < (a.extract lo hi).toList.length),(a.extract lo hi).toList[k]=ix a (lo+k):=λk l=>by
  have m:k < (a.extract lo hi).size:=by rw[Bg]at l;exact l
  have:=D1 m;rw[getElem?_pos (a.extract lo hi) k m]at this
  have G:(a.extract lo hi).size=hi - lo:=by simp;lia
  rw[<-ah h (by lia)];simpa using this
 rw[e,e];exact u _ _ (by lia) (by lia) (by omega)
def lj{st l:BM}{Q:PUnit->BM->Prop}(h:Q ⟨⟩ l):wpS (Ag prog w) A E s (set l:StateT BM Sem PUnit) Q st:=Af h
def Xn{st}{i l m pw sb H pw2}{Q}(C:M5 prog w A s a₀ κ lt)(O:Ord (·∈a₀) lt)(g:Good a₀ κ st)
  (e1:(AZ st)[i]?=some (l,m,pw)) (e2:(AZ st)[i+1]?=some (sb,H,pw2)) (ϐ:sb=l+m) (zS:1<=m) (zT:1<=H) (hs:sb+H<=a₀.size)
  (Z:Up lt (AX st) l (l+m)) (ub:Up lt (AX st) sb (sb+H))
  (h:∀o,Good a₀ κ o->AZ o=((AZ st).setIfInBounds i (l,m+H,pw)).eraseIdxIfInBounds (i+1)->Up lt (AX o) l (l+(m+H))->Out (AX st) (AX o) l (l+(m+H))->Q true o) :
  wpS (Ag prog w) A E s (mergeAt' i) Q st:=by
 subst ϐ;have hsz:=g.size
 have mem:∀j,j < a₀.size->ix (AX st) j∈a₀:=λj hj=>g.mem hj
 have tr:∀x y z:BQ,x∈a₀->y∈a₀->z∈a₀->Rl lt x y->Rl lt y z->Rl lt x z:=λx y z hx hy B J I=>O.ntr x y z hx hy B J I
 refine(Ae (JG ?_):wpS _ _ _ _ (mergeAt' i) Q st);rw[show(sortPriv% PySem.Builtin.SortState.pending) st=AZ st from rfl,e1,e2];refine Ae (lj ?_);generalize L:((sortPriv% PySem.Builtin.SortState.mk) (kindOf st) (AX st) (((AZ st).setIfInBounds i (l,m+H,pw)).eraseIdxIfInBounds (i+1)) (gallopOf st) (KM st))=xu
 have g1:Good a₀ κ xu:=by subst L;exact⟨g.perm,g.kind,g.failed⟩
 have a1:AX xu=AX st:=by subst L;rfl
 have p1:AZ xu=((AZ st).setIfInBounds i (l,m+H,pw)).eraseIdxIfInBounds (i+1):=by subst L;rfl
 refine Ae (Sg (a:=AX st) (i:=l+m) (by lia) ?_);refine Ae (IL (base:=l) (n:=m) (hint:=0) (arr:=AX st) (key:=ix (AX st) (l+m)) (left:=false) C g1 (λj=>!lt (ix (AX st) (l+m)) (ix (AX st) (l+j))) (mem _ (by lia)) (λj hj=>⟨by lia,mem _ (by lia)⟩) (λj hj=>rfl) (λx y hxy hy e=>?_) (by lia) λk hk k1 k2=>?_)
 ·have e':lt (ix (AX st) (l+m)) (ix (AX st) (l+y))=false:=by simpa using e
  have:=tr _ _ _ (mem _ (by lia)) (mem _ (by lia)) (mem _ (by lia)) (Z (l+x) (l+y) (by lia) (by lia) (by lia)) e';simpa using this
 have low:∀j,l<=j->j < l+k->Rl lt (ix (AX st) j) (ix (AX st) (l+m)):=λj G R=>by
  have:=k1 (j - l) (by lia);rw[show l+(j - l)=j by lia]at this;simpa using this
 have U:∀i j,l<=i->i < l+k->l+m<=j->j < l+m+H->Rl lt (ix (AX st) i) (ix (AX st) j):=λi j T i2 G R=>tr _ _ _ (mem _ (by lia)) (mem _ (by lia)) (mem _ (by lia)) (low i T i2) (ub _ _ (by lia) (by omega) (by omega))
 have N:(∀j,l<=j->j < l+m->Rl lt (ix (AX st) j) (ix (AX st) (l+m)))->Up lt (AX st) l (l+(m+H)):=λhh x y J I h3=>by
  by_cases c1:y < l+m
  ·exact Z x y J I c1
  by_cases c2:x < l+m
  ·exact tr _ _ _ (mem _ (by lia)) (mem _ (by lia)) (mem _ (by lia)) (hh x J c2) (ub _ _ (by lia) (by lia) (by lia))
  ·exact ub x y (by lia) I (by lia)
 refine(show wpS (Ag prog w) A E s (if (m - k==0)=true then _ else _) Q xu from ?_)
 by_cases c1:m - k=0
 ·rw[qX (by simpa using c1)]
  refine Af (h xu g1 p1 ?_ (by rw[a1];exact .refl));rw[a1]
  exact N λj G R=>low j G (by lia)
 rw[qY (by simpa using c1)];refine Ae (Sg (a:=AX st) (i:=l+k+(m - k) - 1) (by omega) ?_);rw[show l+k+(m - k) - 1=l+m - 1 by lia];refine Ae (IL (base:=l+m) (n:=H) (hint:=H - 1) (arr:=AX st) (key:=ix (AX st) (l+m - 1)) (left:=true) C g1 (λj=>lt (ix (AX st) (l+m+j)) (ix (AX st) (l+m - 1))) (mem _ (by lia)) (λj hj=>⟨by lia,mem _ (by lia)⟩) (λj hj=>rfl) (λx y hxy hy e=>?_) (by omega) λk3 hk3 k4 k5=>?_)
 ·cases e2:lt (ix (AX st) (l+m+x)) (ix (AX st) (l+m - 1))with
  | true=>rfl
  | false=>
   have:=tr _ _ _ (mem _ (by lia)) (mem _ (by lia)) (mem _ (by lia)) e2 (ub (l+m+x) (l+m+y) (by lia) (by lia) (by lia));exact nomatch (show true=false from(show lt (ix (AX st) (l+m+y)) (ix (AX st) (l+m - 1))=true from e).symm.trans this)
 have X:∀j,l+m+k3<=j->j < l+m+H->Rl lt (ix (AX st) (l+m - 1)) (ix (AX st) j):=λj G R=>by
  have:=k5 (j - (l+m)) (by lia) (by lia);rwa [show l+m+(j - (l+m))=j by lia]at this
 refine(show wpS (Ag prog w) A E s (if (k3==0)=true then _ else _) Q xu from ?_)
 by_cases c2:k3=0
 ·rw[qX (by simpa using c2)]
  refine Af (h xu g1 p1 ?_ (by rw[a1];exact .refl));rw[a1]
  exact N λj G R=>tr _ _ _ (mem _ (by lia)) (mem _ (by lia)) (mem _ (by lia)) (Z j (l+m - 1) (by omega) (by lia) (by lia)) (X _ (by lia) (by lia))
 rw[qY (by simpa using c2)]
 let x:=(AX st).extract (l+k) (l+m)
 let y:=(AX st).extract (l+m) (l+m+k3)
 have xs:x.size=m - k:=by simp[x];lia
 have ys:y.size=k3:=by simp[y];lia
 have ixx:∀j,j < m - k->ix x j=ix (AX st) (l+k+j):=λj hj=>ah (by lia) (by lia)
 have ixy:∀j,j < k3->ix y j=ix (AX st) (l+m+j):=λj hj=>ah (by lia) (by lia)
 have ϒ:∀z∈x.toList,∃j,j < m - k/\z=ix (AX st) (l+k+j):=λz B=>by
  have B:z∈((AX st).extract (l+k) (l+k+(m - k))).toList:=by rw[show l+k+(m - k)=l+m by lia];exact B
  exact SJ (by lia) B
 have ϓ:∀z∈y.toList,∃j,j < k3/\z=ix (AX st) (l+m+j):=λz B=>SJ (by lia) B
 have fin:∀(r:Array BQ) (o:BM),QR a₀ κ xu o->ND (Rl lt) (x.toList++y.toList) r.toList->∀vp:BM,AX vp=wr (AX o) (l+k) r.toList.zipIdx->kindOf vp=kindOf o->KM vp=KM o->AZ vp=AZ o->Q true vp:=by
  intro r o S f vp q1 q2 q3 q4
  have hr:r.size=m - k+k3:=by
   have:=f.perm.length_eq;simp only[Ak,Bg]at this
   lia
  have ha:AX o=AX st:=S.arr.trans a1;rw[ha]at q1
  have hb:l+k+r.size<=(AX st).size:=by lia
  have mm:∀t,t < r.size->∃t',ix r t=ix (AX st) t'/\l+k<=t'/\t' < l+m+k3:=λt ht=>by
   have:ix r t∈r.toList:=Bj.mpr (DW (D1 ht))
   rcases Av.mp (f.perm.mem_iff.mp this)with h | h
   ·obtain⟨j,G,e⟩:=ϒ _ h
    exact⟨_,e,by lia,by lia⟩
   ·obtain⟨j,G,e⟩:=ϓ _ h
    exact⟨_,e,by lia,by lia⟩
  have rs:=X7 O (a:=r) (λt ht=>by
   obtain⟨t',e,_,_⟩:=mm t ht;rw[e]
   exact mem _ (by lia)) f.srt
  refine h vp ⟨?_,?_,?_⟩ (q4.trans (S.pend.trans p1)) ?_ ?_
  ·rw[q1]
   refine(nV hb (f.perm.trans ?_)).trans g.perm
   have:(AX st).toList.drop (l+k)=x.toList++(AX st).toList.drop (l+m):=by
    have:=KB (a:=AX st) (i:=l+k) (k:=m - k) (by lia);rw[show l+k+(m - k)=l+m by lia]at this;exact this
   have I:(AX st).toList.drop (l+m)=y.toList++(AX st).toList.drop (l+m+k3):=KB (by lia);have h3:(AX st).toList.drop (l+k)=((AX st).extract (l+k) (l+k+r.size)).toList++(AX st).toList.drop (l+k+r.size):=KB hb;rw[this,I,<-Bw,show l+k+r.size=l+m+k3 by lia]at h3;rw[show l+k+r.size=l+m+k3 by lia];exact bZ (List.append_cancel_right h3)
  ·rw[q2];exact S.good.kind
  ·rw[q3];exact S.good.failed
  ·rw[q1]
   intro i j J I h3;show Rl lt _ _;rw[ji hb,ji hb]
   by_cases T:i < l+k
   ·rw[qX T]
    by_cases G:j < l+k
    ·rw[qX G];exact Z i j J I (by lia)
    rw[qY G]
    by_cases R:j < l+k+r.size
    ·rw[qX R]
     obtain⟨t,e,t1,t2⟩:=mm (j - (l+k)) (by omega);rw[e]
     by_cases t3:t < l+m
     ·exact Z i t J (by lia) t3
     ·exact U i t J T (by lia) (by lia)
    ·rw[qY R];exact U i j J T (by lia) (by lia)
   rw[qY T,qY (show ¬j < l+k by lia)]
   by_cases i2:i < l+k+r.size
   ·rw[qX i2]
    by_cases R:j < l+k+r.size
    ·rw[qX R];exact rs _ _ (by lia) (by omega)
    ·rw[qY R]
     obtain⟨t,e,t1,t2⟩:=mm (i - (l+k)) (by omega);rw[e]
     by_cases t3:t < l+m
     ·exact tr _ _ _ (mem _ (by lia)) (mem _ (by lia)) (mem _ (by lia)) (Z t (l+m - 1) (by lia) (by lia) (by lia)) (X j (by lia) (by lia))
     ·exact ub t j (by lia) (by lia) (by lia)
   ·rw[qY i2,qY (show ¬j < l+k+r.size by lia)]
    exact ub i j (by lia) I (by lia)
  ·rw[q1]
   intro i hi;rw[ji hb]
   by_cases T:i < l+k
   ·rw[qX T]
   ·rw[qY T,qY (by lia)]
 have Y:∀{P:Prop},((∀z∈x.toList,z∈a₀)->(∀z∈y.toList,z∈a₀)->x.toList.Pairwise (Rl lt)->y.toList.Pairwise (Rl lt)->0 < x.size->0 < y.size->(∀z∈x.toList,Rl lt (ix y 0) z)->(∀z∈y.toList,Rl lt z (ix x (x.size - 1)))->P)->P:=by
  intro P hP
  refine hP (λz B=>?_) (λz B=>?_) (iB (by lia) λi j J I h3=>Z i j (by lia) I h3) (iB (by lia) λi j J I h3=>ub i j J I (by lia)) (by lia) (by lia) (λz B=>?_) λz B=>?_
  ·obtain⟨j,G,rfl⟩:=ϒ z B
   exact mem _ (by lia)
  ·obtain⟨j,G,rfl⟩:=ϓ z B
   exact mem _ (by lia)
  ·obtain⟨j,G,rfl⟩:=ϒ z B
   rw[ixy 0 (by lia)];have:=k2 (k+j) (by lia) (by lia);rw[show l+(k+j)=l+k+j by lia]at this;exact O.asym _ _ (mem _ (by lia)) (mem _ (by lia)) (by simpa using this)
  ·obtain⟨j,G,rfl⟩:=ϓ z B
   rw[xs,ixx _ (by lia),show l+k+(m - k - 1)=l+m - 1 by lia];exact O.asym _ _ (mem _ (by lia)) (mem _ (by lia)) (k4 j G)
 refine(show wpS (Ag prog w) A E s (if m - k<=k3 then mLo x y >>= _ else mHi x y >>= _) Q xu from ?_);split
 ·refine Ae (Y λb1 b2 b3 b4 b5 b6 b7 b8=>ll C O g1 b1 b2 b3 b4 b5 b6 b7 b8 λr o S f=>?_)
  refine Ae (D6 (Ae (JG (Af ?_))));have q:=fin r o S f (setArr o (wr (AX o) (l+k) r.toList.zipIdx)) rfl rfl rfl rfl;rw[<-show(KM o).isNone=true by rw[S.good.failed];rfl]at q;exact q
 ·refine Ae (Y λb1 b2 b3 b4 b5 b6 b7 b8=>lq C O g1 b1 b2 b3 b4 b5 b6 b7 b8 λr o S f=>?_)
  refine Ae (D6 (Ae (JG (Af ?_))));have q:=fin r o S f (setArr o (wr (AX o) (l+k) r.toList.zipIdx)) rfl rfl rfl rfl;rw[<-show(KM o).isNone=true by rw[S.good.failed];rfl]at q;exact q
end
def oX[Decidable c](h:1 < z):(if c then z - 2 - 1 else z - 2)+1 < z:=by split <;> omega
def Stk(lt:BQ->BQ->Bool)(arr:Array BQ):List (Nat×Nat×Nat)->Nat->Nat->Prop
 | [],lo,l=>lo=l
 | (s,n,_) :: r,lo,l=>s=lo/\1<=n/\Up lt arr s (s+n)/\Stk lt arr r (s+n) l
section
theorem Stk.le:∀{l:List (Nat×Nat×Nat)} {lo hi:Nat},Stk lt arr l lo hi->lo+l.length<=hi
 | [],lo,hi,h=>by cases h;simp
 | (s,n,_) :: r,lo,hi,⟨o,A,_,m⟩=>by
  have:=Stk.le m;rw[Aj]
  lia
theorem Stk.app:∀{l r:List (Nat×Nat×Nat)} {lo hi:Nat},Stk lt arr (l++r) lo hi↔∃m,Stk lt arr l lo m/\Stk lt arr r m hi
 | [],r,lo,hi=>⟨λh=>⟨lo,rfl,h⟩,λ⟨_,e,h⟩=>by cases e;exact h⟩
 | (s,n,_) :: l,r,lo,hi=>by
  constructor
  ·rintro⟨o,A,B,C⟩
   obtain⟨m,a,b⟩:=Stk.app.mp C;exact⟨m,⟨o,A,B,a⟩,b⟩
  ·rintro⟨m,⟨o,A,B,C⟩,b⟩
   exact⟨o,A,B,Stk.app.mpr ⟨m,C,b⟩⟩
theorem Stk.pw(A:∀x,(f x).1=x.1/\(f x).2.1=x.2.1):∀{l:List (Nat×Nat×Nat)} {lo hi:Nat} (i:Nat),Stk lt arr l lo hi->Stk lt arr (l.modify i f) lo hi
 | [],lo,hi,i,h=>by cases i <;> exact h
 | (s,n,p) :: r,lo,hi,0,h=>by
  obtain⟨m,o⟩:=A (s,n,p);show Stk lt arr (f (s,n,p) :: r) lo hi;generalize f (s,n,p)=q at m o;obtain⟨H,I,J⟩:=q;dsimp only at m o;subst m o;exact h
 | (s,n,p) :: r,lo,hi,i+1,⟨B,C,E,G⟩=>⟨B,C,E,Stk.pw A i G⟩
theorem Stk.out:∀{l:List (Nat×Nat×Nat)} {lo hi x y:Nat},Stk lt arr l lo hi->Out arr arr' x y->(hi<=x∨y<=lo)->Stk lt arr' l lo hi
 | [],lo,hi,x,y,h,o,d=>h
 | (s,n,_) :: r,lo,hi,x,y,⟨A,B,C,m⟩,o,d=>by
  have:=m.le;exact⟨A,B,C.out o (by lia),Stk.out m o (by lia)⟩
end
section
def Out.wide(o:Out xs m l h)(A:s<=l)(B:h<=h'):Out xs m s h':=λi C=>o i (by lia)
def Lv{st:BM}{i hi:Nat}{Q:Bool->BM->Prop}(C:M5 prog w A s a₀ R lt)(O:Ord (·∈a₀) lt)(g:Good a₀ R st)(k:Stk lt (AX st) (AZ st).toList 0 hi)(hs:hi<=a₀.size)(Z:i+1 < (AZ st).size)
  (h:∀m,Good a₀ R m->Stk lt (AX m) (AZ m).toList 0 hi->(AZ m).size+1=(AZ st).size->Out (AX st) (AX m) 0 hi->Q true m):wpS (Ag prog w) A E s (mergeAt' i) Q st:=by
 obtain⟨o,B,pw,S⟩:∃o B pw,(AZ st)[i]?=some (o,B,pw):=⟨_,_,_,getElem?_pos (AZ st) i (by lia)⟩
 obtain⟨I,G,H,T⟩:∃o B pw,(AZ st)[i+1]?=some (o,B,pw):=⟨_,_,_,getElem?_pos (AZ st) (i+1) Z⟩
 obtain⟨l,r,J,hl⟩:∃l r,(AZ st).toList=l++(o,B,pw) :: (I,G,H) :: r/\l.length=i:=by
  have a1:(AZ st).toList[i]?=some (o,B,pw):=by simpa using S
  have a2:(AZ st).toList[i+1]?=some (I,G,H):=by simpa using T
  obtain⟨b1,c1⟩:=AG.mp a1;obtain⟨b2,c2⟩:=AG.mp a2;refine⟨(AZ st).toList.take i,(AZ st).toList.drop (i+2),?_,by rw[JF];lia⟩
  conv=>lhs;rw[<-Iu i (AZ st).toList,DV b1,DV b2,c1,c2]
 rw[J]at k;obtain⟨L,U,⟨q1,q2,q3,⟨q4,q5,q6,N⟩⟩⟩:=Stk.app.mp k;have hle:=N.le;have X:=U.le
 refine Xn C O g S T q4 q2 q5 (by lia) q3 q6 λm g' p' u' P=>?_
 have Y:(AZ m).toList=l++(o,B+G,pw) :: r:=by
  rw[p',Array.toList_eraseIdxIfInBounds,Uq,J];rw[List.set_append_right _ _ (by lia),hl,uh,List.set_cons_zero,List.eraseIdx_append_of_length_le (by lia),show i+1 - l.length=1 by lia];rfl
 refine h m g' ?_ ?_ (P.wide (by lia) (by lia))
 ·rw[Y]
  refine Stk.app.mpr ⟨L,U.out P (.inl (by lia)),q1,by lia,u',?_⟩
  have e:I+G=o+(B+G):=by lia
  rw[e]at N;exact N.out P (.inr (by lia))
 ·have z1:=congrArg JO Y
  have z2:=congrArg JO J;simp at z1 z2
  lia
def wpS_sortRuns{st:BM}{Q:Unit->BM->Prop}(C:M5 prog w A s a₀ J lt)(O:Ord (·∈a₀) lt)(g:Good a₀ J st)(hp:AZ st = #[])
  (h:∀o,Good a₀ J o->Up lt (AX o) 0 a₀.size->Q () o):wpS (Ag prog w) A E s sortRuns' Q st:=by
 rw[sortRuns'_eq];refine Ae (JG ?_);dsimp only;rw[g.size];generalize minRun' a₀.size a₀.size 0=L
 refine Ae (Hy (Ds (I:=λx c o=>∃lo,c=(none,lo)/\Good a₀ J o/\Stk lt (AX o) (AZ o).toList 0 lo/\lo<=a₀.size/\min x a₀.size<=lo)
  (Q:=λc o=>c=(none,a₀.size)/\Good a₀ J o/\Stk lt (AX o) (AZ o).toList 0 a₀.size) ?step ?fin ?init) ?post)
 case init=>exact⟨0,rfl,g,by rw[hp];rfl,by lia,by lia⟩
 case fin=>
  rintro c o ⟨lo,rfl,g',k',h1,h2⟩
  have:lo=a₀.size:=by lia
  subst this;exact⟨rfl,g',k'⟩
 case step=>
  rintro x c xu _ hx ⟨lo,rfl,g1,U,h1,h2⟩;dsimp only
  by_cases yd:lo ≥ a₀.size
  ·rw[qX yd]
   have:lo=a₀.size:=by lia
   subst this;exact Af ⟨rfl,g1,U⟩
  rw[qY yd];refine Ae (wpS_countRun C O (by lia) (by lia) g1 λX n Y P T u2 o2 p2=>?_);dsimp only
  have k2:Stk lt (AX X) (AZ X).toList 0 lo:=by
   rw[p2];exact U.out o2 (.inl (AO _))
  by_cases hm:n < L
  ·rw[qX hm]
   refine Ae (LO ?_);refine Ae (wpS_binarySort C O (by lia) (by omega) Y u2 λZ g3 u3 o3 p3=>?_)
   have k3:Stk lt (AX Z) (AZ Z).toList 0 lo:=by
    rw[p3];exact k2.out o3 (.inl (AO _))
   rw[qY (by simp)];refine Ae (JG ?_)
   cases hb:(AZ Z).back? with
   | none=>
    dsimp only;refine Ae (D6 (Af ⟨lo+min (a₀.size - lo) L,rfl,⟨g3.perm,g3.kind,g3.failed⟩,?_,by lia,by lia⟩));show Stk lt (AX Z) ((AZ Z).push (lo,min (a₀.size - lo) L,0)).toList 0 (lo+min (a₀.size - lo) L);rw[LH];exact Stk.app.mpr ⟨lo,k3,rfl,by omega,u3,rfl⟩
   | some t=>
    obtain⟨s1,P,z⟩:=t;dsimp only;generalize power' a₀.size (2 * s1+P) (2 * s1+P+P+min (a₀.size - lo) L) a₀.size=pw
    refine Ae (Hy (Ds (I:=λ_ c m=>c=(none,())/\Good a₀ J m/\Stk lt (AX m) (AZ m).toList 0 lo/\Up lt (AX m) lo (lo+min (a₀.size - lo) L))
     (Q:=λc m=>c=(none,())/\Good a₀ J m/\Stk lt (AX m) (AZ m).toList 0 lo/\Up lt (AX m) lo (lo+min (a₀.size - lo) L)) ?_ (λc m h=>h) ⟨rfl,g3,k3,u3⟩) ?_)
    ·rintro x' c' m _ _ ⟨rfl,B,G,H⟩
     refine Ae (JG ?_)
     by_cases N:(AZ m).size > 1
     ·rw[qX N]
      obtain⟨s2,T,R,S⟩:∃s2 T R,(AZ m)[(AZ m).size - 2]?=some (s2,T,R):=⟨_,_,_,getElem?_pos (AZ m) ((AZ m).size - 2) (by lia)⟩
      rw[S];dsimp only
      by_cases ho:R<=pw
      ·rw[qX ho]
       exact Af ⟨rfl,B,G,H⟩
      ·rw[qY ho]
       refine Ae (Lv C O B G (by omega) (by lia) λzz g5 k5 _ o5=>?_);exact Af ⟨rfl,g5,k5,H.out o5 (.inr (by lia))⟩
     ·rw[qY N]
      exact Af ⟨rfl,B,G,H⟩
    ·rintro c' m ⟨rfl,B,G,H⟩
     dsimp only;refine Ae (D6 (Ae (D6 (Af ⟨lo+min (a₀.size - lo) L,rfl,⟨B.perm,B.kind,B.failed⟩,?_,by lia,by lia⟩))));show Stk lt (AX m) ((((AZ m).modify ((AZ m).size - 1) λx=>(x.fst,x.2.fst,pw))).push (lo,min (a₀.size - lo) L,0)).toList 0 (lo+min (a₀.size - lo) L);rw[LH,bg];exact Stk.app.mpr ⟨lo,Stk.pw (f:=λx=>(x.fst,x.2.fst,pw)) (λx=>⟨rfl,rfl⟩) _ G,rfl,by omega,H,rfl⟩
  ·rw[qY hm]
   refine Ae (JG ?_)
   cases hb:(AZ X).back? with
   | none=>
    dsimp only;refine Ae (D6 (Af ⟨lo+n,rfl,⟨Y.perm,Y.kind,Y.failed⟩,?_,by lia,by lia⟩));show Stk lt (AX X) ((AZ X).push (lo,n,0)).toList 0 (lo+n);rw[LH];exact Stk.app.mpr ⟨lo,k2,rfl,by omega,u2,rfl⟩
   | some t=>
    obtain⟨s1,P,z⟩:=t;dsimp only;generalize power' a₀.size (2 * s1+P) (2 * s1+P+P+n) a₀.size=pw
    refine Ae (Hy (Ds (I:=λ_ c m=>c=(none,())/\Good a₀ J m/\Stk lt (AX m) (AZ m).toList 0 lo/\Up lt (AX m) lo (lo+n))
     (Q:=λc m=>c=(none,())/\Good a₀ J m/\Stk lt (AX m) (AZ m).toList 0 lo/\Up lt (AX m) lo (lo+n)) ?_ (λc m h=>h) ⟨rfl,Y,k2,u2⟩) ?_)
    ·rintro x' c' m _ _ ⟨rfl,B,G,H⟩
     refine Ae (JG ?_)
     by_cases N:(AZ m).size > 1
     ·rw[qX N]
      obtain⟨s2,T,R,S⟩:∃s2 T R,(AZ m)[(AZ m).size - 2]?=some (s2,T,R):=⟨_,_,_,getElem?_pos (AZ m) ((AZ m).size - 2) (by lia)⟩
      rw[S];dsimp only
      by_cases ho:R<=pw
      ·rw[qX ho]
       exact Af ⟨rfl,B,G,H⟩
      ·rw[qY ho]
       refine Ae (Lv C O B G (by omega) (by lia) λzz g5 k5 _ o5=>?_);exact Af ⟨rfl,g5,k5,H.out o5 (.inr (by lia))⟩
     ·rw[qY N]
      exact Af ⟨rfl,B,G,H⟩
    ·rintro c' m ⟨rfl,B,G,H⟩
     dsimp only;refine Ae (D6 (Ae (D6 (Af ⟨lo+n,rfl,⟨B.perm,B.kind,B.failed⟩,?_,by lia,by lia⟩))));show Stk lt (AX m) ((((AZ m).modify ((AZ m).size - 1) λx=>(x.fst,x.2.fst,pw))).push (lo,n,0)).toList 0 (lo+n);rw[LH,bg];exact Stk.app.mpr ⟨lo,Stk.pw (f:=λx=>(x.fst,x.2.fst,pw)) (λx=>⟨rfl,rfl⟩) _ G,rfl,by omega,H,rfl⟩
 case post=>
  rintro c xu ⟨rfl,g1,U⟩;dsimp only
  refine Ae (Hy (Ds (I:=λx c m=>c=(none,())/\Good a₀ J m/\Stk lt (AX m) (AZ m).toList 0 a₀.size/\((AZ m).size<=1∨(AZ m).size+x<=a₀.size))
   (Q:=λc m=>c=(none,())/\Good a₀ J m/\Stk lt (AX m) (AZ m).toList 0 a₀.size/\(AZ m).size<=1) ?_ ?_ ?_) ?_)
  ·rintro x c m _ _ ⟨rfl,B,G,d⟩
   refine Ae (JG ?_)
   by_cases N:(AZ m).size<=1
   ·rw[qX N]
    exact Af ⟨rfl,B,G,N⟩
   ·rw[qY N]
    refine Ae (Lv C O B G (AO _) (oX (by lia)) λzz g5 k5 z5 o5=>?_);exact Af ⟨rfl,g5,k5,.inr (by lia)⟩
  ·rintro c m ⟨rfl,B,G,d⟩
   exact⟨rfl,B,G,by lia⟩
  ·refine⟨rfl,g1,U,.inr ?_⟩
   have:=U.le;simp at this;omega
  ·rintro c m ⟨rfl,B,G,d⟩
   refine Af (h m B ?_);generalize hl:(AZ m).toList=l at G
   have hd:l.length<=1:=by rw[<-hl];simpa using d
   match l,G,hd with
   | [],G,_=>exact λi j h1 h2 h3=>by have:(0:Nat)=a₀.size:=G;lia
   | [(s,n,_)],⟨e1,_,u,S⟩,_=>
    have S:s+n=a₀.size:=S;rw[S,e1]at u;exact u
end
noncomputable def ltL:ZLi->ZLi->Bool
 | [],[]=>false
 | [],_ :: _=>true
 | _ :: _,[]=>false
 | x :: l,y :: m=>if x=y then ltL l m else decide (x < y)
theorem JA:∀x y,ltL x y=true->ltL y x=false
 | [],[],h=>by cases h
 | [],_ :: _,_=>rfl
 | _ :: _,[],h=>by cases h
 | x :: l,y :: m,h=>by
  unfold ltL at h ⊢
  by_cases e:x=y
  ·rw[qX e]at h;rw[qX e.symm];exact JA l m h
  ·rw[qY e]at h;rw[qY (CF e)];simp at h ⊢;lia
theorem SK:∀x y z,ltL y x=false->ltL z y=false->ltL z x=false
 | [],y,[],_,_=>rfl
 | [],[],_ :: _,_,_=>rfl
 | [],_ :: _,_ :: _,_,_=>rfl
 | x :: A,[],z,h,_=>by cases h
 | _,y :: B,[],_,h=>by cases h
 | x :: A,y :: B,z :: E,m,l=>by
  unfold ltL at m l ⊢
  by_cases s:y=x
  ·rw[qX s]at m
   subst s
   by_cases o:z=y
   ·rw[qX o]at l ⊢
    exact SK A B E m l
   ·rw[qY o]at l ⊢;exact l
  ·rw[qY s]at m
   by_cases o:z=y
   ·subst o;rw[qY s];exact m
   ·rw[qY o]at l
    by_cases C:z=x
    ·subst C;simp at m l;lia
    ·rw[qY C];simp at m l ⊢;lia
theorem Wy:∀x y,ltL x y=false->ltL y x=false->x=y
 | [],[],_,_=>rfl
 | [],_ :: _,h,_=>by cases h
 | _ :: _,[],_,h=>by cases h
 | x :: o,y :: s,l,m=>by
  unfold ltL at l m
  by_cases e:x=y
  ·rw[qX e]at l;rw[qX e.symm]at m;rw[e,Wy o s l m]
  ·rw[qY e]at l;rw[qY (CF e)]at m;simp at l m;lia
def ltK(f:AI->ZLi)(x y:BQ):Bool:=ltL (f x.1) (f y.1)
def ny(f:AI->ZLi)(U:BQ->Prop):Ord U (ltK f):=⟨λx y _ _ h=>JA _ _ h,λx y z _ _ _ l m=>SK _ _ _ l m⟩
section
def aK(o:Bool)(h:Q (decide (a < b)) s):Am (Ag prog w) A (oneLt' o (.int a t) (.int b u)) Q E s:=by
 cases o with
 | true=>exact oneLt_int h
 | false=>
  rw[oneLt'_eq];simp only[Cj,if_false];exact AB (wpAny_lt_int (DC h))
def Ua(s:AK)(v:AI)(ns:ZLi):Prop:=∃a l,v=.ref a/\s.heap.IsTuple a l/\EU l.toList ns
noncomputable def wW(o:Bool):(AI×AI)×Nat->Option Bool×Unit->Sem (ForInStep (Option Bool×Unit)):=λe _=>match e with
 | ((p,q),i)=>eqBool p q >>= λc=>if (!c)=true then oneLt' (o&&i==0) p q >>= λb=>pure (.done (some b,()))else pure (.yield (none,()))
def Yp(o:Bool)(x y:AI):keyLt' (ZF o) x y=(KW x >>= λr=>KW y >>= λq=>forIn (r.toList.zip q.toList).zipIdx ((none,()):Option Bool×Unit) (wW o) >>= λz=>match z.1 with
  | some b=>pure b
  | none=>pure (decide (r.size < q.size))):=by kernel_rfl
def Y3(o:Bool):∀{is B:List AI} {ns H:ZLi} (k:Nat) {Q:Bool->AK->Prop},EU is ns->EU B H->Q (ltL ns H) s ->
  Am (Ag prog w) A (forIn ((is.zip B).zipIdx k) ((none,()):Option Bool×Unit) (wW o) >>= λz=>match z.1 with
   | some b=>pure b
   | none=>pure (decide (n0+is.length < n0+B.length))) Q E s:=by
 intro is
 induction is with
 | nil=>
  intro B ns H k Q C G l;cases C;rw[gY,lX,Oi];refine AB (AN (AN ?_))
  cases G with
  | nil=>simpa[ltL]using l
  | cons m t h=>simpa[ltL]using l
 | cons v is I=>
  intro B ns H k Q C G l
  cases C with
  | cons n t C=>
   cases G with
   | nil=>
    rw[gK,lX,Oi];refine AB (AN (AN ?_));rw[wY (by rw[Aj,FY];lia)];exact l
   | cons m u G=>
    rw[KP,lC,Je];rw[bind_assoc];unfold ltL at l;refine AB ?_;refine AB (uY ?_)
    by_cases e:n=m
    ·rw[qX e]at l
     rw[qY (by simp[e])];refine AN ?_;have:=I (k+1) C G l;simpa[Nat.add_lt_add_iff_left]using this
    ·rw[qY e]at l
     rw[qX (by simp[e])];refine AB (aK _ (AN ?_));exact AB (AN (AN l))
end
section
def Qh(h:Ua s v ns):∃l:Array AI,EU l.toList ns/\s.TypeIs v "tuple"/\∀(E:AI->AK->Prop) (Q:Array AI->AK->Prop),Q l s->Am (Ag prog w) A (KW v) Q E s:=by
 obtain⟨a,l,rfl,⟨o,m,B,n,C⟩,G⟩:=h;exact⟨l,G,⟨o,m,B⟩,λE Q q=>Ov m C q⟩
def pH(o:Bool)(l:Ua s x ns)(m:Ua s y B)(h:Q (ltL ns B) s):Am (Ag prog w) A (keyLt' (ZF o) x y) Q E s:=by
 obtain⟨r,C,_,wr⟩:=Qh (prog:=prog) (w:=w) (A:=A) l;obtain⟨q,G,_,H⟩:=Qh (prog:=prog) (w:=w) (A:=A) m;rw[Yp];refine AB (wr E _ (AB (H E _ ?_)));have:=Y3 (prog:=prog) (w:=w) (A:=A) (E:=E) (n0:=0) o 0 C G h;simp only[NQ,Bg]at this;exact this
def fO(h:Ua s v (n :: ns))(o:∀t,Q (some (.int n t)) s):Am (Ag prog w) A (NK v) Q E s:=by
 obtain⟨r,m,ty,wr⟩:=Qh (prog:=prog) (w:=w) (A:=A) h;refine(AB (gP ty ?_):Am _ _ (NK v) Q E s);refine(show Am (Ag prog w) A (if (Da "tuple" != Da "tuple")=true then _ else _) Q E s from ?_);rw[qY (by simp)];refine AB (wr E _ (AN ?_));generalize B:r.toList=l at m
 cases m with
 | cons _ t C=>
  have:r[0]?=some (.int n t):=by
   rw[<-NU,B];rfl
  rw[this];exact o t
theorem UI:∀{vs:List AI},(∀v∈vs,∃n ns,Ua s v (n :: ns))->∀{Q:List (Option AI)->AK->Prop},(∀is ns,EU is ns->is.length=vs.length->Q (is.map some) s)->Am (Ag prog w) A (vs.mapM NK) Q E s
 | [],_,Q,h=>by
  rw[XZ];exact AN (h [] [] .nil rfl)
 | v :: vs,l,Q,h=>by
  obtain⟨n,ns,m⟩:=l v AW;rw[VP];refine AB (fO m λt=>AB (UI (λv o=>l v (AQ _ o)) λis B C G=>AN ?_));exact h (.int n t :: is) (n :: B) (.cons n t C) (by rw[Aj,G,Aj])
def Wo(h:EU is ns)(l:is≠[]):oneTypeOnly' is.toArray=pure (some (.type "int")):=by
 rw[wk,LN,mapM_typeOf_ints h];simp only[map_pure,pure_bind]
 cases is with
 | nil=>exact zX rfl l
 | cons v is=>
  have m:(FX (λ_=>Da "int") (v :: is)).toArray[0]?=some (Da "int"):=by simp
  have o:((FX (λ_=>Da "int") (v :: is)).toArray.all λx=>x==Da "int")=true:=by
   simp only[lG,RN,E4]
   exact λ_ _=>rfl
  rw[m];simp only[o,if_true]
def jd(l:∀v∈vs,∃n ns,Ua s v (n :: ns))(m:vs≠[])(h:Q (ZF true) s):Am (Ag prog w) A (keyKind' vs.toArray) Q E s:=by
 rw[keyKind'_eq,LN];refine AB ?_;rw[map_eq_pure_bind];refine AB (UI l λis ns o B=>AN ?_)
 have C:((is.map some).toArray.all λx=>x.isSome)=true:=by simp
 rw[qX C];refine AB (ZT ?_)
 have G:(is.map some).toArray.filterMap id=is.toArray:=by simp
 rw[G,Wo o (by intro e;subst e;cases vs with | nil=>exact m rfl | cons=>simp at B)];refine AB (AN (AN ?_));exact h
end
section
def Gf(h:x∈NF vs):x.1∈vs/\x.1=x.2:=by
 have:x∈(NF vs).toList:=Bj.mpr h;rw[pairsOf_toList]at this;exact⟨(mem_zip_self this).2,(mem_zip_self this).1⟩
def ed(vs:List AI):(NF vs).map (·.2)=vs.toArray:=by
 apply Array.ext'
 rw[Lu,pairsOf_toList];simp[List.map_snd_zip]
def Uc(prog:Bf)(w:CH)(A:Bs)(s:AK)(vs:List AI)(f:AI->ZLi):Prop:=
 ∃l:QX,(∀(Q:QX->AK->Prop) (E:AI->AK->Prop),Q l s->Am (Ag prog w) A (keyKind' vs.toArray) Q E s)/\M5 prog w A s (NF vs) l (ltK f)
def Oq(ho:s.heap.get? a=some (II "list" vs.toArray n)) (U:vs.length<=sizeLine)
  (X:2<=vs.length->∀s':AK,(∀b o,b≠a->s.heap.get? b=some o->s'.heap.get? b=some o)->Uc prog w A s' vs f)
  (h:∀out:Array AI,out.toList.Perm vs->out.toList.Pairwise (λx y=>ltL (f y) (f x)=false)->P (.done (.ret .none)) { s with heap:=ZW s.heap a vs out }) :
  Am (Ag prog w) A (Builtin.«list.sort» ⟨[.ref a],[]⟩) P E s:=by
 have ha:a < s.heap.objs.size:=Ad ho
 have N:vs.toArray.size=vs.length:=by simp
 obtain⟨O,H⟩:∃O,(s.heap.update a (Go λ_=>#[])).get? a=some (II "list" #[] O):=⟨_,get?_update_seq ho (λ_=>#[])⟩
 have B:(((s.heap.update a (Go λ_=>#[])).push (II "tuple" vs.toArray 0)).push (II "list" #[] 0)).get? a=some (II "list" #[] O):=
  AR _ (AR _ H)
 have old:∀b o,b≠a->s.heap.get? b=some o->(((s.heap.update a (Go λ_=>#[])).push (II "tuple" vs.toArray 0)).push (II "list" #[] 0)).get? b=some o:=λb o hb Y=>
  AR _ (AR _ (by rw[dY _ _ _ _ hb];exact Y))
 have fin:∀m:BM,(AX m).Perm (NF vs)->(AX m).toList.Pairwise (Rl (ltK f))->P (.done (.ret .none)) { s with heap:=ZW s.heap a vs ((AX m).map (·.2)) }:=by
  intro m G J
  have S:∀x∈(AX m).toList,x.1=x.2:=λx R=>by
   have:x∈(NF vs).toList:=(GX.mp G).mem_iff.mp R;exact(Gf (Bj.mp this)).2
  refine h _ ?_ ?_
  ·have:=(GX.mp G).map (·.2)
   rw[<-Lu,<-Lu,ed]at this;simpa using this
  ·rw[Lu,Bl]
   refine J.imp_of_mem λ{x y} R Z r=>?_
   rw[<-S x R,<-S y Z];exact r
 have last:∀m:BM,(AX m).Perm (NF vs)->KM m=none->(AX m).toList.Pairwise (Rl (ltK f))->(((AX m).map (·.2)).size<=sizeLine+1):=λm G _ _=>by
  rw[Array.size_map,G.size_eq,pairsOf_size]
  lia
 rw[list_sort_plain];refine AB (Ov ho rfl (AB (dO ho rfl (AB (lR H rfl (AB (wpAny_newTuple (AB (dL (IA ?_)))))) ) (by rw[N];exact U) (Dp _))));show Am (Ag prog w) A _ P E { s with heap:=((s.heap.update a (Go λ_=>#[])).push (II "tuple" vs.toArray 0)).push (II "list" #[] 0) };dsimp only
 by_cases L:vs.toArray.size < 2
 ·rw[qX L,qX L]
  refine AB (AN ?_);rw[StateT.run_pure]
  have I:(AX (Ia ZZ (vs.toArray.zip vs.toArray) #[] 7 none)).toList.Pairwise (Rl (ltK f)):=by
   have:(AX (Ia ZZ (vs.toArray.zip vs.toArray) #[] 7 none)).toList.length < 2:=by
    rw[Bg];show(NF vs).size < 2;rw[pairsOf_size];omega
   generalize (AX (Ia ZZ (vs.toArray.zip vs.toArray) #[] 7 none)).toList=l at this
   match l,this with
   | [],_=>exact .nil
   | [x],_=>exact HK _ _
   | _ :: _ :: _,h=>simp at h;lia
  refine AB (AN (AB (lR B rfl (AB (dO B rfl ?_ (Dp _) (last (Ia ZZ (vs.toArray.zip vs.toArray) #[] 7 none) (QT _) rfl I))))));simp only[bne_self_eq_false,Cj,if_false];exact AN (fin (Ia ZZ (vs.toArray.zip vs.toArray) #[] 7 none) (QT _) I)
 ·rw[qY L,qY L]
  obtain⟨κ,kk,C⟩:=X (by lia) { s with heap:=((s.heap.update a (Go λ_=>#[])).push (II "tuple" vs.toArray 0)).push (II "list" #[] 0) } old;refine AB (kk _ _ ?_)
  refine AB (Fq (Srt.wpS_sortRuns (a₀:=NF vs) (st:=Ia κ (vs.toArray.zip vs.toArray) #[] 7 none)
   (Q:=λ_ m=>(AX m).Perm (NF vs)/\KM m=none/\(AX m).toList.Pairwise (Rl (ltK f))) C (ny f _) ⟨QT _,rfl,rfl⟩ rfl λm g u=>⟨g.perm,g.failed,?_⟩) ?_ λ_ _ e=>e)
  ·have:=iB (a:=AX m) (lo:=0) (hi:=(AX m).size) (AO _) (by rw[g.size];exact u)
   rwa [Mi,List.drop_zero]at this
  rintro⟨⟨⟩,m⟩ s' ⟨rfl,G,T,J⟩;refine AB (lR B rfl (AB (dO B rfl ?_ (Dp _) (last m G T J))));rw[T];simp only[bne_self_eq_false,Cj,if_false];exact AN (fin m G J)
def dy(h:∀v∈vs,Ua s v (f v)/\f v≠[])(l:vs≠[]):Uc prog w A s vs f:=
 ⟨ZF true,λQ E q=>jd (λv m=>by
  obtain⟨o,B⟩:=h v m
  cases e:f v with
  | nil=>exact zX e B
  | cons n C=>exact⟨n,C,by rw[<-e];exact o⟩) l q,λx y G H Q E q=>pH true (h _ (Gf G).1).1 (h _ (Gf H).1).1 q⟩
def i6(v:AI):ZLi:=[numOf v]
def dz(h:EU vs ns)(B:2<=vs.length):Uc prog w A s vs i6:=by
 refine⟨oneType',λQ E q=>?_,λx y C G Q E q=>?_⟩
 ·match vs,B,h with
  | v :: u :: r,_,h=>rw[keyKind_ints h];exact AN q
 ·obtain⟨n,t,l⟩:=h.all _ (Gf C).1
  obtain⟨m,u,o⟩:=h.all _ (Gf G).1;rw[keyLt'_oneType,l,o];refine oneLt_int ?_
  have:ltK i6 x y=decide (n < m):=by
   unfold ltK i6;rw[l,o];show(if n=m then false else decide (n < m))=_;split
   ·rename_i e;simp[e]
   ·rfl
  rw[<-this];exact q
end
def VD(h:DA)(d:AT)(es:Array RO)(ep:Nat):Prop:=∃o,h.get? d=some o/\o.ExactDict/\o.data=.dict es ep
def VD.at'(x:VD h d es ep)(e:∀o,h.get? d=some o->h'.get? d=some o):VD h' d es ep:=let ⟨o,l,r⟩:=x;⟨o,e _ l,r⟩
def VD.ty{s:AK}{d:AT}{es:Array RO}{ep:Nat}(x:VD s.heap d es ep):s.TypeIs (.ref d) "dict":=let ⟨o,l,m,_⟩:=x;⟨o,l,m.1⟩
section
def YS{Q:AI->AK->Prop}(G:(d==D7)=false)(B:VD s.heap d es ep)
  (H:Q (.ref s.heap.objs.size) { s with heap:=s.heap.push { cls:=.type "dict_keyiterator",data:=.fields #[.ref d,.int 0 0,.int es.size 0,.int ep 0] } }):Am (Ag prog w) A (gV (.ref d)) Q E s:=by
 have m:=B.ty;obtain⟨o,C,I,l⟩:=B;refine wpAny_pyIter_slot m V9 (Ec V9 m PySem.F.entry_dict_iter ?_ (PySem.F.args_dict_iter_1 _));unfold Builtin.«dict.__iter__»;refine AB ?_;unfold xG;refine AB (wpAny_notOrdered_dict m (show Am _ _ (pure (BB d)) _ _ s from AN ?_));refine(show Am _ _ (Se d >>= _) _ _ s from ?_);unfold Se;rw[qY (by simp[G])];refine AB (AN (AB (Uf C l (AB (Xg C l (AB (E3 (AN ⟨_,rfl, "dict_keyiterator",_,⟨_,Al _ rfl,rfl⟩,C9.lookup,?_⟩))))))));simpa[FO]using H
def YR(l:s.heap.IsKeyIter it d i es.size ep)(I:VD s.heap d es ep)(hi:i < es.size)
  (J:∀h',h'.IsKeyIter it d (i+1) es.size ep->FK it s.heap h'->Q (some es[i].key) { s with heap:=h' }):Am (Ag prog w) A (V5 (.ref it)) Q E s:=by
 obtain⟨o,H,L,m⟩:=id l;obtain⟨N,B,O,C⟩:=I;unfold V5;refine AB (KI (FM (name:=NM "__next__") l.typeIs C9 (Ec C9 l.typeIs Oh (AB (AN (AB (AB ?_)))) (OZ _))))
 first | refine AB (Fi l.typeIs (AN (AB (QU H m ?_)))) | refine AB (Hz l.typeIs (AN (AB (QU H m ?_))))
 simp only[show NJ "dict_keyiterator" = false by decide,Cj,if_false];refine(show Am _ _ (if (BB d==Bn)=true then _ else _) _ _ s from ?_);rw[qY (λz:(BB d==Bn)=true=>AH z)];refine AB (AN (AB (Uf B C ?_)));rw[qY (by simp)];refine AB (AN (AB (Xg B C ?_)));rw[qY (by simp)];refine AN ?_;simp only[show ¬((i:Int) < 0) by lia,if_false,Az,VX hi];refine AB ?_
 first | refine AB (Fi l.typeIs (AN (AB (Pj l.typeIs ?_)))) | refine AB (Hz l.typeIs (AN (AB (Pj l.typeIs ?_))))
 refine(show Am _ _ (lP (.ref it) 1 (FO ((i:Int)+1)) >>= _) _ _ s from ?_);have G:(s.heap.update it (Dh (·.setIfInBounds 1 (FO ((i:Int)+1))))).IsKeyIter it d (i+1) es.size ep:=⟨_,EV _ H (Fu (Cm m _)),(Lj ..).trans L,by rw[Cm m];simp[FO]⟩;refine AB (G8 H m (by simp) (AB (IA (AB (Pj (s:={ s with heap:=s.heap.update it (Dh (·.setIfInBounds 1 (FO ((i:Int)+1)))) }) G.typeIs ?_)))));exact(show Am _ _ (pure es[i].key) _ _ _ from AN (AN ⟨_,rfl,AN (J _ G (IK ..))⟩))
def cH(I:A.handled=none)(l:s.heap.IsKeyIter it d i es.size ep)(J:VD s.heap d es ep)(hi:es.size<=i)
  (L:∀h',bd it s.heap h'->Q none { s with heap:=h' }):Am (Ag prog w) A (V5 (.ref it)) Q E s:=by
 obtain⟨o,G,N,H⟩:=id l;obtain⟨O,B,P,C⟩:=J;unfold V5;refine AB (KI (FM (name:=NM "__next__") l.typeIs C9 (Ec C9 l.typeIs Oh (AB (AN (AB (AB ?_)))) (OZ _))))
 first | refine AB (Fi l.typeIs (AN (AB (QU G H ?_)))) | refine AB (Hz l.typeIs (AN (AB (QU G H ?_))))
 simp only[show NJ "dict_keyiterator" = false by decide,Cj,if_false];refine(show Am _ _ (if (BB d==Bn)=true then _ else _) _ _ s from ?_);rw[qY (λz:(BB d==Bn)=true=>AH z)];refine AB (AN (AB (Uf B C ?_)));rw[qY (by simp)];refine AB (AN (AB (Xg B C ?_)));rw[qY (by simp)];refine AN ?_;simp only[show ¬((i:Int) < 0) by lia,if_false,Az,Array.getElem?_eq_none hi];refine AB ?_
 first | refine AB (Fi l.typeIs (AN (show Am _ _ (lP (.ref it) 0 .none >>= _) _ _ s from ?_))) | refine AB (Hz l.typeIs (AN (show Am _ _ (lP (.ref it) 0 .none >>= _) _ _ s from ?_)))
 refine AB (G8 G H (by simp) (show Am _ _ (newExc (.type "StopIteration") [] >>= _) _ _ _ from AB ?_));simp only[newExc,newTuple];refine AB (E3 (AB (m:=QW _ _) (lM (a:=Bn) (by first | rfl | (simp only[QW];rfl)) (E3 ?_ (by size_fits)))) (by size_fits));simp only[raiseNew];refine AB (wpAny_handled ?_);rw[show A.in1.handled=none from I];refine AB (AN (wpAny_throw ?_));refine AB (uW (T:="StopIteration") (b:=true) ⟨_,Al _ rfl,rfl⟩ isSubtype_stop (AN ?_));exact L _ (((IK ..).extBut.push _).push _)
def eW(L:A.handled=none)(I:AT)(N:d≠I):Walks prog w A I [I,d] [I] es.size (λi v=>∃h:i < es.size,v=es[i].key) (λi h=>h.IsKeyIter I d i es.size ep/\VD h d es ep) where
 sub:=λx H=>by simp at H;simp[H]
 frame:=λ_ _ _ st keep=>⟨st.1.at λo e=>keep I (by simp) o e,st.2.at' λo e=>keep d (by simp) o e⟩
 item:=λi s Q E J st l=>YR st.1 st.2 J λB C m=>l _ B s.toks ⟨J,rfl⟩ ⟨C,st.2.at' λo e=>m.extBut d o N e⟩ λb o hb e=>m.extBut b o (λh=>hb (by simp[h])) e
 done:=λs Q E st l=>cH L st.1 st.2 (AO _) λB G=>l B s.toks λb o hb e=>G b o (λh=>hb (by simp[h])) e
 self:=λ_ _ _ _ st l=>lL st.1 l
def cG(lo:(d==D7)=false):PySem.W.KdlSrc prog w "dict" d d es.size (λi v=>∃h:i < es.size,v=es[i].key) (λh=>VD h d es ep) where
 type:=λ_ l=>l.ty
 there:=λ_ l=>⟨let ⟨_,m,_⟩:=l;Ad m,let ⟨_,m,_⟩:=l;Ad m⟩
 keep:=λ_ _ l A=>l.at' λo e=>A d (.inl rfl) o e
 notList:=by decide
 notTuple:=by decide
 hint:=λ_ _ _ _ l s=>PySem.W.kdl_hint_dict l.ty s
 iter:=λ_ _ B l=>⟨_,_,(λ_ _ s=>YS lo l s),eW B _ (A0 (let ⟨_,m,_⟩:=l;Ad m)),⟨⟨_,Al _ rfl,rfl,rfl⟩,l.at' λo e=>AR _ e⟩⟩
end
end Srt
namespace L2
open Srt (ltL)
def Ra{E G:Type}{R:E->G->Prop}{H m:List G}(p:H.Perm m):∀{l1:List E},G9 R l1 H->∃o,G9 R o m/\o.Perm l1:=by
 induction p with
 | nil=>intro l1 h;cases h;exact⟨[],.nil,.refl _⟩
 | cons x _ I=>
  intro l1 h
  cases h with
  | cons r t=>
   obtain⟨J,s,A⟩:=I t;exact⟨_ :: J,.cons r s,A.cons _⟩
 | swap x y l=>
  intro l1 h
  cases h with
  | cons r t=>
   cases t with
   | cons L t=>exact⟨_ :: _ :: _,.cons L (.cons r t),List.Perm.swap _ _ _⟩
 | trans _ _ B C=>
  intro l1 h;obtain⟨a,s,A⟩:=B h;obtain⟨b,N,O⟩:=C s;exact⟨b,N,O.trans A⟩
theorem MR{l m s:Type}{R:l->m->Prop}{f:l->s}{g:m->s}:∀{o:List l} {A:List m},G9 R o A->(∀a∈o,∀b,R a b->g b=f a)->A.map g=o.map f
 | _,_,.nil,_=>rfl
 | _,_,.cons r t,h=>by rw[As,As,h _ AW _ r,MR t λa B=>h a (AQ _ B)]
theorem PF{m l:Type}{R:m->l->Prop}:∀{o:List m} {s:List l} {b:l},G9 R o s->b∈s->∃a∈o,R a b
 | _,_,_,.nil,h=>nomatch h
 | _,_,b,.cons r t,h=>by
  rcases Ai.mp h with h | h
  ·subst h;exact⟨_,AW,r⟩
  ·obtain⟨a,A,e⟩:=PF t h
   exact⟨a,AQ _ A,e⟩
noncomputable def Uy:V->Int
 | .int n=>n
 | _=>0
def eQ(H:Hp):AI->ZLi
 | .int n _=>[n]
 | .ref b=>match H b with
  | some (.tup l)=>l.map Uy
  | _=>[]
 | _=>[]
def LY(r:ZLi):(r.map V.int).map Uy=r:=by
 rw[BF];exact(Ct λa _=>rfl).trans (uV r)
def wc(K:AE)(H:Hp)(p:AT)(G:List V->Prop):Prop:=
 (∃m,(SqL K H p m∨SqT K H p m)/\G m)∨(∃l,H p=some (.dK l)/\G (l.map λx=>kV x.1)) ∨
  ∃l,H p=some (.dT l)/\∀bs:List AT,G9 (λ(k:List Key×V) b=>H b=some (.tup (k.1.map kV))) l bs->G (bs.map V.ref)
def V3(H:Hp)(f:V->ZLi)(vs:List V):Prop:=(∀v∈vs,∃n,v=.int n/\f v=[n])∨∀v∈vs,∃b,v=.ref b/\H b=some (.tup ((f v).map V.int))/\f v≠[]
def vJ(K:AE):List V->Hp->VK->Prop:=λo H Q=>∃p,o=[.ref p]/\wc K H p λm=>∃f:V->ZLi,V3 H f m /\
 ∀out,out.Perm m->out.Pairwise (λx y=>ltL (f y) (f x)=false)->∀l,H l=none->Q (.ref l) (upd H l (.lst out))
def V3.rel(h:V3 H f vs):∀v∈vs,∀u,RelV v u->eQ H u=f v:=λv l u r=>by
 rcases h with h | h
 ·obtain⟨n,rfl,e⟩:=h v l
  obtain⟨t,rfl⟩:=r;exact e.symm
 ·obtain⟨b,rfl,e,_⟩:=h v l
  cases r;show(match H b with | some (.tup m)=>m.map Uy | _=>[])=_;rw[e];exact LY _
def RW(hc:X.calm=true)(I:Inv X ζ σ H s)(h:wc X.K H p G) :
  ∃vs P,G vs/\CQ vs P/\P.length<=sizeLine/\∀(R:List AI->AK->Prop) (E:AI->AK->Prop),(∀(g:DA) (tk:Nat),(∀b o,s.heap.get? b=some o->g.get? b=some o)->R P { s with heap:=g,toks:=tk })->Am (Ag X.prog X.w) X.A.in1 (collect (.ref p)) R E s:=by
 have hh:X.A.handled=none:=I.ok.hd hc
 rcases h with⟨vs,sq,g⟩ | ⟨B,e,g⟩ | ⟨B,e,g⟩
 ·rcases sq with sq | sq
  ·obtain⟨P,T,pl,J⟩:=I.list sq
   refine⟨vs,P,g,T,by rw[<-T.length];exact J,λR E k=>collect_list pl.isList (k _ s.toks λb o e=>?_) (by rw[<-T.length];exact J)⟩;rw[dY _ _ _ _ (A0 (Ad e))];exact AR _ e
  ·obtain⟨P,T,⟨o,ho,zE,n,hd⟩,J⟩:=I.tuple sq
   have U:P.length<=sizeLine:=by rw[<-T.length];exact J
   exact⟨vs,P,g,T,U,λR E k=>wpAny_collect_seq p (.inr rfl) ho zE hd (λh' kp=>by simpa using k h' s.toks kp) (by simpa using U)⟩
 ·obtain⟨J,sm,Y,kv,o,es,ep,g1,g2,g3,g5,g6,_⟩:=(show Ck X.prog X.w H s.heap p (.dK B)from I.hok p _ e)
  have C:es.size=B.length:=by
   have a1:=g6.length;have a2:B.length=Y.length:=FQ kv;rw[Bg]at a1
   lia
  have hv:CQ (B.map λx=>kV x.1) (es.toList.map (·.key)):=by
   have key:∀{l:List RO} {Y:List (Key×AI)} {B:List (Key×V)},Pairs (Es X.prog X.w) l Y->KV B Y->CQ (B.map λx=>kV x.1) (l.map (·.key)):=by
    intro l Y B hp
    induction hp generalizing B with
    | nil=>intro h;cases h;exact .nil
    | cons q1 q2 _ Z=>
     intro h
     cases h with
     | cons r t=>
      refine .cons ?_ (Z t);dsimp only;rw[r.1]
      rcases De q1 with⟨i,t,e1,Q⟩ | ⟨x,t,e1,Q⟩
      ·rw[e1,Q];exact⟨t,rfl⟩
      ·rw[e1,Q];exact⟨t,rfl⟩
   exact key g6 kv
  refine⟨_,es.toList.map (·.key),g,hv,by rw[AF,Bg,C];exact J,λR E k=>?_⟩
  refine ZK (Srt.cG (es:=es) (ep:=ep) sm) hh ⟨o,g1,g2,g3⟩ (by rw[C];exact J) λg' tk m kp S=>?_
  have:m.toList=es.toList.map (·.key):=by
   apply Fy
   intro j
   by_cases L:j < es.size
   ·have N:j < m.size:=by rw[S.1];exact L
    obtain⟨_,Q⟩:=S.2 j m[j] (by simp[N]);simp[L,N,Q]
   ·have N:¬j < m.size:=by rw[S.1];exact L
    simp[L,N]
  rw[this];exact k g' tk kp
 ·obtain⟨J,sm,O,rr,o,es,ep,g1,g2,g3,g4,_⟩:=(show Ck X.prog X.w H s.heap p (.dT B)from I.hok p _ e)
  have C:es.size=B.length:=by
   have a1:=congrArg JO g4;have a2:B.length=O.length:=FQ rr;rw[Bg,AF]at a1
   lia
  have hb:G9 (λ(k:List Key×V) b=>H b=some (.tup (k.1.map kV))) B (O.map (·.2.1)):=by
   have key:∀{B:List (List Key×V)} {O:List (List Key×AT×AI)},G9 (λ(p:List Key×V) (q:List Key×AT×AI)=>p.1=q.1/\H q.2.1=some (.tup (p.1.map kV))/\RelV p.2 q.2.2) B O->G9 (λ(k:List Key×V) b=>H b=some (.tup (k.1.map kV))) B (O.map (·.2.1)):=by
    intro B O h
    induction h with
    | nil=>exact .nil
    | cons r _ Z=>exact .cons r.2.1 Z
   exact key rr
  have hk:es.toList.map (·.key)=(O.map (·.2.1)).map BB:=by
   rw[g4,BF,BF];rfl
  have hv:∀l:List AT,CQ (l.map V.ref) (l.map BB):=λl=>by
   induction l with
   | nil=>exact .nil
   | cons a l Z=>exact .cons rfl Z
  refine⟨_,(O.map (·.2.1)).map BB,g _ hb,hv _,by rw[AF,AF,<-FQ rr];exact J,λR E k=>?_⟩
  refine ZK (Srt.cG (es:=es) (ep:=ep) sm) hh ⟨o,g1,g2,g3⟩ (by rw[C];exact J) λg' tk m kp S=>?_
  have:m.toList=(O.map (·.2.1)).map BB:=by
   rw[<-hk]
   apply Fy
   intro j
   by_cases L:j < es.size
   ·have N:j < m.size:=by rw[S.1];exact L
    obtain⟨_,Q⟩:=S.2 j m[j] (by simp[N]);simp[L,N,Q]
   ·have N:¬j < m.size:=by rw[S.1];exact L
    simp[L,N]
  rw[this];exact k g' tk kp
def YL{X:Cx}{s:AK}{H:Hp}{f:V->ZLi}{vs:List V}{l:List AI}(I:∀b xs,H b=some (.tup xs)->∃is:List AI,CQ xs is/\lb s.heap b is.toArray)(h:V3 H f vs)(G:CQ vs l)(J:2<=l.length){A:Bs}:Srt.Uc X.prog X.w A s l (eQ H):=by
 rcases id h with O | P
 ·have:∃ns,EU l ns:=by
   have key:∀{vs:List V} {l:List AI},CQ vs l->(∀v∈vs,∃n,v=.int n/\f v=[n])->∃ns,EU l ns:=by
    intro vs l r
    induction r with
    | nil=>exact λ_=>⟨[],.nil⟩
    | cons r _ R=>
     intro B
     obtain⟨ns,C⟩:=R λv S=>B v (AQ _ S)
     obtain⟨n,rfl,_⟩:=B _ AW;obtain⟨t,rfl⟩:=r;exact⟨n :: ns,.cons n t C⟩
   exact key G O
  obtain⟨ns,C⟩:=this;obtain⟨T,U,Y⟩:=Srt.dz (prog:=X.prog) (w:=X.w) (A:=A) (s:=s) C J;refine⟨T,U,λx y L N Q E q=>Y x y L N Q E ?_⟩;obtain⟨n,t,Z⟩:=C.all _ (Srt.Gf L).1;obtain⟨m,u,e2⟩:=C.all _ (Srt.Gf N).1
  have e:Srt.ltK Srt.i6 x y=Srt.ltK (eQ H) x y:=by
   unfold Srt.ltK Srt.i6;rw[Z,e2];rfl
  rw[e];exact q
 ·refine Srt.dy (λu hu=>?_) (by intro e;subst e;simp at J)
  obtain⟨v,B,r⟩:=PF G hu;rw[h.rel v B u r];obtain⟨b,rfl,e,ne⟩:=P v B;cases r;refine⟨⟨b,?_⟩,ne⟩;obtain⟨is,r,o,ho,zE,n,hd⟩:=I b _ e;exact⟨is.toArray,rfl,⟨o,ho,zE,n,hd⟩,by simpa using intsAre_of r⟩
def fg{X}(Y:X.calm=true):JU X (.builtin "sorted") (vJ X.K):=by
 intro Z s σ H S us Q I r h;obtain⟨p,rfl,E⟩:=h;obtain⟨u,rfl,rx⟩:=vals1 r;cases rx;obtain⟨vs,C,⟨f,l,q⟩,G,J,L⟩:=RW Y I E;refine VW kind_sorted plain_sorted entry_sorted (args_sorted1 _) ?_;unfold Builtin.«sorted»;refine AB (m:=checkCount "sorted" 1 1 _) (AN (AB (L _ _ λg tk kp=>?_)));refine AB (dL ?_ J);have N:Inv X Z σ H { s with heap:=g,toks:=tk }:=I.kept kp;have O:(g.push (II "list" C.toArray 0)).get? g.objs.size=some (II "list" C.toArray 0):=Al _ rfl;refine AB (IA (Ec slot_list_sort ⟨_,O,rfl⟩ wl (Srt.Oq (f:=eQ H) O J (λh2 s' keep=>?_) λout po so=>⟨_,rfl,AN ⟨_,rfl,?_⟩⟩) (args_list_sort _)))
 ·refine YL (λb S e=>?_) l G h2
  obtain⟨_,is,r,o,T,zE,n,hd⟩:=(show Ck X.prog X.w H g b (.tup S)from N.hok b _ e);exact⟨is,r,o,keep b o (A0 (Ad T)) (AR _ T),zE,n,hd⟩
 ·obtain⟨A,U,pv⟩:=Ra po.symm G
  have P:A.Pairwise (λx y=>ltL (f y) (f x)=false):=by
   have e:out.toList.map (eQ H)=A.map f:=MR U λa ha b rb=>l.rel a (pv.mem_iff.mp ha) b rb
   have:=(Bl (f:=eQ H) (R:=λx y=>ltL y x=false)).mpr so;rw[e]at this;exact Bl.mp this
  obtain⟨k,hk⟩:=sortedHeap_at (out:=out) O
  have B:A.length<=sizeLine:=by rw[pv.length_eq,G.length];exact J
  have I2:=N.laid (a:=g.objs.size) (o:=.lst A) (t':=tk) (h':=ZW (g.push (II "list" C.toArray 0)) g.objs.size C out)
   (λb u z=>by
    have lt:b < g.objs.size:=Ad z;rw[sortedHeap_old (A0 lt) (by rw[size_push'];exact Ll lt)]
    exact AR _ z) (AO _) ⟨B,out.toList,k,U,hk⟩
  exact⟨.ref g.objs.size,_,I2,rfl,q A pv P _ (N.hok.fresh (AO _))⟩
def D3(ns:ZLi):ZLi:=ns.mergeSort (λa b=>decide (a<=b))
@[simp] def eD:D3 []=[]:=by unfold D3;simp
def FA(ns:ZLi):(D3 ns).Perm ns:=Pd ns _
def TH(ns:ZLi):(D3 ns).Pairwise (·<=·):=by
 have:=M0 (le:=λa b:Int=>decide (a<=b)) (by intro a b c l m;simp at l m ⊢;lia) (by intro a b;simp;lia) ns
 exact this.imp λh=>by simpa using h
def KY(l:List ZLi):List ZLi:=l.mergeSort (λa b=>!ltL b a)
def HA(rs:List ZLi):(KY rs).Perm rs:=Pd rs _
def NY(l:List ZLi):(KY l).Pairwise (λa b=>ltL b a=false):=by
 have:=M0 (le:=λa b:ZLi=>!ltL b a) (by intro a b c m o;simp at m o ⊢;exact Srt.SK _ _ _ m o) (by
  intro a b
  cases e:ltL b a with
  | false=>simp
  | true=>simp[Srt.JA _ _ e]) l
 exact this.imp λh=>by simpa using h
def LS{l l':List ZLi}(p:l.Perm l')(h:l.Pairwise (λa b=>ltL b a=false))(h':l'.Pairwise (λa b=>ltL b a=false)):l=l':=
 p.eq_of_pairwise (λa b _ _ m o=>Srt.Wy a b o m) h h'
noncomputable def ag:Key->D
 | .inl i=>.int i
 | .inr x=>.str x
def Kw(d:D)(S:Sto):Option (List D):=match d with
 | .fro l=>some l
 | .tup l=>some l
 | .ref n=>match S[n]? with
  | some (.lst l)=>some l
  | some (.dK m)=>some (m.map λx=>ag x.1)
  | some (.dT m)=>some (m.map λx=>.tup (x.1.map ag))
  | _=>none
 | _=>none
def Ng(r:ZLi):D:=.tup (r.map D.int)
def Om:List D->Option (List ZLi)
 | []=>some []
 | .tup l :: r=>match JS l,Om r with
  | some (n :: m),some o=>some ((n :: m) :: o)
  | _,_=>none
 | _ :: _=>none
def M4(ds:List D):Option (List D):=match JS ds with
 | some l=>some ((D3 l).map D.int)
 | none=>match Om ds with
  | some m=>some ((KY m).map Ng)
  | none=>none
def FB(m:ME):ME:=λe S=>(m e S).bind λd l=>match Kw d l with
 | some o=>match M4 o with
  | some s=>.ok (.ref l.length) (l++[.lst s])
  | none=>.bad
 | none=>.bad
section
def oQ(x y:Int):ltL [y] [x]=decide (y < x):=by
 show(if y=x then false else decide (y < x))=_;split
 ·rename_i e;simp[e]
 ·rfl
def PB(H:Hp):V->ZLi
 | .int n=>[n]
 | .ref b=>match H b with
  | some (.tup l)=>l.map Uy
  | _=>[]
 | _=>[]
theorem YM{K}{ρ}{H}:∀{ds:List D} {m:List ZLi} {vs:List V},Om ds=some m->A9 K ρ H ds vs->vs.map (PB H)=m/\∀v∈vs,∃b,v=.ref b/\H b=some (.tup ((PB H v).map V.int))/\PB H v≠[]
 | [],_,_,h,.nil=>by cases h;exact⟨rfl,λv l=>nomatch l⟩
 | .tup I :: ds,m,_,h,.cons r t=>by
  unfold Om at h;split at h
  ·rename_i n ns o s A
   cases h;obtain⟨B,C⟩:=YM A t
   cases r with
   | @tup _ b J hb E=>
    have:=Nt s;subst this;have:=E.ints;subst this
    have e:PB H (.ref b)=n :: ns:=by
     show(match H b with | some (.tup G)=>G.map Uy | _=>[])=_;rw[hb];exact LY _
    refine⟨by rw[As,e,B],λv l=>?_⟩
    rcases Ai.mp l with l | l
    ·subst l
     refine⟨b,rfl,?_,?_⟩
     ·rw[e];exact hb
     ·rw[e];exact List.cons_ne_nil _ _
    ·exact C v l
  ·cases h
 | .non :: _,_,_,h,_=>by cases h
 | .bl _ :: _,_,_,h,_=>by cases h
 | .int _ :: _,_,_,h,_=>by cases h
 | .str _ :: _,_,_,h,_=>by cases h
 | .fro _ :: _,_,_,h,_=>by cases h
 | .ref _ :: _,_,_,h,_=>by cases h
 | .exc _ :: _,_,_,h,_=>by cases h
theorem YQ{K}{ρ}{H}:∀{vs:List V},(∀v∈vs,∃b,v=.ref b/\H b=some (.tup ((PB H v).map V.int))/\PB H v≠[])->A9 K ρ H ((vs.map (PB H)).map Ng) vs
 | [],_=>.nil
 | v :: vs,h=>by
  obtain⟨b,e,hb,_⟩:=h v AW;refine .cons ?_ (YQ λu l=>h u (AQ _ l));subst e;exact .tup hb (A9.of_ints _)
def iP{K:AE}{ρ:List AT}{H:Hp}{ds es:List D}{vs:List V}(h:M4 ds=some es)(r:A9 K ρ H ds vs) :
  ∃f:V->ZLi,V3 H f vs/\∀out,out.Perm vs->out.Pairwise (λx y=>ltL (f y) (f x)=false)->A9 K ρ H es out:=by
 unfold M4 at h;split at h
 ·rename_i ns C
  cases h;have:=Nt C;subst this;have:=r.ints;subst this;refine⟨λv=>[Uy v],.inl λv m=>?_,λout o s=>?_⟩
  ·obtain⟨n,_,rfl⟩:=BV.mp m
   exact⟨n,rfl,rfl⟩
  ·have E:out=(out.map Uy).map V.int:=by
    rw[BF]
    conv=>lhs;rw[<-Sb out]
    refine Ct λv m=>?_
    obtain⟨n,_,rfl⟩:=BV.mp (o.mem_iff.mp m);rfl
   have A:out.map Uy=D3 ns:=by
    have G:(out.map Uy).Perm (D3 ns):=by
     have:=o.map Uy;rw[LY]at this;exact this.trans (FA ns).symm
    refine G.eq_of_pairwise (λa b _ _ I J=>Int.le_antisymm I J) ?_ (TH ns);rw[Bl]
    refine s.imp λ{x y} l=>?_
    rw[oQ]at l;simp at l;exact l
   rw[E,A];exact A9.of_ints _
 ·split at h
  ·rename_i rs L
   cases h;obtain⟨N,B⟩:=YM L r;refine⟨PB H,.inr B,λout o s=>?_⟩
   have A:out.map (PB H)=KY rs:=by
    refine LS ?_ (Bl.mpr s) (NY rs);have:=o.map (PB H);rw[N]at this;exact this.trans (HA rs).symm
   rw[<-A]
   exact YQ λv m=>B v (o.mem_iff.mp m)
  ·cases h
theorem Tw{K}{ρ}{H}:∀l:List Key,A9 K ρ H (l.map ag) (l.map kV)
 | []=>.nil
 | .inl i :: l=>.cons (.int i) (Tw l)
 | .inr x :: l=>.cons (.str x) (Tw l)
theorem QE{K}{ρ}{H}:∀{l:List (Key×D)} {m:List (Key×V)},KVR K ρ H l m->A9 K ρ H (l.map λx=>ag x.1) (m.map λx=>kV x.1)
 | _,_,.nil=>.nil
 | (k,_) :: _,(k',_) :: _,.cons r t=>by
  have e:k=k':=r.1;subst e
  cases k with
  | inl i=>exact .cons (.int i) (QE t)
  | inr x=>exact .cons (.str x) (QE t)
theorem Tv{K}{ρ}{H}:∀{l:List (List Key×D)} {m:List (List Key×V)} {bs:List AT},KVR K ρ H l m->G9 (λ(k:List Key×V) b=>H b=some (.tup (k.1.map kV))) m bs->A9 K ρ H (l.map λx=>.tup (x.1.map ag)) (bs.map V.ref)
 | _,_,_,.nil,.nil=>.nil
 | (k,_) :: _,(k',_) :: _,_,.cons r t,.cons o s=>by
  have e:k=k':=r.1;subst e;exact .cons (.tup o (Tw k)) (Tv t s)
def IU(hc:X.calm=true)(hg:Gl X "sorted") (B:X.mg "sorted" = none) (h:GE X E e m) (T:AY [e] X.env=(false,Cd e X.env) :: AY [] X.env:=by rfl):GE X E (.Call (.Name "sorted" p) [e] [] pos) (FB m):=
 (LU (fg hc) hg B RG (Fe h IP T) (by decide) (by decide) T rfl).imp<|by
 rintro σ H Q ⟨ρ,l,S,hl,hs,B⟩
 refine⟨ρ,l,S,hl,hs,B.seq λd S1 B G I x l1 U r1=>?_⟩
 cases s:Kw d S1 with
 | none=>rw[s]at B;exact B.elim
 | some Y=>
  rw[s]at B;dsimp only at B
  cases L:M4 Y with
  | none=>rw[L]at B;exact B.elim
  | some Z=>
   rw[L]at B
   have fin:∀A:List V,A9 X.K G I Z A->∀q,I q=none->Q (.ref q) (upd I q (.lst A)):=λA J q s=>by
    have le:Le X.K G I (G++[q]) (upd I q (.lst A)):=Le.alloc s;obtain⟨s4,l4,N⟩:=U.alloc (ho:=.lst A) (o:=.lst Z) s ⟨_,CG,J.mono le⟩;exact B _ _ _ (l1.trans l4) s4 (.ref N)
   have out:∀A,A9 X.K G I Y A->∃f:V->ZLi,V3 I f A/\∀out,out.Perm A->out.Pairwise (λx y=>ltL (f y) (f x)=false)->∀l,I l=none->Q (.ref l) (upd I l (.lst out)):=λA J=>by
    obtain⟨f,k1,k2⟩:=iP L J;exact⟨f,k1,λout po so=>fin out (k2 out po so)⟩
   cases r1 with
   | fro O P=>cases s;exact⟨_,rfl,.inl ⟨_,.inl O.sq,out _ P⟩⟩
   | tup O P=>cases s;exact⟨_,rfl,.inl ⟨_,.inr (.inl (.inl O)),out _ P⟩⟩
   | @ref n a hn=>
    obtain⟨o,ho,R⟩:=U.there hn;unfold Kw at s;simp only[ho]at s
    cases o with
    | lst ys=>cases s;obtain⟨A,e,J⟩:=R;exact⟨_,rfl,.inl ⟨A,.inl (.inl (.inl e)),out _ J⟩⟩
    | dK i'=>cases s;obtain⟨A,e,J⟩:=R;exact⟨_,rfl,.inr (.inl ⟨A,e,out _ (QE J)⟩)⟩
    | dT i'=>cases s;obtain⟨A,e,J⟩:=R;exact⟨_,rfl,.inr (.inr ⟨A,e,λbs hb=>out _ (Tv J hb)⟩)⟩
    | ins C fs=>cases s
    | fK _=>cases s
    | fT _=>cases s
    | mem _=>cases s
   | _=>cases s
end
def isV(A:String):Option Bool:=if A = "NoneType" then some false else none
def sx{K}:∀A b,isV A=some b->CW K (.type A) (.type "ValueError")=some b:=λA b e=>by
 unfold isV at e;split at e
 ·rename_i l
  subst l;cases e
  kernel_rfl
 ·cases e
def jk{K}{C}(h:∀A∈["NoneType", "bool", "int", "str", "tuple", "list", "dict"],CW K (.type A) (.ref C)=some false):∀A b,isN A=some b->CW K (.type A) (.ref C)=some b:=λA b e=>by
 unfold isN at e;split at e
 ·rename_i l
  cases e;exact h A (by simpa using l)
 ·cases e
def cY{K}{C}(l:(Ej K C).isSome=true)(m:Jh K (.ref C)=some (.type "type")):∀A∈["NoneType", "bool", "int", "str", "tuple", "list", "dict"],CW K (.type A) (.ref C)=some false:=λA h=>by
 have key:∀A,Of K (.type A) (.ref C)=some false->CW K (.type A) (.ref C)=some false:=λA e=>by
  unfold CW PySem.W.kitCls;rw[qY (by simp)];dsimp only;rw[qX (by rw[l,m];rfl)];exact e
 refine key A ?_;simp only[Ai,JE,or_false]at h
 rcases h with rfl | rfl | rfl | rfl | rfl | rfl | rfl <;> kernel_rfl
def iN(K:AE):Sp:=λm H Q _=>∃(a:AT) (l:ZLi),m=[.ref a]/\VH K H a (l.map V.int)/\l.length<=63/\∀o,Q (.bl true) o
def jZ{P}{w}{K}{l}{base}{k}{m}{fd}{f}(F:DF P w K l base (CXG P w) k m fd ["script"] (spM K 1 f))
  (h:∀ns:ZLi,ns.length<=63->∃s,f [.fro (ns.map D.int)] []=.ok (.bl true) s):DF P w K l base (CXG P w) k m fd ["script"] (iN K):=F.imp<|by
 rintro L H Q E ⟨a,ns,e,A,B,q⟩
 subst e;obtain⟨s,e⟩:=h ns B;refine⟨[],[.fro (ns.map D.int)],[],rfl,.cons (.fro A (A9.of_ints ns)) .nil,⟨rfl,λi j a C=>by simp at C,λn o a G=>by simp at G⟩,?_⟩;rw[e]
 exact λI J x _ _ r=>by cases r;exact q J
def tZ{K:AE}{H:Hp}{a:AT}{ns:ZLi}(l:pW H)(m:SqL K H a (ns.map V.int)):VH K H a (ns.map V.int):=by
 rcases m with(h | h) | h
 ·rcases l a with z | ⟨o,s,z⟩ <;> rw[z]at h <;> cases h
 ·exact .inl h
 ·exact .inr h
def PV{K}{C}{v}{b}(h:Og K C v=some b):(Ej K C).isSome=true:=by
 obtain⟨l,a,_⟩:=WB.mp h;rw[a];rfl
def uD(h:CXG P w [] H s (λ_ _ _=>False) e s'):False:=by
 obtain⟨_,_,_,_,_,_,_,_,_,z⟩:=h;exact z
def qI(I:Lo->Sto->Prop)(R:Fl->Sto->Prop)(f:Fl)(S:Sto):Prop:=match f with
 | .nx e=>I e S
 | .ct e=>I e S
 | .bk e=>R (.nx e) S
 | .rt d=>R (.rt d) S
 | .ex c e=>R (.ex c e) S
def ox(I:Nat->Lo->Sto->Prop)(R:Fl->Sto->Prop)(m:∀i e S,I i e S->v S=some xs)
  (step:∀i d e S,xs[i]?=some d->I i e S->∃e1 S1,g d e S=.ok e1 S1/\∃f S2,b e1 S1=.ok f S2/\qI (I (i+1)) R f S2)
  (fin:∀e S,I xs.length e S->R (.nx e) S):∀(k i:Nat) (e:Lo) (S:Sto),I i e S->i<=xs.length->xs.length<=i+k->∃f S',NB v g b k i e S=.ok f S'/\R f S':=by
 intro k
 induction k with
 | zero=>
  intro i e S h A B
  have:i=xs.length:=by lia
  subst this;refine⟨.nx e,S,?_,fin e S h⟩;unfold NB;rw[m _ e S h];simp
 | succ k o=>
  intro i e S h A B;unfold NB;rw[m _ e S h];dsimp only
  by_cases C:i < xs.length
  ·have s:xs[i]?=some xs[i]:=by simp[C]
   rw[s];dsimp only;obtain⟨e1,S1,E,f,S2,G,t⟩:=step i _ e S s h;rw[E];dsimp only[Res.bind];rw[G];dsimp only[Res.bind]
   cases f with
   | nx l=>exact o (i+1) l S2 t (by lia) (by lia)
   | ct l=>exact o (i+1) l S2 t (by lia) (by lia)
   | bk l=>exact⟨_,_,rfl,t⟩
   | rt d=>exact⟨_,_,rfl,t⟩
   | ex c l=>exact⟨_,_,rfl,t⟩
  ·have:i=xs.length:=by lia
   subst this;rw[show xs[xs.length]?=none by simp];exact⟨.nx e,S,rfl,fin e S h⟩
def N0(I:Nat->Lo->Sto->Prop)(R:Fl->Sto->Prop)(l:I 0 e S)(m:∀i e S,I i e S->v S=some xs)
  (step:∀i d e S,xs[i]?=some d->I i e S->∃e1 S1,g d e S=.ok e1 S1/\∃f S2,b e1 S1=.ok f S2/\qI (I (i+1)) R f S2)
  (fin:∀e S,I xs.length e S->R (.nx e) S):∃f S',NB v g b (EG v S) 0 e S=.ok f S'/\R f S':=by
 have o:EG v S=xs.length:=by unfold EG;rw[m 0 e S l]
 rw[o];exact ox I R m step fin _ _ _ _ l (Dp _) (by lia)
def kb(I:Nat->Lo->Sto->List D->Prop)(o:∀i e S l,I i e S l->v S=some xs)
  (step:∀i d e S l,xs[i]?=some d->I i e S l->l.length < sizeLine/\∃e1 S1,g d e S=.ok e1 S1/\∃b S2,c e1 S1=.ok b S2/\((b=true/\∃y S3,m e1 S2=.ok y S3/\I (i+1) e1 S3 (l++[y]))∨(b=false/\I (i+1) e1 S2 l))) :
  ∀(k i:Nat) (e:Lo) (S:Sto) (l:List D),I i e S l->i<=xs.length->xs.length<=i+k->∃r s,HH v g c m k i e S l=.ok r s/\∃C,I xs.length C s r:=by
 intro k
 induction k with
 | zero=>
  intro i e S l h E G
  have:i=xs.length:=by lia
  subst this;refine⟨l,S,?_,e,h⟩;unfold HH;rw[o _ e S l h];simp
 | succ k A=>
  intro i e S l h E G;unfold HH;rw[o _ e S l h];dsimp only
  by_cases H:i < xs.length
  ·have B:xs[i]?=some xs[i]:=by simp[H]
   rw[B];dsimp only;obtain⟨J,e1,S1,L,b,S2,N,t⟩:=step i _ e S l B h;rw[qX J,L];dsimp only[okR,Res.bind];rw[N];dsimp only[okR,Res.bind]
   rcases t with⟨rfl,y,S3,O,t⟩ | ⟨rfl,t⟩
   ·rw[qX rfl,O]
    exact A (i+1) e1 S3 _ t (by lia) (by lia)
   ·rw[qY AH]
    exact A (i+1) e1 S2 l t (by lia) (by lia)
  ·have:i=xs.length:=by lia
   subst this;rw[show xs[xs.length]?=none by simp];exact⟨l,S,rfl,e,h⟩
def dA(I:Nat->Lo->Sto->List D->Prop)(o:I 0 e S [])(s:∀i e S l,I i e S l->v S=some xs)
  (step:∀i d e S l,xs[i]?=some d->I i e S l->l.length < sizeLine/\∃e1 S1,g d e S=.ok e1 S1/\∃b S2,c e1 S1=.ok b S2/\((b=true/\∃y S3,m e1 S2=.ok y S3/\I (i+1) e1 S3 (l++[y]))∨(b=false/\I (i+1) e1 S2 l))) :
  ∃r A,HH v g c m (EG v S) 0 e S []=.ok r A/\∃B,I xs.length B A r:=by
 have C:EG v S=xs.length:=by unfold EG;rw[s 0 e S [] o]
 rw[C];exact kb I s step _ _ _ _ _ o (Dp _) (by lia)
def si(h:-1000000<=j):-(2 ^ 62)<=j:=Int.le_trans (by decide) h
def tI{j:Int}(h:j<=1000000):j < 2 ^ 62:=ge h (by decide)
def jm{ml:ML}{e:Lo}{S S1:Sto}{j:Int}(h:ml e S=.ok [.int j] S1)(l:-1000000<=j)(m:j<=1000000):iR1 ml e S=.ok (ID (Ju 0 j.toNat)) S1:=by
 unfold iR1;rw[h];dsimp only[Res.bind];rw[qX ⟨si l,tI m⟩]
def tH{ml:ML}{e:Lo}{S S1:Sto}{i j:Int}(h:ml e S=.ok [.int i,.int j] S1)(l:-1000000<=i)(m:i<=1000000)(o:-1000000<=j)(s:j<=1000000):iR2 ml e S=.ok (ID (Ju i (j - i).toNat)) S1:=by
 unfold iR2;rw[h];dsimp only[Res.bind];rw[qX ⟨si l,tI m,si o,tI s⟩]
def eR(lo:Int)(n:Nat):(Ju lo n).length=n:=by simp[Ju]
def ic{lo:Int}{n i:Nat}{d:D}(h:(Ju lo n)[i]?=some d):i < n/\d=.int (lo+i):=by
 rw[Vd]at h;split at h
 ·rename_i l
  cases h;exact⟨l,rfl⟩
 ·cases h
def vl(h:-1000000<=j)(l:j<=1000000):bR i j:=.inr ⟨Int.lt_of_lt_of_le (by decide) h,ge l (by decide)⟩
def kI(h:0 < j)(l:j<=1000000):JT (.int i) (.int j) S=.ok (.int (i / j)) S:=by
 show(if k9 i j then _ else _)=_;rw[qX ⟨h,by lia⟩]
def cM(h:0 < j):Nk (.int i) (.int j) S=.ok (.int (i % j)) S:=by
 show(if 0 < j then _ else _)=_;rw[qX h]
def EN(l:ma e S=.ok x S1)(hb:mb e S1=.ok y S2)(m:f x y S2=.ok d S3):m2 f ma mb e S=.ok d S3:=by
 unfold m2;rw[l];dsimp only[Res.bind];rw[hb];dsimp only[Res.bind];rw[m];rfl
def Jk(h:m e S=.ok d S1):CY i m e S=.ok (.nx (e.set i (some d))) S1:=by
 unfold CY rM;rw[h];rfl
def Kv(h:m e S=.ok d S1):DP m e S=.ok (.rt d) S1:=by
 unfold DP;rw[h];rfl
def QN(h:m e S=.ok d S1):Js m e S=.ok (.nx e) S1:=by
 unfold Js;rw[h];rfl
def Gn(h:t e S=.ok c S1):sIf t a b e S=if c=true then a e S1 else b e S1:=by
 unfold sIf;rw[h];rfl
def jj(h:t e S=.ok c S1):Yk t a b e S=if c=true then a e S1 else b e S1:=by
 unfold Yk;rw[h];rfl
def Ky(h:m e S=.ok v S1):G0 m g b e S=NB v g b (EG v S1) 0 e S1:=by
 unfold G0;rw[h];rfl
def Hr(h:m e S=.ok ds S1)(l:ds.length=n):CM n f m e S=f ds S1:=by
 unfold CM;rw[h];dsimp only[Res.bind];rw[qX l]
def CC(h:a e S=.ok (.nx e1) S1):BP a b e S=b e1 S1:=by unfold BP;rw[h];rfl
def WX(h:a e S=.ok (.rt d) S1):BP a b e S=.ok (.rt d) S1:=by unfold BP;rw[h];rfl
def Qn(h:a e S=.ok (.ex c e1) S1):BP a b e S=.ok (.ex c e1) S1:=by unfold BP;rw[h];rfl
def Ku(h:mb (Dy n ds) S=.ok (.rt d) S1):D9 n mb ds S=.ok d S1:=by unfold D9;rw[h];rfl
def aJ(h:mb (Dy n ds) S=.ok (.nx e) S1):D9 n mb ds S=.ok .non S1:=by unfold D9;rw[h];rfl
def Qs(h:mb (Dy n ds) S=.ok (.ex c e) S1):D9 n mb ds S=.err c S1:=by unfold D9;rw[h];rfl
def Keeps(S l:Sto):Prop:=S.length<=l.length/\∀j,j < S.length->l[j]?=S[j]?
def Keeps.refl(S:Sto):Keeps S S:=⟨AO _,λ_ _=>rfl⟩
def Keeps.trans(a:Keeps S S1)(b:Keeps S1 S2):Keeps S S2:=⟨Aw a.1 b.1,λj h=>(b.2 j (AV h a.1)).trans (a.2 j h)⟩
def Keeps.app(S:Sto)(G:Sto):Keeps S (S++G):=⟨by simp,λj h=>Au h⟩
def Keeps.set(a:Keeps S S1)(h:S.length<=m)(o:Ob):Keeps S (S1.set m o):=⟨by simpa using a.1,λj l=>by rw[Aa (by lia)];exact a.2 j l⟩
def Keeps.at{S S1:Sto}(a:Keeps S S1){j:Nat}{o:Ob}(h:S[j]?=some o):S1[j]?=some o:=by
 rw[a.2 j (AG.mp h).1];exact h
def bG(l:mo e S=.ok (.ref n) S1)(m:S1[n]?=some (.lst xs))(o:ma e S1=.ok y S2)(s:S2[n]?=some (.lst xs2))(A:xs2.length < sizeLine) :
  Tr mo ma e S=.ok .non (S2.set n (.lst (xs2++[y]))):=by
 unfold Tr;rw[l];dsimp only[Res.bind];rw[m];dsimp only;rw[o];dsimp only[Res.bind];rw[s];dsimp only;rw[qX A]
def fQ(m:mo e S=.ok (.ref n) S1)(o:S1[n]?=some (.lst xs))(s:ma e S1=.ok (.ref k) S2)(A:S2[n]?=some (.lst xs2))(B:S2[k]?=some (.lst l))(C:k≠n)(E:xs2.length+l.length<=sizeLine) :
  QB mo ma e S=.ok .non (S2.set n (.lst (xs2++l))):=by
 unfold QB;rw[m];dsimp only[Res.bind]
 have G:atL (.ref n) S1=some (n,xs):=by unfold atL;dsimp only;rw[o]
 have H:atL (.ref n) S2=some (n,xs2):=by unfold atL;dsimp only;rw[A]
 have I:atL (.ref k) S2=some (k,l):=by unfold atL;dsimp only;rw[B]
 rw[G];dsimp only;rw[s];dsimp only[Res.bind];rw[H,I];dsimp only;rw[qX ⟨C,E⟩]
def mV(h:xs.length+l.length<=sizeLine):GN (.tup xs) (.tup l) S=.ok (.tup (xs++l)) S:=by
 unfold GN;dsimp only;rw[qX h]
def Ea(h:S[n]?=some (.lst xs)):GB (.ref n) S=some xs:=by
 unfold GB RS;dsimp only;rw[h]
def Nu(h:m e S=.ok (.ref n) S1)(l:S1[n]?=some (.lst xs)):E1 m e S=.ok (GB (.ref n)) S1:=by
 unfold E1;rw[h];dsimp only[Res.bind];rw[Ea l]
def UB(h:m e S=.ok (.tup xs) S1):E1 m e S=.ok (ID xs) S1:=by
 unfold E1;rw[h];rfl
def aQ(h:ml e S=.ok ds S1):Ee ml e S=.ok (.ref S1.length) (S1++[.lst ds]):=by
 unfold Ee;rw[h];rfl
def E2(S:Sto)(o:Ob):(S++[o])[S.length]?=some o:=by simp
def HQ(h:S[n]?=some (.lst ds)):GD (.ref n) S=some ds:=by
 unfold GD;dsimp only;rw[h]
def T9(h:S[n]?=some (.lst ds)):Kw (.ref n) S=some ds:=by
 unfold Kw;dsimp only;rw[h]
def LR(h:m e S=.ok d S1)(hi:Kw d S1=some ds)(l:M4 ds=some es):FB m e S=.ok (.ref S1.length) (S1++[.lst es]):=by
 unfold FB;rw[h];dsimp only[Res.bind];rw[hi];dsimp only;rw[l]
def Py(h:m e S=.ok d S1)(l:GD d S1=some ds):JL m e S=.ok (.tup ds) S1:=by
 unfold JL;rw[h];dsimp only[Res.bind];rw[l]
def jV(h:m e S=.ok d S1)(l:GD d S1=some ds):QA m e S=.ok (.int ds.length) S1:=by
 unfold QA;rw[h];dsimp only[Res.bind];rw[l]
def SF(l:mv e S=.ok v S1)(ho:mo e S1=.ok (.ref n) S2)(m:S2[n]?=some (.ins C fs))(o:fs.length < 1000) :
  Jr C f mo mv e S=.ok (.nx e) (S2.set n (.ins C (KO f v fs))):=by
 unfold Jr;rw[l];dsimp only[Res.lift];rw[ho];dsimp only[Res.lift];rw[m];dsimp only;rw[qX ⟨rfl,o⟩]
def Kz(h:m e S=.ok (.ref n) S1)(l:S1[n]?=some (.ins C fs))(o:fs.lookup f=some v):DY C f m e S=.ok v S1:=by
 unfold DY;rw[h];dsimp only[Res.bind];rw[l];dsimp only;rw[qX rfl,o]
def cO(h:ml e S=.ok ds S1)(l:ds.length+1=n)(m:f (.ref S1.length :: ds) (S1++[.ins C []])=.ok .non S2):No C n f ml e S=.ok (.ref S1.length) S2:=by
 unfold No;rw[h];dsimp only[Res.bind];rw[qX l,m]
def CU(h:m e S=.ok d S1)(l:r e S1=.ok ds S2):AL m r e S=.ok (d :: ds) S2:=by
 unfold AL;rw[h];dsimp only[Res.bind];rw[l]
def XI(h:mi e S=.ok v S1):Ef n mi g c m e S=HH v g c m (EG v S1) 0 (Be n none++e) S1 []:=by
 unfold Ef;rw[h];rfl
def VM(h:m e S=.ok (.bl b) S1):mB m e S=.ok b S1:=by
 unfold mB;rw[h];rfl
def qD(l:ma e S=.ok x S1)(hb:mb e S1=.ok y S2)(m:f x y S2=.ok (.bl true) S3)(o:s e S3=.ok w A)(B:g y w A=.ok d S5):m3 f g ma mb s e S=.ok d S5:=by
 unfold m3;rw[l];dsimp only[Res.bind];rw[hb];dsimp only[Res.bind];rw[m];dsimp only[Res.bind,okR];rw[o];dsimp only[Res.bind];rw[B]
def vq(l:ma e S=.ok x S1)(hb:mb e S1=.ok y S2)(m:f x y S2=.ok (.bl false) S3):m3 f g ma mb o e S=.ok (.bl false) S3:=by
 unfold m3;rw[l];dsimp only[Res.bind];rw[hb];dsimp only[Res.bind];rw[m];rfl
def jX(h:decide (i<=j)=b):leD (.int i) (.int j) S=.ok (.bl b) S:=by subst h;rfl
def sg(h:decide (i < j)=b):ltD (.int i) (.int j) S=.ok (.bl b) S:=by subst h;rfl
def tY(h:decide (j<=i)=b):geD (.int i) (.int j) S=.ok (.bl b) S:=by subst h;rfl
def t7(h:decide (i=j)=b):eqD false (.int i) (.int j) S=.ok (.bl b) S:=by
 subst h;show Res.ok (D.bl (i==j)) S=_;rfl
def PL(h:m e S=.ok b S1):Qy m e S=.ok (!b) S1:=by
 unfold Qy;rw[h];rfl
def sf(l:ma e S=.err c S1):m2 f ma mb e S=.err c S1:=by
 unfold m2;rw[l];rfl
def wj(h:m e S=.err c S1):mB m e S=.err c S1:=by
 unfold mB;rw[h];rfl
def tG(h:t e S=.err c S1):sIf t a b e S=.ok (.ex c e) S1:=by
 unfold sIf;rw[h];rfl
def SG(h:m e S=.err c S1):CY i m e S=.ok (.ex c e) S1:=by
 unfold CY rM;rw[h];rfl
def YU(h:ml e S=.ok ds S1)(l:ds.length<=30):TV C ml e S=.ok (.ex C e) S1:=by
 unfold TV;rw[h];dsimp only[Res.lift];rw[qX (Aw l (by decide))]
def qw(hb:b e S=.ok (.nx e1) S1):eM l i b h e S=.ok (.nx e1) S1:=by
 unfold eM;rw[hb];rfl
def qy(hb:b e S=.ok (.ex c e1) S1)(l:c∈m)(o:h (e1.set i (some (.exc c))) S1=.ok (.nx e2) S2):eM m i b h e S=.ok (.nx (e2.set i none)) S2:=by
 unfold eM;rw[hb];dsimp only[Res.bind];rw[qX l,o]
def S9(h:ml e S=.ok ds S1)(l:ds.length<=1000):Hg ml e S=.ok (.tup ds) S1:=by
 unfold Hg;rw[h];dsimp only[Res.bind];rw[qX (Aw l (by decide))]
def aj(h:m e S=.ok (.exc C) S1)(hb:l C=some b):mIs o l m e S=.ok (.bl b) S1:=by
 unfold mIs;rw[h];dsimp only[Res.bind];rw[hb]
def sK(h:l e S=.ok true S1):mOr l m e S=.ok true S1:=by
 unfold mOr;rw[h];rfl
def i5(h:l e S=.ok false S1):mOr l m e S=m e S1:=by
 unfold mOr;rw[h];rfl
def XT(h:l e S=.ok true S1):PM l m e S=m e S1:=by
 unfold PM;rw[h];rfl
def dJ(h:l e S=.ok false S1):PM l m e S=.ok false S1:=by
 unfold PM;rw[h];rfl
def vG(h:m e S=.ok d S1)(l:GD d S1=some ds):Uz m e S=.ok ds S1:=by
 unfold Uz;rw[h];dsimp only[Res.bind];rw[l]
def nG(h:ml e S=.ok ds S1)(l:f ds S1=.ok d S2):mQ f ml e S=.ok d S2:=by
 unfold mQ;rw[h];dsimp only[Res.bind];rw[l];rfl
def Np(h:S[n]?=some (.lst ds)):QC (.ref n) S=some ds:=by
 unfold QC;dsimp only;rw[h]
def ch:Nat->Nat->Nat
 | _,0=>1
 | 0,_+1=>0
 | n+1,k+1=>ch n k+ch n (k+1)
def SU(n:Nat):ch n 0=1:=by cases n <;> rfl
theorem ax:∀{n k:Nat},n < k->ch n k=0
 | 0,k+1,_=>rfl
 | n+1,k+1,h=>by
  show ch n k+ch n (k+1)=0;rw[ax (by lia),ax (by lia)]
theorem dC:∀n:Nat,ch n n=1
 | 0=>rfl
 | n+1=>by
  show ch n n+ch n (n+1)=1;rw[dC n,ax (by lia)]
theorem XO:∀n k:Nat,((k:Int)+1) * ch n (k+1)=((n:Int) - k) * ch n k
 | 0,0=>by simp[ch]
 | 0,k+1=>by simp[ch]
 | n+1,0=>by
  have:=XO n 0;rw[SU]at this ⊢;show((0:Nat)+1:Int) * ((ch n 0+ch n 1:Nat):Int)=_;rw[SU]
  push_cast
  simp at this ⊢
  lia
 | n+1,k+1=>by
  have l:=XO n k;have m:=XO n (k+1);show(((k+1:Nat):Int)+1) * ((ch n (k+1)+ch n (k+2):Nat):Int)=(((n+1:Nat):Int) - ((k+1:Nat):Int)) * ((ch n k+ch n (k+1):Nat):Int)
  push_cast at l m ⊢
  grind
theorem kh:∀{n k:Nat},k<=n->0 < ch n k
 | n,0,_=>by rw[SU];exact Nat.zero_lt_one
 | n+1,k+1,h=>by
  show 0 < ch n k+ch n (k+1);have:=kh (n:=n) (k:=k) (by lia)
  lia
theorem jp(j:Nat):∀d:Nat,((B1 (d+1)).map λi=>ch (i+j) j).sum=ch (d+j+1) (j+1)
 | 0=>by
  simp[dC]
 | d+1=>by
  rw[HJ,Bv,NS,jp j d];show _=ch (d+1+j) j+ch (d+1+j) (j+1);rw[As,NH,Lm,List.sum_nil,show d+1+j=d+j+1 by lia]
  lia
section
variable{X:Cx}{E:EW}{e:Expr}{p pos:Pos}{m:ME}
def jQ(m:ME):ME:=λe S=>(m e S).bind λd l=>match d with
 | .int i=>.ok (.int i) l
 | .bl k=>.ok (.int (if k then 1 else 0)) l
 | _=>.bad
def ci(J:Gl X "int") (o:X.mg "int" = none) (h:GE X E e m) (A:AY [e] X.env=(false,Cd e X.env) :: AY [] X.env:=by rfl):GE X E (.Call (.Name "int" p) [e] [] pos) (jQ m):=
 (Qt fo J o w9 (Fe h IP A) (by decide) (by decide) A rfl).imp<|by
 rintro P H Q ⟨L,l,S,N,O,o⟩
 refine⟨L,l,S,N,O,o.seq λd R o s B x C G I=>?_⟩
 cases d <;> first | exact o.elim | skip
 ·cases I
  exact .inr ⟨_,rfl,o s B _ C G (.int _)⟩
 ·cases I
  exact .inl ⟨_,rfl,o s B _ C G (.int _)⟩
end
end L2
namespace PySem
open PySem.Sem (wp)
def Nm(l:AT)(items:Array AI)(n:Nat)(o:Option AT)(sl:Array (Option AI)) :
  Meets (Builtin.«enumerate.__new__» ⟨[.type "enumerate",.ref l],[]⟩) (λ_ R s=>s.heap.get? l=some { cls:=.type "tuple",dict:=o,data:=.seq items n,slots:=sl } /\
   R (.ok (.ret (.ref (s.heap.push { cls:=.type "tuple_iterator",data:=.fields #[.ref l,.int 0 0] }).objs.size)))
    { s with heap:=(s.heap.push { cls:=.type "tuple_iterator",data:=.fields #[.ref l,.int 0 0] }).push { cls:=.type "enumerate",data:=.fields #[.none,.bool false,.ref s.heap.objs.size,FO 0,.none,.none] } }):=
 .of_wp λC w A R s h=>by
  obtain⟨E,g,d,tk,os⟩:=s;obtain⟨m,h⟩:=h;have G:=sub_enumerate;have B:DA.IsTuple (AK.heap ⟨E,g,d,tk,os⟩) l items:=⟨_,m,rfl,n,rfl⟩
  wp_walk using Gu m
  refine wpAny_stack_any λst=>AN ?_
  split
  ·rename_i c _ _ _ _ _
   cases(c==Da "enumerate")
   ·wp_walk using Gu m,IH B
    exact⟨_,rfl,h⟩
   ·wp_walk using Gu m,IH B
    exact⟨_,rfl,h⟩
  ·wp_walk using Gu m,IH B
   exact⟨_,rfl,h⟩
section
variable{w:CH}{A:Bs}{E:AI->AK->Prop}{s:AK}
def N6(J:s.heap.IsTuple l m)
  (h:∀h',WF h' (s.heap.objs.size+1) s.heap.objs.size 0 .none->h'.IsTupleIter s.heap.objs.size l 0->h'.objs.size=s.heap.objs.size+2 ->
   (∀b o,s.heap.get? b=some o->h'.get? b=some o)->Q (.ref (s.heap.objs.size+1)) { s with heap:=h' }) :
  Am (Ag prog w) A (call (.type "enumerate") [.ref l]) Q E s:=by
 obtain⟨⟨c,B,L,sl⟩,N,C,n,G⟩:=J
 replace C:c=.type "tuple":=C
 replace G:L=.seq m n:=G
 subst C G
 refine callType_new F.called_enumerate (by decide) (F.typeCall_enumerate_1 _) (F.newCall_enumerate_1 _) (λobj=>F.args_object_init_2 obj _) F.entry_enumerate_new
  (Nm l m n B sl) ⟨N,?_⟩
 have H:(s.heap.push { cls:=.type "tuple_iterator",data:=.fields #[.ref l,.int 0 0] }).objs.size=s.heap.objs.size+1:=E5 ..;show _/\_;rw[H]
 have I:WF ((s.heap.push { cls:=.type "tuple_iterator",data:=.fields #[.ref l,.int 0 0] }).push
   { cls:=.type "enumerate",data:=.fields #[.none,.bool false,.ref s.heap.objs.size,FO 0,.none,.none] }) (s.heap.objs.size+1) s.heap.objs.size 0 .none:=by
  have:=Al (s.heap.push { cls:=.type "tuple_iterator",data:=.fields #[.ref l,.int 0 0] })
   (o:={ cls:=.type "enumerate",data:=.fields #[.none,.bool false,.ref s.heap.objs.size,FO 0,.none,.none] }) rfl
  rw[H]at this;exact this
 refine⟨⟨_,I,rfl⟩,h _ I ⟨_,AR _ (Al _ rfl),rfl,rfl⟩ (by rw[E5,H]) λb o x=>AR _ (AR _ x)⟩
def P8{it t}{i}{l}{x}{Q}(m:s.heap.IsTupleIter it t i)
  (I:s.heap.IsTuple t l) (J:l[i]?=some x)
  (L:∀h',h'.IsTupleIter it t (i+1)->FK it s.heap h'->Q x { s with heap:=h' }) :
  Am (Ag prog w) A (E7 (.ref it)) Q E s:=by
 obtain⟨o,C,N,B⟩:=id m;obtain⟨O,G,_,P,H⟩:=I;unfold E7
 refine AB (FM (name:=NM "__next__") m.typeIs Gx
  (Ec Gx m.typeIs Xc ?_ (WH _)))
 show Am _ _ (field (.ref it) 0 >>= _) _ _ s;refine AB (Fj C B (x:=.ref t) rfl ?_);show Am _ _ (if (BB t==Bn)=true then _ else _) _ _ s;rw[qY (show ¬((BB t==Bn)=true)from AH)];show Am _ _ (field (.ref it) 1 >>= _) _ _ s;refine AB (Fj C B (x:=.int i 0) rfl ?_);show Am _ _ (seqItems? (.ref t) >>= _) _ _ s;refine AB (wpAny_seqItems G H ?_);simp only[Az,J];refine AB (G8 C B (by simp) (AN ⟨x,rfl,AN (L _ ?_ (IK ..))⟩))
 exact⟨_,EV _ C (Fu (Cm B _)),(Lj ..).trans N,by
  rw[Cm B];simp[FO]⟩
def LZ{it t}{i}{l}{Q}(J:A.handled=none)
  (B:s.heap.IsTupleIter it t i) (L:s.heap.IsTuple t l) (N:l[i]?=none)
  (O:∀h' e,bd it s.heap h'->(∃o,h'.get? e=some o/\o.cls=.type "StopIteration")->E (.ref e) { s with heap:=h' }) :
  Am (Ag prog w) A (E7 (.ref it)) Q E s:=by
 obtain⟨o,C,P,G⟩:=id B;obtain⟨R,H,_,S,I⟩:=L;unfold E7
 refine AB (FM (name:=NM "__next__") B.typeIs Gx
  (Ec Gx B.typeIs Xc ?_ (WH _)))
 show Am _ _ (field (.ref it) 0 >>= _) _ _ s;refine AB (Fj C G (x:=.ref t) rfl ?_);show Am _ _ (if (BB t==Bn)=true then _ else _) _ _ s;rw[qY (show ¬((BB t==Bn)=true)from AH)];show Am _ _ (field (.ref it) 1 >>= _) _ _ s;refine AB (Fj C G (x:=.int i 0) rfl ?_);show Am _ _ (seqItems? (.ref t) >>= _) _ _ s;refine AB (wpAny_seqItems H I ?_);simp only[Az,N];refine AB (ZT (AB (G8 C G (by simp) ?_)));show Am _ _ (newExc (.type "StopIteration") [] >>= _) _ _ _;refine AB ?_;simp only[newExc,newTuple];refine AB (E3 ?_ (by size_fits));refine AB (m:=QW _ _) (lM (a:=Bn) (by first | rfl | (simp only[QW];rfl)) ?_);refine E3 ?_ (by size_fits);simp only[raiseNew];refine AB (wpAny_handled ?_)
 first | rw[show A.in1.handled=none from J] | rw[J]
 refine AB (AN (wpAny_throw ?_));exact O _ _ (((IK ..).extBut.push _).push _) ⟨_,Al _ rfl,rfl⟩
def ZD(I:A.handled=none)(it l:AT)(J:l≠it)(m:Array AI) :
  Draws prog w A it [it,l] m.size (λi v=>m[i]?=some v) (λi h=>h.IsTupleIter it l i/\h.IsTuple l m) where
 live:=λ_ _ st=>let ⟨o,C,_⟩:=st.1;⟨o,C⟩
 frame:=λ_ _ _ st G=>⟨st.1.at λo e=>G it (by simp) o e,let ⟨o,C,r⟩:=st.2;⟨o,G l (by simp) o C,r⟩⟩
 item:=λi s Q E H st L=>by
  refine P8 st.1 st.2 (x:=m[i]) (by simp[H]) λN O B=>?_
  exact L _ N s.toks (by simp[H]) ⟨O,st.2.extBut B.extBut J⟩ B
 done:=λs Q E st P=>LZ I st.1 st.2 (by simp) P
def Oa{e it l:AT}{i:Nat}{m:Array AI}{old:AI}{Q:Option AI->AK->Prop}(I:A.handled=none)
  (G:WF s.heap e it i old) (B:s.heap.IsTupleIter it l i) (J:s.heap.IsTuple l m) (L:m[i]?=none)
  (N:∀h',bd it s.heap h'->Q none { s with heap:=h' }):Am (Ag prog w) A (V5 (.ref e)) Q E s:=by
 have H:s.TypeIs (.ref e) "enumerate":=⟨_,G,rfl⟩;unfold V5
 refine AB (KI (FM (name:=NM "__next__") H gO
  (Ec gO H F.entry_enumerate_next ?_ (F.args_enumerate_next_1 _))))
 show Am _ _ (field (.ref e) 2 >>= _) _ _ _;refine AB (Fj G rfl (x:=.ref it) rfl ?_);refine AB (LZ I B J L λh' x C O=>?_);obtain⟨o,P,R⟩:=O;refine AB (uW (T:="StopIteration") (b:=true) ⟨o,P,R⟩ isSubtype_stop ?_);exact AN (N _ C)
end
end PySem
namespace L2
def Inv.turned2(I:Inv X G σ H s)(k:∀b u,b≠e->b≠it->s.heap.get? b=some u->h'.get? b=some u)
  (A:Pa X G H e) (B:Pa X G H it) (J:s.heap.objs.size<=a) (new:Ck X.prog X.w (upd H a o) h' a o):Inv X G σ (upd H a o) { s with heap:=h',toks:=t' }:=by
 have C:=I.hok.fresh J
 have E:∀b u,H b=some u->b≠e/\b≠it:=λb u q=>⟨λz=>(by rw[z,A.1]at q;cases q),λz=>(by rw[z,B.1]at q;cases q)⟩
 have out:∀b:AT,b∉[e,it]->b≠e/\b≠it:=λb hb=>⟨λz=>hb (by simp[z]),λz=>hb (by simp[z])⟩
 refine I.step (g':=s.gens) (d':=s.drawn) (ch:=[e,it]) (λb hb=>?_) (λb o _ _ l q _=>k b o (out b l).1 (out b l).2 q) (λb o _ _ l q _=>⟨o.slots,k b o (out b l).1 (out b l).2 q⟩) (λb o _ q n=>?_)
  (λb o l q=>⟨o,k b o (out b l).1 (out b l).2 q⟩) (λb L q=>by rw[Bb (CD q C)];exact q) (λb o u q=>by rw[Bb (CD q C)];exact q) (λb S q=>⟨#[],by rw[Bb (CD q C),q];simp⟩) (λm N=>?_) (λb u q=>?_) I.bare
 ·have O:b=e∨b=it:=by simpa using hb
  rcases O with z | z
  ·subst z;exact⟨A.2.2.2.1,A.2.1,A.2.2.2.2.1,A.2.2.2.2.2⟩
  ·subst z;exact⟨B.2.2.2.1,B.2.1,B.2.2.2.2.1,B.2.2.2.2.2⟩
 ·rw[Bb (A0 (AV (Ad q) J))];exact n
 ·obtain⟨o,P,Q,R,r⟩:=N
  exact⟨o,P,Q,k _ o (CF A.2.1) (CF B.2.1) R,r⟩
 ·by_cases hb:b=a
  ·subst hb;rw[CG]at q;cases q;exact new
  ·rw[Bb hb]at q
   refine(I.hok b u q).stay (λc v l r=>?_) (λc r=>by rw[Bb (CD r C)];exact r) λc L r=>by rw[Bb (CD r C)];exact r
   have:c≠e/\c≠it:=by
    rcases l with z | z
    ·rw[z];exact E b u q
    ·exact E c _ z
   exact k c v this.1 this.2 r
def Ite(sq:Hp->List V->Prop):It:=
 ⟨λi H=>∃l x,sq H l/\l[i]?=some x,λi H y m=>∃p x,H p=none/\y=.ref p/\m=upd H p (.tup [.int i,x])/\∀l,sq H l->l[i]?=some x,λi H=>∃l,sq H l/\l.length<=i⟩
section
variable{P:Bf}{w:CH}{K:AE}{elts:List Expr}{x1:Nat}{pos:Pos}
def Vw{X:Cx}{B:List (AT×Obj)}{σ:St}{H:Hp}{s:AK}{E:AI->AK->Prop}{sq:Hp->List V->Prop}{e it:AT}{i:Nat}{x:V}{u:AI}{tk:Nat}{h':DA}{tn:Nat->DA->Prop}
  (I:Inv X B σ H s) (xI:e≠it) (G:∀b∈[e,it],Pa X B H b) (le:e < s.heap.objs.size) (Q:it < s.heap.objs.size) (R:RelV x u) (S:∀xs,sq H xs->xs[i]?=some x)
  (ho:IsEnumOut h' e it ((i:Int)+1) u s.heap.objs.size) (J:h'.get? s.heap.objs.size=some { cls:=.type "tuple",data:=.seq #[.int i tk,u] }) (T:∀b o,b≠e->b≠it->s.heap.get? b=some o->h'.get? b=some o)
  (U:∀h2,FK e h' h2->(∃old,WF h2 e it ((i+1:Nat):Int) old)->tn (i+1) h2) :
  Am (Ag X.prog X.w) X.A (Pc (.Tuple elts x1 pos) (.ref e) (.ref s.heap.objs.size)) (λ_ L=>∃y C,Inv X B σ C L/\RelV y (.ref s.heap.objs.size)/\(Ite sq).yld i H y C/\tn (i+1) L.heap/\∀b∈[e,it],C b=none) E { s with heap:=h',toks:=tk+1 }:=by
 have m:=G e (by simp);have N:=G it (by simp);have O:e≠s.heap.objs.size:=A0 le;have Y:it≠s.heap.objs.size:=A0 Q
 have new:Ck X.prog X.w (upd H s.heap.objs.size (.tup [.int i,x])) h' s.heap.objs.size (.tup [.int i,x]):=
  ⟨⟨Aw (show 2<=1000 by decide) (by decide),_,J,rfl⟩,[.int i tk,u],.cons ⟨tk,rfl⟩ (.cons R .nil),_,J,rfl,_,rfl⟩
 have Z:=I.turned2 (t':=tk+1) T m N (AO _) new
 refine wpAny_letOwnedTupleGo_enum (s:={ s with heap:=h',toks:=tk+1 }) ho λh2 ς yj=>?_
 have l:FK e h' h2:=yj;have I2:=Z.turned (t':=tk+1) (h':=h2) (it:=e) (λb o hb q=>(l.2 b hb).trans q) (by rw[Bb O];exact m.1) m.2.1 m.2.2.2.1 m.2.2.2.2.1 m.2.2.2.2.2;refine⟨.ref s.heap.objs.size,_,I2,rfl,⟨s.heap.objs.size,x,I.hok.fresh (AO _),rfl,rfl,S⟩,U h2 l ⟨u,by rw[Int.natCast_add,Int.natCast_one];exact ς⟩,λb hb=>?_⟩
 have xn:b=e∨b=it:=by simpa using hb
 rcases xn with z | z
 ·rw[z,Bb O];exact m.1
 ·rw[z,Bb Y];exact N.1
def Z5(a e it:AT)(B:e≠it):VC P w K (.Tuple elts x1 pos) (Ite λH xs=>SqL K H a xs) [e,it] e (λi h=>(∃old,WF h e it i old)/\h.IsListIter it a i) where
 mem:=by simp
 obj:=λi h st b hb=>by
  have S:b=e∨b=it:=by simpa using hb
  rcases S with z | z
  ·subst z
   obtain⟨⟨old,l⟩,_⟩:=st
   exact⟨_,l,λv z=>by
    have T:bf _=lH v:=z
    cases T⟩
  ·subst z
   obtain⟨_,o,e,c,d⟩:=st;exact⟨o,e,λv z=>by rw[d]at z;cases z⟩
 keep:=λi h Q st k=>⟨st.1.imp λold l=>k e (by simp) _ l,st.2.at λo q=>k it (by simp) o q⟩
 item:=by
  intro X C hw G R i U s Y H E I J st L;subst C hw G;obtain⟨xs,x,A,N⟩:=L;obtain⟨Z,O,p,hz⟩:=I.list A;obtain⟨u,hu,ru⟩:=O.get N;obtain⟨⟨old,l⟩,m⟩:=st
  have li:it < s.heap.objs.size:=by obtain⟨o,q,_⟩:=m;exact Ad q
  refine wpAny_pyNext_enum_item l m p.isList (x:=u) (by simpa using hu) B λQ ho ϔ hT hsz hk=>?_
  exact⟨_,rfl,Vw (sq:=λH xs=>SqL X.K H a xs) (tn:=λi h=>(∃old,WF h e it i old)/\h.IsListIter it a i) I B J (Ad l) li ru (λys hy=>by rw[I.list_inj hy A];exact N) ho hT hk λh2 yj ς=>⟨ς,ϔ.at λo q=>(yj.2 it (CF B)).trans q⟩⟩
 done:=by
  intro X C hw G R i U s Y H E I J st L;subst C hw G;obtain⟨xs,A,N⟩:=L;obtain⟨Z,O,p,hz⟩:=I.list A;obtain⟨⟨old,l⟩,m⟩:=st;obtain⟨f0,f1,f2,f3,f4,f5⟩:=J it (by simp);have hl:=O.length
  exact wpAny_pyNext_enum_end (I.ok.hd R) l m p.isList (by simp;lia) λQ eb=>⟨rfl,I.turned (t':=s.toks) (λb o hb e=>eb b o hb e) f0 f1 f3 f4 f5⟩
 self:=λ_ _ _ _ _ st h=>by
  obtain⟨⟨old,l⟩,_⟩:=st;exact NE l h
def Z4(a e it:AT)(J:e≠it)(N:a≠it)(O:e≠a):VC P w K (.Tuple elts x1 pos) (Ite λH xs=>SqT K H a xs) [e,it] e (λi h=>(∃old,WF h e it i old)/\h.IsTupleIter it a i) where
 mem:=by simp
 obj:=λi h st b hb=>by
  have xn:b=e∨b=it:=by simpa using hb
  rcases xn with z | z
  ·subst z
   obtain⟨⟨old,l⟩,_⟩:=st
   exact⟨_,l,λv z=>by
    have z':bf _=lH v:=z
    cases z'⟩
  ·subst z
   obtain⟨_,o,e,c,d⟩:=st;exact⟨o,e,λv z=>by rw[d]at z;cases z⟩
 keep:=λi h h' st k=>⟨st.1.imp λold l=>k e (by simp) _ l,st.2.at λo q=>k it (by simp) o q⟩
 item:=by
  intro X Q hw R S i ζ s σ H E I T st U;subst Q hw R;obtain⟨xs,x,L,Y⟩:=U;obtain⟨B,Z,p,hz⟩:=I.tuple L;have p':s.heap.IsTuple a B.toArray:=p;obtain⟨u,hu,ru⟩:=Z.get Y
  have xH:i < B.toArray.size:=by
   have:=(AG.mp hu).1;simpa using this
  obtain⟨⟨old,l⟩,m⟩:=st
  have li:it < s.heap.objs.size:=by obtain⟨o,q,_⟩:=m;exact Ad q
  refine wpAny_pyNext_enum_itemD (ZD (A:=X.A.in1) (I.ok.hd S) it a N B.toArray) l ⟨m,p'⟩ xH J (by simp[J,O]) λu' h' tk hu' ho C hT hsz hk=>?_
  have:u'=u:=by
   have G:B[i]?=some u':=by simpa using hu'
   rw[hu]at G;cases G;rfl
  subst this;exact⟨_,rfl,Vw (sq:=λH xs=>SqT X.K H a xs) (tn:=λi h=>(∃old,WF h e it i old)/\h.IsTupleIter it a i) I J T (Ad l) li ru (λys hy=>by rw[I.tuple_inj hy L];exact Y) ho hT hk λh2 yj ς=>⟨ς,C.1.at λo q=>(yj.2 it (CF J)).trans q⟩⟩
 done:=by
  intro X Q hw R S i ζ s σ H E I T st U;subst Q hw R;obtain⟨xs,L,Y⟩:=U;obtain⟨B,Z,p,hz⟩:=I.tuple L;obtain⟨⟨old,l⟩,m⟩:=st;obtain⟨f0,f1,f2,f3,f4,f5⟩:=T it (by simp);have hl:=Z.length
  exact Oa (I.ok.hd S) l m (show s.heap.IsTuple a B.toArray from p) (by simp;lia) λh' eb=>⟨rfl,I.turned (t':=s.toks) (λb o hb e=>eb b o hb e) f0 f1 f3 f4 f5⟩
 self:=λ_ _ _ _ _ st h=>by
  obtain⟨⟨old,l⟩,_⟩:=st;exact NE l h
end
section
variable{X:Cx}{E:EW}{e:Expr}{elts:List Expr}{x1:Nat}{p pos ptg:Pos}{ta:TA}
def wH(K:AE)(ta:TA):TI:=λo H R=>ta o H λs m=>∃a,s=[.ref a]/\(((∃l,SqL K m a l)/\R (Ite λH l=>SqL K H a l) m)∨((∃l,SqT K m a l)/\R (Ite λH l=>SqT K H a l) m))
def nQ(U:Gl X "enumerate") (Y:X.mg "enumerate" = none) (Z:PA X [e] ta) (hs:AY [e] X.env=[(false,Cd e X.env)]:=by rfl):PI X (.Tuple elts x1 ptg) (.Call (.Name "enumerate" p) [e] [] pos) (wH X.K ta):=by
 intro P s σ H R I h;refine Call_ (PN I U Y boot_enumerate (Dj (thn (Z pos P s σ H _ I h) λus l ⟨vs,G,m,r1,J⟩=>?_) hs rfl));obtain⟨a,rfl,J⟩:=J;obtain⟨u,rfl,ru⟩:=vals1 r1;cases ru
 have Q:∀{h':DA} (b:AT),b∈[l.heap.objs.size+1,l.heap.objs.size]->Pa X P G b:=λb hb=>by
  have xn:b=l.heap.objs.size+1∨b=l.heap.objs.size:=by simpa using hb
  rcases xn with z | z
  ·rw[z];exact m.fpOk (O0 _) (m.hok.fresh (O0 _))
  ·rw[z];exact m.fpOk (AO _) (m.hok.fresh (AO _))
 rcases J with⟨⟨xs,sq⟩,q⟩ | ⟨⟨xs,sq⟩,q⟩
 ·obtain⟨S,rv,L,hz⟩:=m.list sq
  refine call_enumerate_list L.isList λh' B A N O=>NE B ?_
  exact⟨_,[l.heap.objs.size+1,l.heap.objs.size],_,_,G,rfl,m.kept (t':=l.toks) O,Z5 a _ _ (lV _),⟨⟨_,B⟩,A⟩,Q (h':=h'),q⟩
 ·obtain⟨S,rv,L,hz⟩:=m.tuple sq
  have C:l.heap.IsTuple a S.toArray:=L
  have T:a < l.heap.objs.size:=by obtain⟨o,q,_⟩:=C;exact Ad q
  refine N6 C λh' B A N O=>NE B ?_
  exact⟨_,[l.heap.objs.size+1,l.heap.objs.size],_,_,G,rfl,m.kept (t':=l.toks) O,Z4 a _ _ (lV _) (A0 T) (Eo (Ll T)),⟨⟨_,B⟩,A⟩,Q (h':=h'),q⟩
noncomputable def UN(ds:List D):List D:=ds.zipIdx.map λx=>.tup [.int x.2,x.1]
def RT(v:RF):RF:=λS=>(v S).map UN
def Nv(m:ME):MI:=λe S=>(m e S).bind λd l=>match GB d l with
 | some _=>.ok (RT (GB d)) l
 | none=>.bad
def UM(ds:List D)(i:Nat):(UN ds)[i]?=(ds[i]?).map λd=>.tup [.int i,d]:=by
 unfold UN;rw[Ac,JP]
 cases ds[i]? <;> simp
def RQ{K}{ρ}{H}{J}{v}{sq}(P:OE K ρ H J v)(Q:∀i H,J.go i H->∃xs x,sq H xs/\xs[i]?=some x)(R:∀i H,J.stop i H->∃xs,sq H xs/\xs.length<=i)
  (T:∀i H x,(∀xs,sq H xs->xs[i]?=some x)->J.yld i H x H):OE K ρ H (Ite sq) (RT v):=by
 intro G o S ds i l s A;unfold RT at A
 cases I:v S with
 | none=>rw[I]at A;cases A
 | some m=>
  rw[I]at A;cases A;obtain⟨U,Y⟩:=P G o S m i l s I;refine⟨λL=>?_,λd B=>?_⟩
  ·rw[UM]at L
   refine R i o (U ?_)
   cases C:m[i]? with
   | none=>rfl
   | some d=>rw[C]at L;cases L
  ·rw[UM]at B
   cases C:m[i]? with
   | none=>rw[C]at B;cases B
   | some Z=>
    rw[C]at B;cases B;obtain⟨b1,b2⟩:=Y Z C;refine⟨Q i o b1,λy H' hy=>?_⟩;obtain⟨p,x,hp,rfl,rfl,hx⟩:=hy;obtain⟨N,l3,s3,r3⟩:=b2 x o (T i o x hx);obtain⟨s4,O⟩:=JX (ho:=.tup [.int i,x]) s3 hp;exact⟨N,l3.trans O,s4,.tup CG (.cons (.int _) (.cons (r3.mono O) .nil))⟩
def cf(N:Gl X "enumerate") (o:X.mg "enumerate" = none) (h:GE X E e m) (G:AY [e] X.env=[(false,Cd e X.env)]:=by rfl):GI X E (.Tuple elts x1 ptg) (.Call (.Name "enumerate" p) [e] [] pos) (Nv m):=
 (nQ N o (Fe h IP G) G).imp<|by
 rintro σ H R ⟨O,l,S,P,Q,o⟩
 refine⟨O,l,S,P,Q,o.seq λd T o s I x J C A=>?_⟩
 cases d with
 | tup U=>
  have Y:=o
  cases A with
  | @tup _ a Z L q2=>
   exact⟨a,rfl,.inr ⟨⟨Z,.inl (.inl L)⟩,Y s I _ J C (RQ (Si L q2) (λi H z=>z) (λi H z=>z) λi H x z=>⟨rfl,z⟩)⟩⟩
 | _=>
  cases B:GB _ T with
  | none=>rw[B]at o;exact o.elim
  | some U=>
   rw[B]at o
   have:∃a,x=.ref a:=by
    cases A <;> first | exact⟨_,rfl⟩ | (cases B;done)
   obtain⟨a,rfl⟩:=this;obtain⟨xs,sq,_⟩:=Sn C A B;exact⟨a,rfl,.inl ⟨⟨xs,sq⟩,o s I _ J C (RQ (Sk A) (λi H z=>z) (λi H z=>z) λi H x z=>⟨rfl,z⟩)⟩⟩
end
def Ms{l:Type}{xs:List l}{j:Int}{x:l}(m:0<=j)(h:xs[j.toNat]?=some x):atI xs j=some x:=by
 have o:=(AG.mp h).1;unfold atI ixN;rw[qX (by omega),qX (by lia)];simpa using h
def cX(l:GD d S=some ds)(m:0<=j)(h:ds[j.toNat]?=some z):ixA d (.int j) S=.ok z S:=by
 show Jw (ixD d (.int j) S) _=_
 have:ixD d (.int j) S=.ok z S:=by
  unfold ixD;rw[l];dsimp only;rw[Ms m h]
 rw[this];rfl
def Yj(h:ml e S=.ok ds S1)(l:ds.length+1=n)(m:f (.ref S1.length :: ds) (S1++[.ins C []])=.err c S2):No C n f ml e S=.err c S2:=by
 unfold No;rw[h];dsimp only[Res.bind];rw[qX l,m]
def Mt{P:AT->Prop}:∀C∈([]:List AT),P C:=λ_ h=>zX h JE
def all_cons{P:AT->Prop}{a:AT}{l:List AT}(h:P a)(t:∀C∈l,P C):∀C∈a :: l,P C:=λC m=>by
 rcases Ai.mp m with e | m
 ·rw[e];exact h
 ·exact t C m
def Z7{P:AT->Bool->Prop}{al ex:List AT}(l:∀C∈al,P C true)(m:∀C∈ex,C∉al->P C false)(C:AT)(b:Bool)(e:(if C∈al then some true else if C∈ex then some false else none)=some b):P C b:=by
 split at e
 ·cases e;exact l C ‹_›
 ·split at e
  ·cases e;exact m C ‹_› ‹_›
  ·cases e
def sj{m:Type}:∀{l:List m},l.length=1->∃o,l=[o]
 | [a],_=>⟨a,rfl⟩
def v0{o:Type}:∀{l:List o},l.length=2->∃s m,l=[s,m]
 | y :: _,q=>by
  obtain⟨m,rfl⟩:=sj (Lk q);exact⟨y,m,rfl⟩
def vz{s:Type}:∀{l:List s},l.length=3->∃A m o,l=[A,m,o]
 | y :: _,q=>by
  obtain⟨m,o,rfl⟩:=v0 (Lk q);exact⟨y,m,o,rfl⟩
def vy{A:Type}:∀{l:List A},l.length=4->∃B m o s,l=[B,m,o,s]
 | y :: _,q=>by
  obtain⟨m,o,s,rfl⟩:=vz (Lk q);exact⟨y,m,o,s,rfl⟩
def len5{B:Type}:∀{l:List B},l.length=5->∃C m o s A,l=[C,m,o,s,A]
 | y :: _,q=>by
  obtain⟨m,o,s,A,rfl⟩:=vy (Lk q);exact⟨y,m,o,s,A,rfl⟩
section
def TW(i:Nat)(g:Int->Int->Int)(m:ME):MS:=λe S=>match e[i]? with
 | some (some (.int x))=>(m e S).lift e λd l=>match d with
  | .int y=>.ok (.nx (e.set i (some (.int (g x y))))) l
  | _=>.bad
 | _=>.bad
def tM(hN:X.N.Nodup)(hi:X.N[i]?=some x)(G:Loc X.env.scope x)(I:PIp X op (ipI g))(J:GE X E e m)
  (L:X.fn x=true∨X.env.scope.names.lookup x=some .local:=by first | exact .inl rfl | exact .inr rfl | assumption):GS X E (.AugAssign (.Name x B) op e pos) (TW i g m):=(rc hN hi G J I L).imp<|by
 rintro D σ H ⟨O,l,S,s,P,o⟩
 unfold TW at o;split at o
 ·rename_i n Q
  obtain⟨v,R,T⟩:=s.at' i _ Q;cases T;refine⟨_,R,O,l,S,s,P,o.lift s .refl λd S1 o A U y C Y Z=>?_⟩
  cases d with
  | int y=>cases Z;exact⟨n,y,rfl,rfl,o A U _ C Y ((s.mono C).set (.int _) i)⟩
  | _=>exact o.elim
 ·exact o.elim
end
def Itv(K:AE)(a:AT)(n:Nat):It:=
 ⟨λi H=>∃l x,SqL K H a l/\l.length=n/\l.reverse[i]?=some x,λi H x m=>m=H/\∀l,SqL K H a l->l.reverse[i]?=some x,λi H=>∃l,SqL K H a l/\l.length=n/\n<=i⟩
def iE{P}{w}{K}{tg}(a it:AT)(n:Nat):VC P w K tg (Itv K a n) [it] it (λi h=>i<=n/\h.IsRevIter it a ((n:Int) - 1 - i)) where
 mem:=by simp
 obj:=λi h st b hb=>by
  have e:b=it:=by simpa using hb
  subst e;obtain⟨_,o,e,c,d⟩:=st;exact⟨o,e,λv z=>by rw[d]at z;cases z⟩
 keep:=λi h m st k=>⟨st.1,st.2.at λo e=>k it (by simp) o e⟩
 item:=by
  intro X C hw G Z i ζ s σ H E I A st J;subst C hw G;obtain⟨L,st⟩:=st;obtain⟨N,x,O,hn,B⟩:=J
  have hi:i < n:=by have:=(AG.mp B).1;simpa[hn]using this
  have zU:=B;rw[List.getElem?_reverse (by lia)]at zU;obtain⟨j',rv,p,hz⟩:=I.list O;obtain⟨u,hu,ru⟩:=rv.get zU;obtain⟨Q,R,f2,S,T,U⟩:=A it (by simp)
  have Y:(n:Int) - 1 - (i:Int)=((N.length - 1 - i:Nat):Int):=by lia
  rw[Y]at st
  refine wpAny_pyNext_rev_item st p.isList (x:=u) (by simpa using hu) λm l sb=>?_
  have I1:Inv X ζ σ H { s with heap:=m }:=I.turned (t':=s.toks) (λb o hb e=>(sb.2 b hb).trans e) Q R S T U;obtain⟨o,e,c,d⟩:=id l;refine⟨u,rfl,Yu (s:={ s with heap:=m }) e c d (by decide) ⟨x,H,I1,ru,⟨rfl,λys hy=>by rw[I.list_inj hy O];exact B⟩,⟨hi,?_⟩,λb hb=>(A b hb).1⟩⟩
  have e1:(n:Int) - 1 - ((i+1:Nat):Int)=((N.length - 1 - i:Nat):Int) - 1:=by lia
  rw[e1];exact l
 done:=by
  intro X C hw G Z i ζ s σ H E I A st J;subst C hw G;obtain⟨L,st⟩:=st;obtain⟨N,O,hn,B⟩:=J;obtain⟨Q,R,f2,S,T,U⟩:=A it (by simp)
  have Y:(n:Int) - 1 - (i:Int) = -1:=by lia
  rw[Y]at st
  exact wpAny_pyNext_rev_end (I.ok.hd Z) st λm eb=>⟨rfl,I.turned (t':=s.toks) (λb o hb e=>eb b o hb e) Q R S T U⟩
 self:=λ_ _ _ _ _ st h=>lK st.2 h
section
def wE(K:AE)(o:TA):TI:=λs H R=>o s H λA l=>∃a m,A=[.ref a]/\SqL K l a m/\R (Itv K a m.length) l
def rf(C:Gl X "reversed") (E:X.mg "reversed" = none) (G:PA X [e] J) (L:AY [e] X.env=[(false,Cd e X.env)]:=by rfl):PI X tg (.Call (.Name "reversed" p) [e] [] pos) (wE X.K J):=by
 intro N s O H R I h;refine Call_ (PN I C E boot_reversed (Dj (thn (G pos N s O H _ I h) λus l ⟨vs,P,A,Q,S⟩=>?_) L rfl));obtain⟨a,B,rfl,sq,q⟩:=S;obtain⟨u,rfl,T⟩:=vals1 Q;cases T;obtain⟨U,Y,Z,hz⟩:=A.list sq;have hl:=Y.length;refine call_reversed_list Z.isList ?_;have m:(l.heap.push (revObj a ((U.toArray.size:Int) - 1))).IsRevIter l.heap.objs.size a ((B.length:Int) - 1 - ((0:Nat):Int)):=⟨_,Al _ rfl,rfl,by simp[revObj,hl]⟩;refine lK m ⟨l.heap.objs.size,[l.heap.objs.size],_,_,P,rfl,A.kept (t':=l.toks) λb o e=>AR _ e,iE a _ B.length,⟨Dp _,m⟩,λb hb=>?_,q⟩
 have e:b=l.heap.objs.size:=by simpa using hb
 subst e;exact A.fpOk (AO _) (A.hok.fresh (AO _))
def Xs(d:D)(n:Nat):RF:=λS=>match QC d S with
 | some l=>if l.length=n then some l.reverse else none
 | none=>none
def cb(m:ME):MI:=λe S=>(m e S).bind λd l=>match QC d l with
 | some o=>.ok (Xs d o.length) l
 | none=>.bad
def Zs{K}{ρ}{H}{a}{d}{n}(r:CB K ρ H d (.ref a)):OE K ρ H (Itv K a n) (Xs d n):=by
 intro o O S P i l s m;unfold Xs at m;split at m
 ·rename_i Q A
  split at m
  ·rename_i C
   cases m;obtain⟨R,B,e,E,sq⟩:=Mb s (r.mono l) A;cases e;have T:=E.length;refine⟨λI=>⟨B,sq,by lia,?_⟩,λd J=>?_⟩
   ·have:=Cr.mp I
    rw[dS]at this
    lia
   ·obtain⟨x,G,L⟩:=E.reverse.get J
    refine⟨⟨B,x,sq,by lia,G⟩,λy U ⟨e,N⟩=>?_⟩;subst e;have:=N B sq;rw[G]at this;cases this;exact⟨o,.refl,s,L⟩
  ·cases m
 ·cases m
def tQ(I:Gl X "reversed") (o:X.mg "reversed" = none) (h:GE X E e m) (B:AY [e] X.env=[(false,Cd e X.env)]:=by rfl):GI X E tg (.Call (.Name "reversed" p) [e] [] pos) (cb m):=
 (rf I o (Fe h IP B) B).imp<|by
 rintro Y H R ⟨J,l,S,L,N,o⟩
 refine⟨J,l,S,L,N,o.seq λd O o s P x Q C G=>?_⟩
 cases A:QC d O with
 | none=>rw[A]at o;exact o.elim
 | some Z=>
  rw[A]at o;obtain⟨a,T,rfl,U,sq⟩:=Mb C G A;refine⟨a,T,rfl,sq,o s P _ Q C ?_⟩;rw[<-U.length];exact Zs G
end
def tj{P}{w}{K}{l}{base}{CX}{k n}{f}{fd}{ps}:DF P w K l base CX k f fd ps (spM K n λ_ _=>.bad):=
 ⟨λ_ _ _ _ ⟨_,_,_,_,_,_,h⟩=>h.elim,λ_ _ _ _ _ _ _ _ _ _ _ _ _ ⟨_,_,_,_,_,_,h⟩=>h.elim⟩
section
def ut(xs l:List D):List D:=(xs.zip l).map λx=>.tup [x.1,x.2]
end
section
instance(i j:Int):Decidable ((λ_ j:Int=>0<=j) i j):=inferInstanceAs (Decidable (0<=j))
abbrev Rp:=intOp kz λi j=>.int (i * 2 ^ j.toNat)
abbrev YE:=intOp (λ_ j=>0<=j) λi j=>.int (i / 2 ^ j.toNat)
abbrev UZ:=intOp (λ_ _=>True) λi j=>.int (Bi i j)
def PK:OpR X (DM .LShift) (rD X.K Rp):=Qv (λ_ _ _ _=>.int _) sO
def aO:OpR X (DM .RShift) (rD X.K YE):=Qv (λ_ _ _ _=>.int _) sM
def Qw:OpR X (DM .BitAnd) (rD X.K UZ):=OQ (λ_ _ _ _=>.int _) sT
def cZ:PIp X .BitOr (ipI λi j=>Cw i j):=by
 intro B s C H x y v u Q I l m h;obtain⟨i,j,o,A,q⟩:=h;subst o;subst A;obtain⟨a,rfl⟩:=l;obtain⟨b,rfl⟩:=m;exact ior_int ⟨.int _,H,I.tok _,⟨_,rfl⟩,q⟩
def tD:PIp X .BitAnd (ipI λi j=>Bi i j):=by
 intro B s C H x y v u Q I l m h;obtain⟨i,j,o,A,q⟩:=h;subst o;subst A;obtain⟨a,rfl⟩:=l;obtain⟨b,rfl⟩:=m;exact iand_int ⟨.int _,H,I.tok _,⟨_,rfl⟩,q⟩
def sy:PIp X .BitXor (ipI λi j=>Et i j):=by
 intro B s C H x y v u Q I l m h;obtain⟨i,j,o,A,q⟩:=h;subst o;subst A;obtain⟨a,rfl⟩:=l;obtain⟨b,rfl⟩:=m;exact ixor_int ⟨.int _,H,I.tok _,⟨_,rfl⟩,q⟩
end
def Nn(C:AT)(m:Str)(n:Nat)(f:List D->Sto->Res D)(mo:ME)(ml:ML):ME:=λe S=>(mo e S).bind λd l=>match d with
 | .ref k=>match l[k]? with
  | some (.ins s fs)=>if s=C/\fs.lookup m=none then(ml e l).bind λo A=>if o.length+1=n then f (.ref k :: o) A else .bad else .bad
  | _=>.bad
 | _=>.bad
theorem KVR.none{K}{ρ}{H}(f:Str):∀{x:List (Str×D)} {y:List (Str×V)},KVR K ρ H x y->x.lookup f=none->y.lookup f=none
 | _,_,.nil,_=>rfl
 | (g,a) :: x,(s,b) :: y,.cons r t,h=>by
  obtain⟨l,o⟩:=r;dsimp only at l o;subst l;rw[BX]at h ⊢
  cases m:(f==g)with
  | true=>rw[m]at h;cases h
  | false=>rw[m]at h;exact KVR.none f t h
section
variable{X:Cx}{E:EW}{k n:Nat}{f C:AT}{m:Str}{mo:ME}{ml:ML}{g:List D->Sto->Res D}
def iI{t:TA}{σ:St}{H:Hp}{Q:VK}(h:gE X.K E (Nn C m n g mo ml) σ H Q):p0 C m (spM X.K n g) [] (WJ E) (gE X.K E mo) (gA X.K E ml) σ H Q:=by
 obtain⟨Y,l,S,P,Z,o⟩:=h;refine⟨Y,l,S,P,Z,o.seq λd R o B H1 x G T r1=>?_⟩
 cases d <;> first | exact o.elim | skip
 rename_i q;dsimp only at o
 cases A:R[q]? with
 | none=>rw[A]at o;exact o.elim
 | some ob=>
  rw[A]at o
  cases ob <;> first | exact o.elim | skip
  rename_i C' fs;dsimp only at o;split at o
  ·rename_i I
   obtain⟨I,J⟩:=I;rw[I]at A
   cases r1 with
   | ref U=>
    obtain⟨dx,zD,e1,e2⟩:=T.ob q _ _ A U;refine⟨_,dx,zD,rfl,e1,KVR.none m e2 J,B,l,R,P.mono G,T,(o.later G).seq λds S2 o L H2 xs N s2 r2=>?_⟩;split at o
    ·rename_i s
     rw[Bh];exact⟨L,.ref q :: ds,S2,by simpa using s,.cons (.ref (N.pre _ _ U)) r2,s2,o.xk N λ_ _ k O H' z l' s' r'=>k O H' z (G.trans (N.trans l')) s' r'⟩
    ·exact o.elim
  ·exact o.elim
def QJ{pl:Sem Bool}(ho:GE X E o mo)(c:Cls X.K C)(B:XV X.K C m f)(F:DF X.prog X.w X.K X.mg X.base CX k f fd ps (spM X.K n g))(G:Mw CX X (WJ E))(I:IB k X.A)(hb:Binds X.K fd ps [])(J:GA X E (e :: es) ml)
  (L:AY (e :: es) X.env=(false,Cd e X.env) :: AY es X.env:=by rfl) (N:(ER pos (AY es X.env)).any (·.1)=false:=by rfl)
  (O:Cd (.Call (.Attribute o m l) (e :: es) [] pos) X.env=(do
   let s <-Cd o X.env
   uN l.atName
   let (f,fts) <-ZG [s] (fy s m pl)
   callWith pos f fts (ER pos (AY (e :: es) X.env)) (Zb pos (QV [] X.env))):=by rfl) :
  GE X E (.Call (.Attribute o m l) (e :: es) [] pos) (Nn C m n g mo ml):=
 (nW (E:=WJ E) ho c B F I hb .nil G J L N O).imp λP H Q h=>iI (t:=gA X.K E ml) h
end
section
def vP:V->List V->Hp->VK->Prop:=λx l H Q=>∃i,x=.int i/\l=[]/\Q (.int (Di i)) H
def oK:MtR X "int.bit_length" vP:=by
 intro o s A H x B v C Q I l m h;obtain⟨i,rfl,rfl,q⟩:=h;obtain⟨t,rfl⟩:=l;cases m;exact call_int_bit_length ⟨.int _,H,I.tok _,⟨_,rfl⟩,q⟩
def cQ(m:ME):ME:=λe S=>(m e S).bind λd l=>match d with
 | .int i=>.ok (.int (Di i)) l
 | _=>.bad
def ot(ho:GE X E o mo)(B:Gi o "bit_length" X.env (Cd o X.env)=Cd o X.env:=by rfl) (C:(m.endLine==G.line)=true:=by rfl) :
  GE X E (.Call (.Attribute o "bit_length" m) [] [] G) (cQ mo):=(sG PySem.F.plainAttrs_int PySem.F.slot_int_bit_length PySem.F.type_int_bit_length oK ho B C).imp<|by
 rintro T H Q ⟨I,l,S,J,L,s⟩
 refine⟨I,l,S,J,L,s.seq λd U s A N v O P R=>?_⟩
 cases d <;> first | exact s.elim | skip
 cases R;exact⟨rfl,_,rfl,rfl,s A N _ O P (.int _)⟩
end
section
def vM(K:AE):V->V->Hp->VK->Prop:=λo i H Q=>∃p l k z,o=.ref p/\i=.int k/\0<=k/\H p=some (.lst l)/\l[k.toNat]?=some z/\Q z H
def jy:wg X (vM X.K):=by
 intro R s S H o i T U Q I B C h;obtain⟨p,E,k,z,rfl,rfl,G,J,m,q⟩:=h;cases B;obtain⟨t,rfl⟩:=C;obtain⟨A,n,r,L,N⟩:=I.lst J
 obtain⟨u,O,P⟩:∃u,A[k.toNat]?=some u/\RelV z u:=r.get m
 have Y:k.toNat < E.length:=(AG.mp m).1;have Z:=Q0;exact getItem_listL (l:=A) ⟨_,L,rfl,n,rfl⟩ G (by omega) O ⟨z,H,I,P,q⟩
def YK(g:Int->Int->Int)(mo mi mv:ME):MS:=λe S=>(mo e S).lift e λd s=>(mi e s).lift e λk l=>match atL d l,k with
 | some (_,A),.int i=>if 0<=i then(match A[i.toNat]? with
  | some (.int x)=>(mv e l).lift e λy m=>match y,atL d m with
   | .int y,some (n,o)=>if i.toNat < o.length then .ok (.nx e) (m.set n (.lst (o.set i.toNat (.int (g x y)))))else .bad
   | _,_=>.bad
  | _=>.bad)else .bad
 | _,_=>.bad
def oY(ho:GE X E o mo)(hi:GE X E i mi)(he:GE X E e mv)(hp:PIp X op (ipI g))
  (ha:∀J L new,augStore i J L new=(do ZG [new,J,L] (uO J L new);release [new,J,L] [];pure .next):=by intros;rfl):GS X E (.AugAssign (.Subscript o i tpos) op e pos) (YK g mo mi mv):=
 (nO ho hi jy he hp iV ha).imp<|by
 rintro D σ H ⟨ρ,l,S,A,hs,m⟩
 refine⟨ρ,l,S,A,hs,m.lift A .refl λd S1 m N H1 x s s1 r1=>⟨N,l,S1,A.mono s,s1,(m.later s).lift (A.mono s) s λk S2 m O H2 y B U r2=>?_⟩⟩;have C:=r1.mono B;split at m
 ·rename_i n xs i hq
  split at m
  ·rename_i Y
   obtain⟨rfl,h5,a,vs,rfl,hn,e1,rr⟩:=UX U C hq;cases r2;split at m
   ·rename_i x hx
    obtain⟨z,hz,rz⟩:=rr.get hx;cases rz;refine⟨a,vs,i,.int x,rfl,rfl,Y,e1,hz,O,l,S2,A.mono (s.trans B),U,(m.later B).lift (A.mono (s.trans B)) (s.trans B) λy S3 m P H3 w Q Z r3=>?_⟩;split at m
    ·rename_i y n3 zs ϕ
     split at m
     ·rename_i xH
      cases r3;obtain⟨_,h6,a3,G,e4,R,e3,I⟩:=UX Z (C.mono Q) ϕ;cases e4;obtain⟨s4,l4⟩:=cJ Z R e3 (I.set (.int (g x y)) i.toNat)
      have T:ixN G.length i=some i.toNat:=by
       unfold ixN;rw[qX Y,qX (by rw[<-I.length];omega)]
      exact⟨x,y,rfl,rfl,a,G,i,i.toNat,rfl,rfl,e3,T,m P _ _ ((s.trans B).trans (Q.trans l4)) s4 (A.mono ((s.trans B).trans (Q.trans l4)))⟩
     ·exact m.elim
    ·exact m.elim
   ·exact m.elim
  ·exact m.elim
 ·exact m.elim
end
open PySem.SeqAt
section
variable{P:Bf}{w:CH}{K:AE}{mg:Str->Option AI}{base:DA}
def Fg(l:N.Nodup:=by decide +kernel)(m:∀x∈ps,sc.names.lookup x=some .local∨sc.names.lookup x=some .cell:=by decide +kernel)(o:∀y∈sc.names,y.2≠.free:=by decide +kernel)(s:sc.kind=.function:=by rfl)(A:sc.isCoroutine=false:=by rfl)(B:sc.isGenerator=false:=by rfl)(C:N.take ps.length=ps:=by rfl):Bk N ps sc:=⟨s,A,B,l,C,m,o⟩
def B9{x m}{st}{f}{fd}{N ps}{k n}(F:Fun K x m st f fd)(B:Bk N ps (BD st))(I:ps.length=n){mb}
  (J:∀(o:AI) (A:Bs) (l:List Env) (s:AK) (H:Hp) (E:XK),IB k (A.deeper (Ow m (BD st) s.heap.objs.size f o))->Li (XH (CXG P w) P w K mg base N m (BD st) f o A l s H E)->(A.deeper (Ow m (BD st) s.heap.objs.size f o)).units+64 < EY->N.Nodup ->
   ∀pn C,GSs ((XH (CXG P w) P w K mg base N m (BD st) f o A l s H E).w' pn C) C (Jd st) mb) :
  DF P w K mg base (CXG P w) (k+1) f fd ps (spM K n (D9 N.length mb)):=tf F B I λo A l s H E G=>J o A l s H E G ⟨rfl,rfl,rfl⟩ G.units B.nd
end
section
variable{X:Cx}{E:EW}{e:Expr}
def Cf(i:Nat)(hN:X.N.Nodup)(hi:X.N[i]?=some x:=by rfl)(l:Loc X.env.scope x:=by first | exact Ud rfl | exact RI rfl)(m:X.fn x=true∨X.env.scope.names.lookup x=some .local:=by first | exact .inl rfl | exact .inr rfl | assumption):GG X (.Name x pos) (tgN i):=oh (nU hN hi l m)
def CI(i:Nat)(hN:X.N.Nodup)(o:GE X E e m)(hi:X.N[i]?=some x:=by rfl)(s:Loc X.env.scope x:=by first | exact Ud rfl | exact RI rfl)(A:HI e (some (.Name x l)) pos.line X.env=pure false:=by rfl)
  (B:X.fn x=true∨X.env.scope.names.lookup x=some .local:=by first | exact .inl rfl | exact .inr rfl | assumption):GS X E (.Assign [.Name x l] e pos) (CY i m):=tL hN hi s o A B
def Vq(i:Nat)(hN:X.N.Nodup)(o:PIp X op (ipI g))(s:GE X E e m)(hi:X.N[i]?=some x:=by rfl)(A:Loc X.env.scope x:=by first | exact Ud rfl | exact RI rfl)
  (B:X.fn x=true∨X.env.scope.names.lookup x=some .local:=by first | exact .inl rfl | exact .inr rfl | assumption):GS X E (.AugAssign (.Name x l) op e pos) (TW i g m):=tM hN hi A o s B
end
end L2
namespace Srt
theorem lex_ltL:∀x y:ZLi,HT.lexLt x y=ltL x y
 | [],[]=>rfl
 | [],_ :: _=>rfl
 | _ :: _,[]=>rfl
 | x :: l,y :: m=>by
  show(if x=y then HT.lexLt l m else decide (x < y))=(if x=y then ltL l m else decide (x < y));rw[lex_ltL l m]
section
def TB(h:Q b s):Am (Ag prog w) A (truthOfDropped (.bool b)) Q E s:=λ_ _ _=>h
def eg(o:Bool)(C:A.units < EY)(P:Ua s x ns)(R:Ua s y m)(h:Q (ltL ns m) s):Am (Ag prog w) A (oneLt' o x y) Q E s:=by
 obtain⟨a,S,rfl,G,H⟩:=P;obtain⟨b,T,rfl,hb,I⟩:=R;rw[oneLt'_eq]
 cases o with
 | true=>
  simp only[if_true];refine AB (wpAny_cRoomFor C ?_);obtain⟨⟨cls,U,data,sl⟩,B,J,n,L⟩:=id G;obtain⟨⟨N,X,data2,Y⟩,Z,O,n2,l⟩:=id hb;simp only at J L O l;subst J L O l;refine AB (wpAny_callSpecialIfBound?_slot ⟨_,B,rfl⟩ M9 (qO M9 ⟨_,B,rfl⟩ WA (VO _ _) (HT.Ol a b S T n n2 U X sl Y ns m H I) ⟨B,Z,?_⟩));show Am _ _ (truthOfDropped (.bool (HT.lexLt ns m))) _ _ s;rw[lex_ltL];exact TB h
 | false=>
  simp only[Cj,if_false];refine AB (HT.aY G hb H I C ?_);rw[lex_ltL];exact TB h
theorem P6:∀{vs:List AI},(∀v∈vs,s.TypeIs v "tuple")->∀{Q:List AI->AK->Prop},Q (vs.map λ_=>.type "tuple") s->Am (Ag prog w) A (vs.mapM typeOf) Q E s
 | [],_,Q,h=>by rw[XZ];exact AN h
 | v :: vs,l,Q,h=>by
  rw[VP];exact AB (gP (l v AW) (AB (P6 (λu m=>l u (AQ _ m)) (AN h))))
end
end Srt
namespace L2
section
variable{X:Cx}{E:EW}{tg e:Expr}{K:AE}{ζ:List (AT×Obj)}{σ:St}{H:Hp}{s:AK}
def Itk(a:AT)(l:Obj)(u:HO)(xs:List V):It:=
 ⟨λi H=>H a=some (.frz l u)/\i < xs.length,λi H x m=>m=H/\xs[i]?=some x,λi H=>H a=some (.frz l u)/\xs.length<=i⟩
def dk(hx:l.ExactDict)(hd:l.data=.dict es ep)(J:CQ xs (es.toList.map (·.key))):VC P w K tg (Itk a l u xs) [it] it (λi h=>h.IsKeyIter it a i es.size ep) where
 mem:=by simp
 obj:=λi h st b hb=>by
  have e:b=it:=by simpa using hb
  subst e;obtain⟨o,e,c,d⟩:=st;exact⟨o,e,λv z=>by rw[d]at z;cases z⟩
 keep:=λi h C st k=>st.at λo e=>k it (by simp) o e
 item:=by
  intro X L hw N hc i ζ s σ H E I G st O;subst L hw N;obtain⟨Q,m⟩:=O;obtain⟨g,_⟩:=(show Ck X.prog X.w H s.heap a (.frz l u)from I.hok a _ Q)
  have R:xs.length=es.size:=by have:=J.length;rw[AF,Bg]at this;exact this
  have A:i < es.size:=by rw[<-R];exact m
  obtain⟨v,h1,h2⟩:=J.get (Ap m);rw[Ac,NU,VX A]at h1;cases h1;obtain⟨S,T,f2,U,Y,Z⟩:=G it (by simp)
  refine Srt.YR st ⟨l,g,hx,hd⟩ A λC B sb=>?_
  have I1:Inv X ζ σ H { s with heap:=C }:=I.turned (t':=s.toks) (λb o hb e=>(sb.2 b hb).trans e) S T U Y Z;obtain⟨o,e,c,d⟩:=id B;exact⟨_,rfl,Yu (s:={ s with heap:=C }) e c d (by decide) ⟨_,H,I1,h2,⟨rfl,Ap m⟩,B,λb hb=>(G b hb).1⟩⟩
 done:=by
  intro X L hw N hc i ζ s σ H E I G st O;subst L hw N;obtain⟨Q,m⟩:=O;obtain⟨g,_⟩:=(show Ck X.prog X.w H s.heap a (.frz l u)from I.hok a _ Q)
  have R:xs.length=es.size:=by have:=J.length;rw[AF,Bg]at this;exact this
  obtain⟨S,T,f2,U,Y,Z⟩:=G it (by simp)
  exact Srt.cH (I.ok.hd hc) st ⟨l,g,hx,hd⟩ (by rw[<-R];exact m) λC eb=>⟨rfl,I.turned (t':=s.toks) (λb o hb e=>eb b o hb e) S T U Y Z⟩
 self:=λ_ _ _ _ _ st h=>lL st h
def pF:∀{l:List RO} {us:List (Key×AI)} {m:List (Key×V)},Pairs (Es P w) l us->KV m us->CQ (m.map λx=>kV x.1) (l.map (·.key)):=by
 intro l us m B
 induction B generalizing m with
 | nil=>intro h;cases h;exact .nil
 | cons C I _ G=>
  intro h
  cases h with
  | cons r t=>
   refine .cons ?_ (G t);dsimp only;rw[r.1]
   rcases De C with⟨i,t,o,A⟩ | ⟨x,t,o,A⟩
   ·rw[o,A];exact⟨t,rfl⟩
   ·rw[o,A];exact⟨t,rfl⟩
def kW:∀{l:List (List Key×V)} {xs:List (List Key×AT×AI)},G9 (λ(p:List Key×V) (q:List Key×AT×AI)=>p.1=q.1/\H q.2.1=some (.tup (p.1.map kV))/\RelV p.2 q.2.2) l xs->G9 (λ(k:List Key×V) b=>H b=some (.tup (k.1.map kV))) l (xs.map (·.2.1)):=by
 intro l xs h
 induction h with
 | nil=>exact .nil
 | cons r _ m=>exact .cons r.2.1 m
def eV(l:List AT):CQ (l.map V.ref) (l.map BB):=by
 induction l with
 | nil=>exact .nil
 | cons a l m=>exact .cons rfl m
def iDct(A:TE):TI:=λσ H R=>A σ H λx m=>∃a o,x=.ref a/\((∃l,m a=some (.frz o (.dK l))/\R (Itk a o (.dK l) (l.map λx=>kV x.1)) m) ∨
 ∃l,m a=some (.frz o (.dT l))/\∀bs,G9 (λ(k:List Key×V) b=>m b=some (.tup (k.1.map kV))) l bs->R (Itk a o (.dT l) (bs.map V.ref)) m)
def nR(U:PE X l Y):PI X tg l (iDct Y):=by
 intro ζ s σ H R I h
 refine thn (U ζ s σ H _ I h) λv s1 ⟨x,O,G,Z,q1⟩=>?_
 obtain⟨a,m,e,q⟩:=q1;subst e;cases Z
 have fin:∀{u:HO} {P:List V} {J:Array RO} {Q:Nat},(a==D7)=false->s1.heap.get? a=some m->m.ExactDict->m.data=.dict J Q->CQ P (J.toList.map (·.key))->R (Itk a m u P) O ->
   Am (Ag X.prog X.w) X.A (gV (.ref a)) (PIE X ζ σ tg R) X.xe s1:=λL g B C hv q=>by
  refine Srt.YS L ⟨m,g,B,C⟩ ?_;refine⟨s1.heap.objs.size,[s1.heap.objs.size],_,_,O,rfl,G.kept (t':=s1.toks) λb o e=>AR _ e,dk B C hv,⟨_,Al _ rfl,rfl,rfl⟩,λb hb=>?_,q⟩
  have e:b=s1.heap.objs.size:=by simpa using hb
  subst e;exact G.fpOk (AO _) (G.hok.fresh (AO _))
 rcases q with⟨S,T,q⟩ | ⟨S,T,q⟩
 ·obtain⟨g,hz,L,us,kv,o,J,Q,N,B,C,g5,g6,_⟩:=(show Ck X.prog X.w O s1.heap a (.frz m (.dK S))from G.hok a _ T)
  rw[g]at N;cases N;exact fin L g B C (pF g6 kv) q
 ·obtain⟨g,hz,L,P,rr,o,J,Q,N,B,C,g4,_⟩:=(show Ck X.prog X.w O s1.heap a (.frz m (.dT S))from G.hok a _ T)
  rw[g]at N;cases N
  have hk:J.toList.map (·.key)=(P.map (·.2.1)).map BB:=by
   rw[g4,BF,BF];rfl
  exact fin L g B C (by rw[hk];exact eV _) (q _ (kW rr))
def Yn(d:D)(S:Sto):Option (List D):=match d with
 | .ref n=>match S[n]? with
  | some (.fK l)=>some (l.map λx=>ag x.1)
  | some (.fT l)=>some (l.map λx=>.tup (x.1.map ag))
  | _=>none
 | _=>none
def cc(m:ME):MI:=λe S=>(m e S).bind λd l=>match Yn d l with
 | some o=>.ok (ID o) l
 | none=>.bad
def Sm(G:H a=some (.frz I u))(J:A9 K ρ H ds xs):OE K ρ H (Itk a I u xs) (ID ds):=by
 intro o Q S R i l s L;cases L;have A:=J.mono l;have m:=l.frz _ _ _ G;refine⟨λN=>⟨m,by rw[<-A.length];exact Cr.mp N⟩,λd O=>?_⟩;obtain⟨x,B,P⟩:=A.get O;refine⟨⟨m,(AG.mp B).1⟩,λy T ⟨e,C⟩=>?_⟩;subst e;rw[B]at C;cases C;exact⟨o,.refl,s,P⟩
def og(h:GE X E e m):GI X E tg e (cc m):=(nR h).imp<|by
 rintro σ H R ⟨Q,l,S,T,U,B⟩
 refine⟨Q,l,S,T,U,B.seq λd Y B C N x O G Z=>?_⟩
 cases A:Yn d Y with
 | none=>rw[A]at B;exact B.elim
 | some ds=>
  rw[A]at B
  cases Z with
  | @ref n a hn=>
   obtain⟨o,ho,P⟩:=G.there hn;unfold Yn at A;simp only[ho]at A
   cases o with
   | fK i'=>
    cases A;obtain⟨I,J,e,L⟩:=P;exact⟨a,I,rfl,.inl ⟨J,e,B C N _ O G (Sm e (QE L))⟩⟩
   | fT i'=>
    cases A;obtain⟨I,J,e,L⟩:=P;exact⟨a,I,rfl,.inr ⟨J,e,λbs hb=>B C N _ O G (Sm e (Tv L hb))⟩⟩
   | _=>cases A
  | _=>cases A
def Inv.fz(I:Inv X ζ σ H s)(J:s.heap.get? a=some C)(B:H a=some u)(L:Mut (some u)):Inv X ζ σ (upd H a (.frz C u)) s:=by
 have m:∀b,H b=none->b≠a:=λb h z=>by subst z;rw[B]at h;cases h
 have l:∀b o,H b=some o->¬Mut (some o)->b≠a:=λb o h n z=>by subst z;rw[B]at h;cases h;exact n L
 have st:∀b o,Ck X.prog X.w H s.heap b o->Ck X.prog X.w (upd H a (.frz C u)) s.heap b o:=λb o x=>
  x.stay (λ_ _ _ q=>q) (λc r=>by rw[Bb (l c _ r λz=>z)];exact r) λc A r=>by rw[Bb (l c _ r λz=>z)];exact r
 refine⟨I.ok,I.os,I.bare,⟨I.base.keep,I.base.slot,λb o q n N=>?_,I.base.there,λb A q=>?_,λb o A q=>?_,λb O q=>?_⟩,I.loc,I.cell,?_,λx c q=>?_,λp P=>?_,λb o q=>?_,I.len⟩
 ·have:=I.base.free b o q n N
  rw[Bb (m b this)];exact this
 ·have:=I.base.tups b A q
  rw[Bb (l b _ this λz=>z)];exact this
 ·have:=I.base.frzs b o A q
  rw[Bb (l b _ this λz=>z)];exact this
 ·obtain⟨more,this⟩:=I.base.tbls b O q
  exact⟨more,by rw[Bb (l b _ this λz=>z)];exact this⟩
 ·rw[Bb (m _ I.free)];exact I.free
 ·rw[Bb (m _ (I.freeC x c q))];exact I.freeC x c q
 ·obtain⟨Q,G,R⟩:=I.pin p P
  exact⟨Q,by rw[Bb (m _ G)];exact G,R⟩
 ·by_cases hb:b=a
  ·subst hb
   rw[CG]at q;cases q;exact⟨J,st b u (I.hok b u B)⟩
  ·rw[Bb hb]at q
   exact st b o (I.hok b o q)
def fzO:Ob->Option Ob
 | .dK l=>some (.fK l)
 | .dT l=>some (.fT l)
 | .fK l=>some (.fK l)
 | .fT l=>some (.fT l)
 | _=>none
def sFz(i:Nat):MS:=λe S=>match e[i]? with
 | some (some (.ref n))=>match S[n]? with
  | some o=>match fzO o with
   | some l=>.ok (.nx e) (S.set n l)
   | none=>.bad
  | none=>.bad
 | _=>.bad
def YG{S:Sto}{n:Nat}{o:Ob}(h:S[n]?=some o):S.set n o=S:=by
 apply Fy
 intro j;rw[Dt];split
 ·rename_i c
  subst c;split
  ·exact h.symm
  ·rename_i c;rw[Bo (JH.mp c)]at h;cases h
 ·rfl
def wJ{i:Nat}{st:DQ}{R:MS}(h:GS X E st R):GS X E st (BP (sFz i) R):=by
 rintro ζ s σ H D I ⟨C,l,S,T,P,m⟩
 cases J:l[i]? with
 | none=>unfold BP sFz at m;rw[J]at m;exact m.elim
 | some x=>
  cases x with
  | none=>unfold BP sFz at m;rw[J]at m;exact m.elim
  | some d=>
   cases d with
   | ref n=>
    cases L:S[n]? with
    | none=>unfold BP sFz at m;rw[J]at m;dsimp only at m;rw[L]at m;exact m.elim
    | some o=>
     cases G:fzO o with
     | none=>unfold BP sFz at m;rw[J]at m;dsimp only at m;rw[L]at m;dsimp only at m;rw[G]at m;exact m.elim
     | some Z=>
      have N:CO X.K noH C H (R l (S.set n Z)) λfl S'=>R5 X.K E C H S' D fl:=by
       unfold BP sFz at m;rw[J]at m;dsimp only at m;rw[L]at m;dsimp only at m;rw[G]at m;exact m
      obtain⟨a,Q,ro⟩:=P.at L
      have fr:∀u,H a=some u->Mut (some u)->(∃B,s.heap.get? a=some B)->(∀B,EQ X.K C (upd H a (.frz B u)) a Z)->Am (Ag X.prog X.w) X.A (exec st X.env) _ _ s:=λu ha mu ⟨B,hg⟩ ra=>by
       have le:Le X.K C H C (upd H a (.frz B u)):=Le.write Q (by rw[ha];exact mu);obtain⟨s5,_⟩:=P.write Q (ra B) le;exact h ζ s σ _ D (I.fz hg ha mu) ⟨C,l,_,T.mono le,s5,N.go le λ_ _ k=>k.later le⟩
      cases o with
      | dK U=>
       cases G;obtain⟨O,e,Y⟩:=ro
       refine fr _ e trivial ?_ λB=>⟨B,O,CG,KVR.mono (Le.write Q (by rw[e];trivial)) Y⟩
       obtain⟨_,_,_,_,o,_,_,e,_⟩:=(show Ck X.prog X.w H s.heap a (.dK O)from I.hok a _ e);exact⟨o,e⟩
      | dT U=>
       cases G;obtain⟨O,e,Y⟩:=ro
       refine fr _ e trivial ?_ λB=>⟨B,O,CG,KVR.mono (Le.write Q (by rw[e];trivial)) Y⟩
       obtain⟨_,_,_,_,o,_,_,e,_⟩:=(show Ck X.prog X.w H s.heap a (.dT O)from I.hok a _ e);exact⟨o,e⟩
      | fK U=>cases G;rw[YG L]at N;exact h ζ s σ H D I ⟨C,l,S,T,P,N⟩
      | fT U=>cases G;rw[YG L]at N;exact h ζ s σ H D I ⟨C,l,S,T,P,N⟩
      | _=>cases G
   | _=>unfold BP sFz at m;rw[J]at m;exact m.elim
end
section
variable{K:AE}{ρ ρ':List AT}{H H':Hp}{S:Sto}{L:Key->Int}{m n:Nat}{a:AT}
mutual
theorem CB.cut(p:∀(n:Nat) a,ρ[n]?=some a->ρ'[n]?=some a):∀{d:D} {v o:V},CB K ρ H d v->CB K ρ' H' d o->CB K ρ H' d o
 | _,_,_,.non,.non=>.non
 | _,_,_,.bl _,.bl b=>.bl b
 | _,_,_,.int _,.int i=>.int i
 | _,_,_,.str _,.str x=>.str x
 | _,_,_,.tup _ r,.tup h l=>.tup h (A9.cut p r l)
 | _,_,_,.fro _ r,.fro h l=>.fro h (A9.cut p r l)
 | _,_,_,.ref h,.ref s=>by
  have e:=(p _ _ h).symm.trans s;cases e;exact .ref h
 | _,_,_,.exc _ _,.exc h e=>.exc h e
theorem A9.cut(p:∀(n:Nat) a,ρ[n]?=some a->ρ'[n]?=some a):∀{d:List D} {v l:List V},A9 K ρ H d v->A9 K ρ' H' d l->A9 K ρ H' d l
 | _,_,_,.nil,.nil=>.nil
 | _,_,_,.cons r t,.cons o s=>.cons (CB.cut p r o) (A9.cut p t s)
end
theorem KVR.cut(p:∀(n:Nat) a,ρ[n]?=some a->ρ'[n]?=some a):∀{x:List (o×D)} {y z:List (o×V)},KVR K ρ H x y->KVR K ρ' H' x z->KVR K ρ H' x z
 | _,_,_,.nil,.nil=>.nil
 | _,_,_,.cons r t,.cons l s=>.cons ⟨l.1,r.2.cut p l.2⟩ (KVR.cut p t s)
theorem EQ.cut(p:∀(n:Nat) a,ρ[n]?=some a->ρ'[n]?=some a)(h:EQ K ρ H a o)(h':EQ K ρ' H' a o):EQ K ρ H' a o:=by
 cases o with
 | lst A=>obtain⟨_,_,r⟩:=h;obtain⟨l,e,s⟩:=h';exact⟨l,e,r.cut p s⟩
 | dK A=>obtain⟨_,_,r⟩:=h;obtain⟨l,e,s⟩:=h';exact⟨l,e,KVR.cut p r s⟩
 | dT A=>obtain⟨_,_,r⟩:=h;obtain⟨l,e,s⟩:=h';exact⟨l,e,KVR.cut p r s⟩
 | ins C A=>obtain⟨_,_,_,r⟩:=h;obtain⟨B,l,e,s⟩:=h';exact⟨B,l,e,KVR.cut p r s⟩
 | fK A=>obtain⟨_,_,_,r⟩:=h;obtain⟨B,l,e,s⟩:=h';exact⟨B,l,e,KVR.cut p r s⟩
 | fT A=>obtain⟨_,_,_,r⟩:=h;obtain⟨B,l,e,s⟩:=h';exact⟨B,l,e,KVR.cut p r s⟩
 | mem L=>exact h'
def pX(L:Key->Int)(l:List (Key×D)):Prop:=(l.map (·.1)).Nodup/\∀x∈l,x.1∈Ww/\x.2=D.int (L x.1)
theorem cN:∀{o:List (Key×V)},(∀x∈o,x.2=V.int (L x.1))->KVR K ρ H (o.map λx=>(x.1,D.int (L x.1))) o
 | [],_=>.nil
 | (k,v) :: l,h=>.cons ⟨rfl,by rw[show v=V.int (L k)from h _ (AW ..)];exact .int _⟩ (cN λx s=>h x (AQ _ s))
theorem Ym:∀{s:List (Key×D)} {us:List (Key×V)},KVR K ρ H s us->(∀x∈s,x.1∈Ww/\x.2=D.int (L x.1))->∀x∈us,x.1∈Ww/\x.2=V.int (L x.1)
 | _,_,.nil,_,x,o=>by cases o
 | (k,d) :: l,(E,v) :: us,.cons r t,h,x,o=>by
  rcases Ai.mp o with rfl | o
  ·obtain⟨e,r⟩:=r
   dsimp only at e r ⊢;subst e;obtain⟨A,B⟩:=h _ (AW ..);dsimp only at A B;rw[B]at r;cases r;exact⟨A,rfl⟩
  ·exact Ym t (λy C=>h y (AQ _ C)) x o
def cU(r:KVR K ρ H l us)(h:pX L l):(us.map (·.1)).Nodup/\∀x∈us,x.1∈Ww/\x.2=V.int (L x.1):=⟨by rw[<-KVR.keys r];exact h.1,Ym r h.2⟩
def CV.swap(s:CV K ρ S H)(A:S[m]?=some o)(h:∀a,ρ[m]?=some a->EQ K ρ H a o->EQ K ρ H a o'):CV K ρ (S.set m o') H:=
 ⟨by rw[Dw];exact s.len,s.nd,λj q b l hb=>by
  rw[Dt]at l;split at l
  ·rename_i c
   subst c;split at l
   ·cases l;exact h b hb (s.ob m o b A hb)
   ·cases l
  ·exact s.ob j q b l hb⟩
end
def lmI:Res D->Int
 | .ok (.int z) _=>z
 | _=>0
def tt(x:Str)(q:Nat)(S:Sto):Option Str:=match S[q]? with
 | some (.ins _ fs)=>match fs.lookup x with
  | some (.str y)=>some y
  | _=>none
 | _=>none
def Vl(x:Str)(ds:List D)(S:Sto):Option Nat:=match ds with
 | .ref q :: _=>match S[q]? with
  | some (.ins _ fs)=>match fs.lookup x with
   | some (.ref m)=>some m
   | _=>none
  | _=>none
 | _=>none
def qL(f:List D->Sto->Res D)(ds:List D)(S:Sto)(m:Nat)(L:Key->Int)(z:Int):Prop:=
 ∀o,pX L o->∃l s,f ds (S.set m (.dK o))=.ok (.int z) l/\l[m]?=some (.dK s)/\pX L s/\∀n,n < S.length->n≠m->l[n]?=S[n]?
open Classical in
def pV(x:Str)(f:List D->Sto->Res D)(ds:List D)(S:Sto):Res D:=match Vl x ds S with
 | some m=>match S[m]? with
  | some (.mem L)=>match f ds (S.set m (.dK []))with
   | .ok (.int z) _=>if qL f ds S m L z then .ok (.int z) S else .bad
   | _=>.bad
  | _=>.bad
 | none=>.bad
section
variable{P:Bf}{w:CH}{K:AE}{mg:Str->Option AI}{base:DA}{CX:CXT}{k n:Nat}{fa:AT}{fd:KN}{ps:List Str}{x:Str}{f:List D->Sto->Res D}
def tq(F:DF P w K mg base CX k fa fd ps (spM K n f)):DF P w K mg base CX k fa fd ps (spM K n (pV x f)):=F.imp<|by
 rintro vs H Q E ⟨J,R,S,T,U,B,A⟩
 unfold pV at A;split at A
 ·rename_i m hm
  split at A
  ·rename_i L G
   split at A
   ·rename_i z S0 hz
    split at A
    ·rename_i X
     obtain⟨a,Y,I,e,Z,N⟩:=B.at G
     obtain⟨S',xf,hf,Ω,ya,hk⟩:=X (I.map λx=>(x.1,D.int (L x.1))) ⟨by rw[BF];exact Z,λy hy=>by
      obtain⟨u,hu,rfl⟩:=BV.mp hy
      exact⟨(N u hu).1,rfl⟩⟩
     refine⟨J,R,S.set m (.dK (I.map λx=>(x.1,D.int (L x.1)))),T,U,B.swap G (λb hb _=>⟨I,?_,cN λx hx=>(N x hx).2⟩),?_⟩
     ·rw[Y]at hb;cases hb;exact e
     ·rw[hf]
      intro ρ' H' y l s r;cases r;refine A J H' _ ⟨λ_ _ h=>h,l.tup,l.frz,λa o e n=>⟨(l.oth a o e n).1,n⟩⟩ ⟨B.len,B.nd,λj o b C hb=>?_⟩ (.int z);have O:=l.pre j b hb
      by_cases c:j=m
      ·subst c
       rw[G]at C;cases C;obtain⟨us,e3,r3⟩:=s.ob j _ b Ω O;exact⟨us,e3,cU r3 ya⟩
      ·exact(B.ob j o b C hb).cut l.pre (s.ob j o b ((hk j (AG.mp C).1 c).trans C) O)
    ·exact A.elim
   ·exact A.elim
  ·exact A.elim
 ·exact A.elim
end
end L2
namespace L2
open PySem.W
section
variable{X:Cx}{k k' n:Nat}{x qual:Str}{st:DQ}{ps:List Str}{p pos:Pos}{e:Expr}{es:List Expr}{ml:ML}{g:List D->Sto->Res D}
def gcl(D:Dfn X.K X.mg x qual st ps)(F:DF X.prog X.w X.K X.mg X.base (CXG X.prog X.w) k D.f D.fd ps (spM X.K n g))(l:IB k' X.A)(o:GA X noE (e :: es) ml)(s:k<=k':=by decide)(B:X.xe=λ_ _=>False:=by rfl)(C:Gl X x:=by rfl)
  (E:(x==("__debug__" : Str))=false:=by decide) (G:AY (e :: es) X.env=(false,Cd e X.env) :: AY es X.env:=by rfl) (H:(ER pos (AY es X.env)).any (·.1)=false:=by rfl) :
  GE X noE (.Call (.Name x p) (e :: es) [] pos) (CM n g ml):=Bq F (good_none B).pass (l.mono s) C D.m D.kp D.b o E G H
end
abbrev FnAt(K:Frag)(x l:Str)(st:DQ)(f:AT):Prop:=∃(s:AI) (A:Option AT) (kV m B:AI) (C:Option AT) (o ct:AI) (E:Array (Option AI)),
 K.lookup f=some ⟨s,A,.func (fnOf x l (Mm st) (Jd st) (BD st) .none kV m B C o ct),E⟩/\codeIn K o l=true/\keepIn K (.ref f)=true
abbrev EO(K:Frag)(x:Str)(st:DQ)(f:AT):Prop:=nsIn K BN x=some (some (.ref f))/\FnAt K x x st f
abbrev Ou(K:Frag)(C:AT)(x l:Str)(st:DQ)(f:AT):Prop:=findIn K (.ref C) x=some (some (.ref f))/\isFn K (.ref f)=true/\FnAt K x l st f
abbrev ClsAt(K:Frag)(x:Str)(C:AT):Prop:=nsIn K BN x=some (some (.ref C))/\plainGet K C ZI=true/\hasDictIn K C=true/\plainOver K C=true/\findIn K (.ref C) "__setattr__" = some (some (.builtin "object.__setattr__"))/\makesIn K C=true/\keepIn K (.ref C)=true
def bS(st:DQ)(ps:List Str):Prop:=∀(x l:Str) (kV m s:AI) (A:Option AT) (B ct:AI) (o:List AI),o.length=ps.length->lT (fnOf x l (Mm st) (Jd st) (BD st) .none kV m s A B ct) ⟨o,[]⟩=pure (ps.zip o)
section
variable{K:Frag}{h:DA}{mg:Str->Option AI}{x qual:Str}{st:DQ}{f C:AT}{ps:List Str}{a b c d e:Str}
def FnAt.fd(z:FnAt K x qual st f):∃fd,Fun K x qual st f fd:=by
 obtain⟨o,s,kV,m,A,B,E,ct,G,l,c,k⟩:=z;exact⟨_,j9 l c k⟩
def mkD(X:K.In h)(G:h.Ns BN mg)(z:EO K x st f)(b:bS st ps):Dfn K mg x x st ps:=⟨f,(FnAt.fd z.2).choose,(FnAt.fd z.2).choose_spec,(FnAt.fd z.2).choose_spec.binds (b x x),ZY X G z.1⟩
def mkM(z:Ou K C x qual st f)(b:bS st ps):Mtd K x qual st ps:=⟨f,(FnAt.fd z.2.2).choose,(FnAt.fd z.2.2).choose_spec,(FnAt.fd z.2.2).choose_spec.binds (b x qual)⟩
def FnAt.kp(z:FnAt K x qual st f):keepIn K (.ref f)=true:=by
 obtain⟨o,s,kV,m,A,B,E,ct,G,l,c,k⟩:=z;exact k
def mkE(z:Ou K C x qual st f):XV K C x f:=⟨z.1,z.2.1,FnAt.kp z.2.2⟩
def mkO(X:K.In h)(G:h.Ns BN mg)(z:ClsAt K y C)(i:Ou K C "__init__" qual st f):Own K mg y C f:=⟨⟨z.2.1,z.2.2.1,z.2.2.2.1,z.2.2.2.2.1⟩,⟨z.2.2.2.2.2.1,i.1,i.2.1,z.2.2.2.2.2.2⟩,ZY X G z.1⟩
abbrev bnd(st:DQ)(ps:List Str)(us:List AI):Prop:=∀(x qual:Str) (kV l m:AI) (o:Option AT) (s ct:AI),lT (fnOf x qual (Mm st) (Jd st) (BD st) .none kV l m o s ct) ⟨us,[]⟩=pure (ps.zip us)
def bd1(z:∀u,bnd st [a] [u]):bS st [a]:=λx q k d p n c t m l=>by obtain⟨u,rfl⟩:=sj l;exact z u x q k d p n c t
def bd2(z:∀u v,bnd st [a,b] [u,v]):bS st [a,b]:=λx q k d p n c t m l=>by obtain⟨u,v,rfl⟩:=v0 l;exact z u v x q k d p n c t
def bd3(z:∀u v w,bnd st [a,b,c] [u,v,w]):bS st [a,b,c]:=λx q k d p n c t m l=>by obtain⟨u,v,w,rfl⟩:=vz l;exact z u v w x q k d p n c t
def bd4(z:∀u v w y,bnd st [a,b,c,d] [u,v,w,y]):bS st [a,b,c,d]:=λx q k d p n c t m l=>by obtain⟨u,v,w,y,rfl⟩:=vy l;exact z u v w y x q k d p n c t
def bd5(z:∀u v w y l,bnd st [a,b,c,d,e] [u,v,w,y,l]):bS st [a,b,c,d,e]:=λx q k d p n c t o m=>by obtain⟨u,v,w,y,l,rfl⟩:=len5 m;exact z u v w y l x q k d p n c t
end
section
variable{ml:ML}
def vn(ml:ML):ME:=λe S=>(ml e S).bind λm l=>match m with
 | [d1,d2]=>match QC d1 l with
  | some o=>match QC d2 l with
   | some s=>.ok (.ref l.length) (l++[.lst (ut o s)])
   | none=>.bad
  | none=>.bad
 | _=>.bad
end
def Yi(x:Str)(o:List D->Sto->Key->Int)(f:List D->Sto->Res D)(ds:List D)(S:Sto):Res D:=match f ds S with
 | .ok .non l=>match Vl x ds l with
  | some m=>match l[m]? with
   | some (.dK [])=>.ok .non (l.set m (.mem (o ds l)))
   | _=>.bad
  | none=>.bad
 | .err c l=>.err c l
 | _=>.bad
section
variable{P:Bf}{w:CH}{K:AE}{mg:Str->Option AI}{base:DA}{CX:CXT}{k n:Nat}{fa:AT}{fd:KN}{ps:List Str}{x:Str}{f:List D->Sto->Res D}{Lf:List D->Sto->Key->Int}
def kE(F:DF P w K mg base CX k fa fd ps (spM K n f)):DF P w K mg base CX k fa fd ps (spM K n (Yi x Lf f)):=F.imp<|by
 rintro X H Q E ⟨C,G,S,I,J,L,o⟩
 unfold Yi at o;refine⟨C,G,S,I,J,L,?_⟩;split at o
 ·rename_i N A
  split at o
  ·rename_i m Y
   split at o
   ·rename_i O
    rw[A];intro B R y l s r;exact o B R y l (s.swap O λa Z ⟨T,e,r⟩=>⟨T,e,cU r ⟨Gj,λ_ U=>nomatch U⟩⟩) r
   ·exact o.elim
  ·exact o.elim
 ·rename_i c N A
  rw[A];exact o
 ·exact o.elim
end
end L2
namespace Srt
theorem SL:∀{r q:ZLi} (a b:ZLi),r.length=q.length->ltL (r++a) (q++b)=if r=q then ltL a b else ltL r q
 | [],[],_,_,_=>by simp
 | [],_ :: _,_,_,h=>nomatch h
 | _ :: _,[],_,_,h=>nomatch h
 | x :: r,y :: q,a,b,h=>by
  show(if x=y then ltL (r++a) (q++b)else decide (x < y))=if x :: r=y :: q then ltL a b else(if x=y then ltL r q else decide (x < y))
  rw[SL a b (Lk h)]
  by_cases e:x=y
  ·subst e;simp
  ·simp[e]
section
variable{prog:Bf}{w:CH}{A:Bs}{E:AI->AK->Prop}{s:AK}
def Tri(s:AK)(v:AI)(r:ZLi)(a b:Int):Prop:=∃p l q t u,v=.ref p/\s.heap.IsTuple p l/\l.toList=[q,.int a t,.int b u]/\Ua s q r
def iC{a:AT}{ns:ZLi}(h:Ua s (.ref a) ns):IsTupleKey (intKind prog w) s.heap ns a:=by
 obtain⟨b,m,e,⟨o,C,G,n,H⟩,B⟩:=h;cases e;refine⟨o,m,n,C,G,H,?_⟩;generalize m.toList=l at B
 induction B with
 | nil=>exact .nil
 | cons n t _ I=>exact .cons (by simp[intKind,Ze]) I
def pI{x y:AI}{r q:ZLi}{a b c d:Int}(m:A.units < EY)(G:Tri s x r a b)(H:Tri s y q c d)(I:r.length=q.length){Q:Bool->AK->Prop}(h:Q (ltL (r++[a,b]) (q++[c,d])) s):Am (Ag prog w) A (keyLt' (ZF false) x y) Q E s:=by
 obtain⟨p,J,u,L,N,rfl,⟨o,O,X,n,P⟩,B,tz⟩:=G;obtain⟨Y,l,Z,R,S,rfl,⟨o',T,ya,n',U⟩,C,tz'⟩:=H;rw[Yp];refine AB (Ov O P (AB (Ov T U ?_)));rw[B,C,KP,lC,Je,bind_assoc];have z:J.size=1+2/\l.size=1+2:=⟨by rw[<-Bg,B];rfl,by rw[<-Bg,C];rfl⟩;rw[SL _ _ I]at h;obtain⟨k1,_,rfl,_⟩:=id tz;obtain⟨k2,_,rfl,_⟩:=id tz';refine AB (AB (wpAny_eqBool_tuple m (iC tz) (iC tz') ?_))
 by_cases e:r=q
 ·rw[qX e]at h
  rw[qY (by simp[e])];refine AN ?_;have:=Y3 (prog:=prog) (w:=w) (A:=A) (E:=E) (n0:=1) false (0+1) (.cons a L (.cons b N .nil)) (.cons c R (.cons d S .nil)) h;rw[z.1,z.2];exact this
 ·rw[qY e]at h
  rw[qX (by simp[e])];exact AB (eg _ m tz tz' (AN (AB (AN (AN h)))))
theorem UJ:∀{vs:List AI},(∀v∈vs,∃r a b,Tri s v r a b)->∀{Q:List (Option AI)->AK->Prop},(∀is:List AI,(∀i∈is,s.TypeIs i "tuple")->is.length=vs.length->Q (is.map some) s)->Am (Ag prog w) A (vs.mapM NK) Q E s
 | [],_,Q,h=>by
  rw[XZ];exact AN (h [] (λ_ h=>nomatch h) rfl)
 | v :: vs,B,Q,h=>by
  obtain⟨r,a,b,p,G,q,t,u,rfl,⟨o,C,H,n,I⟩,J,tz⟩:=B v AW;rw[VP];refine AB ?_;refine(AB (gP ⟨o,C,H⟩ ?_):Am _ _ (NK (.ref p)) _ E s);refine(show Am (Ag prog w) A (if (Da "tuple" != Da "tuple")=true then _ else _) _ E s from ?_);rw[qY (by simp)];refine AB (Ov C I (AN ?_))
  have L:G[0]?=some q:=by rw[<-NU,J];rfl
  rw[L];refine AB (UJ (λv N=>B v (AQ _ N)) λis O P=>AN (h (q :: is) (λi l=>?_) (by rw[Aj,P,Aj])))
  rcases Ai.mp l with l | l
  ·obtain⟨k,_,rfl,⟨ok,R,m,_⟩,_⟩:=tz
   rw[l];exact⟨ok,R,m⟩
  ·exact O i l
def iO{vs:List AI}{f:AI->ZLi}{m:Nat}(o:A.units < EY)(h:∀v∈vs,∃r a b,Tri s v r a b/\f v=r++[a,b]/\r.length=m)(B:vs≠[]):Uc prog w A s vs f:=by
 refine⟨ZF false,λQ E q=>?_,λx y C G Q E q=>?_⟩
 ·rw[keyKind'_eq,LN]
  refine AB ?_;rw[map_eq_pure_bind];refine AB (UJ (λv H=>let ⟨r,a,b,z,_⟩:=h v H;⟨r,a,b,z⟩) λis I J=>AN ?_);rw[qX (by simp)];refine AB (ZT ?_)
  have L:(is.map some).toArray.filterMap id=is.toArray:=by simp
  rw[L,wk,LN,map_eq_pure_bind];refine AB (AB (AB (P6 I (AN ?_))))
  cases is with
  | nil=>cases vs with | nil=>exact zX rfl B | cons=>cases J
  | cons i is=>
   have l:((FX (λ_=>Da "tuple") (i :: is)).toArray.all λx=>x==Da "tuple")=true:=by
    simp only[lG,RN,E4]
    exact λ_ _=>rfl
   rw[show(FX (λ_=>Da "tuple") (i :: is)).toArray[0]?=some (Da "tuple") by simp];simp only[l,if_true];exact AN (AN q)
 ·obtain⟨r,a,b,N,l,O⟩:=h _ (Gf C).1
  obtain⟨T,c,d,P,R,S⟩:=h _ (Gf G).1;refine pI o N P (O.trans S.symm) ?_;rw[<-l,<-R];exact q
end
end Srt
namespace L2
open Srt (ltL)
def Nr(H:Hp):V->ZLi
 | .ref b=>match H b with
  | some (.tup [c,.int x,.int y])=>PB H c++[x,y]
  | _=>[]
 | _=>[]
def fv(H:Hp)(m:Nat)(v:V):Prop:=∃b c r x y,v=.ref b/\H b=some (.tup [.ref c,.int x,.int y])/\H c=some (.tup (FX V.int r))/\r.length=m
def fv.key{H:Hp}{m:Nat}{v:V}(h:fv H m v):∃b c r x y,v=.ref b/\H b=some (.tup [.ref c,.int x,.int y])/\H c=some (.tup (FX V.int r))/\r.length=m/\Nr H v=r++[x,y]:=by
 obtain⟨b,c,r,x,y,rfl,l,o,s⟩:=h;refine⟨b,c,r,x,y,rfl,l,o,s,?_⟩;unfold Nr;dsimp only;rw[l];dsimp only;rw[show PB H (.ref c)=r by unfold PB;dsimp only;rw[o];exact LY r]
def rP(K:AE):List V->Hp->VK->Prop:=λs H Q=>∃p,s=[.ref p]/\∃o,(SqL K H p o∨SqT K H p o)/\∃m,(∀v∈o,fv H m v) /\
 ∀out,out.Perm o->out.Pairwise (λx y=>ltL (Nr H y) (Nr H x)=false)->∀l,H l=none->Q (.ref l) (upd H l (.lst out))
def mS(H:Hp):AI->ZLi
 | .ref b=>Nr H (.ref b)
 | _=>[]
def ay{X:Cx}(hc:X.calm=true)(hu:X.A.units+64 < EY):JU X (.builtin "sorted") (rP X.K):=by
 intro ζ s σ H xs us Q I r h;obtain⟨p,rfl,U,sq,Y⟩:=h;obtain⟨u,rfl,rx⟩:=vals1 r;cases rx;obtain⟨N,O,⟨m,B,q⟩,Z,hz,col⟩:=RW hc I (G:=λN=>∃m,(∀v∈N,fv H m v)/\∀out,out.Perm N->out.Pairwise (λx y=>ltL (Nr H y) (Nr H x)=false)->∀l,H l=none->Q (.ref l) (upd H l (.lst out))) (.inl ⟨U,sq,Y⟩)
 have rel:∀v∈N,∀u,RelV v u->mS H u=Nr H v:=λv P u r=>by
  obtain⟨b,_,_,_,_,rfl,_⟩:=B v P;cases r;rfl
 refine VW kind_sorted plain_sorted entry_sorted (args_sorted1 _) ?_;unfold Builtin.«sorted»;refine AB (m:=checkCount "sorted" 1 1 _) (AN (AB (col _ _ λg tk kp=>?_)));refine AB (dL ?_ hz);have S:Inv X ζ σ H { s with heap:=g,toks:=tk }:=I.kept kp;have hl:(g.push (II "list" O.toArray 0)).get? g.objs.size=some (II "list" O.toArray 0):=Al _ rfl;refine AB (IA (Ec slot_list_sort ⟨_,hl,rfl⟩ wl (Srt.Oq (f:=mS H) hl hz (λh2 s' keep=>?_) λout po so=>⟨_,rfl,AN ⟨_,rfl,?_⟩⟩) (args_list_sort _)))
 ·refine Srt.iO (m:=m) (by simp only[Bs.in1];lia) (λu hu=>?_) (by intro e;subst e;simp at h2)
  obtain⟨v,P,r⟩:=PF Z hu;rw[rel v P u r];obtain⟨b,c,rr,x,y,rfl,e1,e2,e3,e4⟩:=(B v P).key;cases r;rw[e4];obtain⟨_,is,r,o,ho,zE,n,hd⟩:=(show Ck X.prog X.w H g b (.tup _)from S.hok b _ e1);obtain⟨_,js,r2,o2,yT,C,n2,hd2⟩:=(show Ck X.prog X.w H g c (.tup _)from S.hok c _ e2)
  have E:∀k ok,g.get? k=some ok->s'.heap.get? k=some ok:=λk ok T=>keep k ok (A0 (Ad T)) (AR _ T)
  obtain⟨t,t',hi⟩:∃t t',is=[.ref c,.int x t,.int y t']:=by
   cases r with
   | cons a1 r=>cases r with
    | cons a2 r=>cases r with
     | cons a3 r=>
      cases r;cases a1;obtain⟨t,rfl⟩:=a2;obtain⟨t',rfl⟩:=a3;exact⟨t,t',rfl⟩
  exact⟨rr,x,y,⟨b,is.toArray,.ref c,t,t',rfl,⟨o,E _ _ ho,zE,n,hd⟩,by simpa using hi,c,js.toArray,rfl,⟨o2,E _ _ yT,C,n2,hd2⟩,by simpa using intsAre_of r2⟩,rfl,e3⟩
 ·obtain⟨J,ro,pv⟩:=Ra po.symm Z
  have so':J.Pairwise (λx y=>ltL (Nr H y) (Nr H x)=false):=by
   have e:out.toList.map (mS H)=J.map (Nr H):=MR ro λa ha b rb=>rel a (pv.mem_iff.mp ha) b rb
   have:=(Bl (f:=mS H) (R:=λx y=>ltL y x=false)).mpr so;rw[e]at this;exact Bl.mp this
  obtain⟨k,T⟩:=sortedHeap_at (out:=out) hl
  have L:J.length<=sizeLine:=by rw[pv.length_eq,Z.length];exact hz
  have I2:=S.laid (a:=g.objs.size) (o:=.lst J) (t':=tk) (h':=ZW (g.push (II "list" O.toArray 0)) g.objs.size O out)
   (λb u z=>by
    have lt:b < g.objs.size:=Ad z;rw[sortedHeap_old (A0 lt) (by rw[size_push'];exact Ll lt)]
    exact AR _ z) (AO _) ⟨L,out.toList,k,ro,T⟩
  exact⟨.ref g.objs.size,_,I2,rfl,q J pv so' _ (S.hok.fresh (AO _))⟩
abbrev T3:=ZLi×Int×Int
def WT(t:T3):D:=.tup [Ng t.1,.int t.2.1,.int t.2.2]
def k3(t:T3):ZLi:=t.1++[t.2.1,t.2.2]
def RX(ts:List T3):List T3:=ts.mergeSort (λa b=>!ltL (k3 b) (k3 a))
def L8(ts:List T3):(RX ts).Perm ts:=Pd ts _
def YD(ts:List T3):(RX ts).Pairwise (λa b=>ltL (k3 b) (k3 a)=false):=by
 have:=M0 (le:=λa b:T3=>!ltL (k3 b) (k3 a)) (by intro a b c l m;simp at l m ⊢;exact Srt.SK _ _ _ l m) (by
  intro a b
  cases e:ltL (k3 b) (k3 a)with
  | false=>rfl
  | true=>simpa using Srt.JA _ _ e) ts
 exact this.imp λh=>by simpa using h
def RU:List D->Option (List T3)
 | []=>some []
 | .tup [.tup l,.int x,.int y] :: r=>match JS l,RU r with
  | some m,some o=>some ((m,x,y) :: o)
  | _,_=>none
 | _ :: _=>none
def iG{ds:List D}:∀{ts:List T3},RU ds=some ts->ds=ts.map WT:=by
 induction ds with
 | nil=>intro ts h;cases h;rfl
 | cons d ds m=>
  intro ts h;unfold RU at h;split at h
  ·rename_i l;cases l
  ·rename_i l
   cases l;split at h
   ·rename_i A B o s
    cases h;rw[As,<-m s,Nt o];rfl
   ·cases h
  ·cases h
def WS{K:AE}{ρ:List AT}{H:Hp}{t:T3}{v:V}(r:CB K ρ H (WT t) v):Nr H v=k3 t/\fv H t.1.length v:=by
 cases r with
 | @tup _ b C hb l=>
  cases l with
  | cons o l=>cases l with
   | cons s l=>cases l with
    | cons A l=>
     cases l;cases s;cases A
     cases o with
     | @tup _ c E m B=>
      have:=B.ints;subst this;have z:fv H t.1.length (.ref b):=⟨b,c,t.1,t.2.1,t.2.2,rfl,hb,m,rfl⟩;refine⟨?_,z⟩;unfold Nr;dsimp only;rw[hb];dsimp only;rw[show PB H (.ref c)=t.1 by unfold PB;dsimp only;rw[m];exact LY _];rfl
def dn{K:AE}{ρ:List AT}{H:Hp}{ts:List T3}:∀{vs:List V},A9 K ρ H (ts.map WT) vs->vs.map (Nr H)=ts.map k3/\∀v∈vs,∃t∈ts,CB K ρ H (WT t) v:=by
 induction ts with
 | nil=>intro vs h;cases h;exact⟨rfl,λv l=>nomatch l⟩
 | cons t ts m=>
  intro vs h
  cases h with
  | cons r o=>
   obtain⟨s,A⟩:=m o;refine⟨by rw[As,s,(WS r).1,As],λv l=>?_⟩
   rcases Ai.mp l with l | l
   ·exact⟨t,AW,l▸r⟩
   ·obtain⟨u,B,C⟩:=A v l
    exact⟨u,AQ _ B,C⟩
def jh{t u:T3}(m:t.1.length=u.1.length)(h:k3 t=k3 u):t=u:=by
 obtain⟨r,x,y⟩:=t;obtain⟨q,a,b⟩:=u;have:=List.append_inj h m;have l:=this.2;simp at l;rw[show r=q from this.1,l.1,l.2]
def dq{K:AE}{ρ:List AT}{H:Hp}{ts:List T3}{m:Nat}(s:∀t∈ts,t.1.length=m){us:List T3}:∀{out:List V},(∀t∈us,t∈ts)->(∀v∈out,∃t∈ts,CB K ρ H (WT t) v)->out.map (Nr H)=us.map k3->A9 K ρ H (us.map WT) out:=by
 induction us with
 | nil=>intro out _ _ e;cases out with | nil=>exact .nil | cons=>cases e
 | cons t us C=>
  intro out A B e
  cases out with
  | nil=>cases e
  | cons v out=>
   injection e with E G
   obtain⟨u,o,l⟩:=B v AW;have:u=t:=jh ((s u o).trans (s t (A t AW)).symm) ((WS l).1.symm.trans E);exact .cons (this▸l) (C (λt I=>A t (AQ _ I)) (λv J=>B v (AQ _ J)) G)
def Wx(m:ME):ME:=λe S=>(m e S).bind λd l=>match GD d l with
 | some s=>match RU s with
  | some o=>if ∀t∈o,t.1.length=(o.headD ([],0,0)).1.length then .ok (.ref l.length) (l++[.lst ((RX o).map WT)])else .bad
  | none=>.bad
 | none=>.bad
def jz{X:Cx}{E:EW}{e:Expr}{p pos:Pos}{m:ME}(J:X.calm=true)(hu:X.A.units+64 < EY)(hg:Gl X "sorted") (s:X.mg "sorted" = none) (h:GE X E e m) (U:AY [e] X.env=(false,Cd e X.env) :: AY [] X.env:=by rfl):GE X E (.Call (.Name "sorted" p) [e] [] pos) (Wx m):=
 (LU (ay J hu) hg s RG (Fe h IP U) (by decide) (by decide) U rfl).imp<|by
 rintro σ H Q ⟨ρ,l,S,hl,hs,s⟩
 refine⟨ρ,l,S,hl,hs,s.seq λd S1 s B G x l1 Y r1=>?_⟩
 cases L:GD d S1 with
 | none=>rw[L]at s;exact s.elim
 | some ds=>
  rw[L]at s;dsimp only at s
  cases N:RU ds with
  | none=>rw[N]at s;exact s.elim
  | some C=>
   rw[N]at s;dsimp only at s;split at s
   case isFalse=>exact s.elim
   rename_i J;obtain⟨q,xs,rfl,Z,sq⟩:=P0 Y r1 L;rw[iG N]at Z;obtain⟨i1,i2⟩:=dn Z;refine⟨q,rfl,xs,sq,(C.headD ([],0,0)).1.length,λv O=>?_,λout po so q2 I=>?_⟩
   ·obtain⟨t,P,r⟩:=i2 v O
    rw[<-J t P];exact(WS r).2
   have e2:out.map (Nr G)=(RX C).map k3:=by
    refine LS ?_ (Bl.mpr so) (Bl.mpr (YD C));have:=po.map (Nr G);rw[i1]at this;exact this.trans ((L8 C).map k3).symm
   have R:A9 X.K B G ((RX C).map WT) out:=dq J (λt P=>(L8 C).mem_iff.mp P) (λv O=>i2 v (po.mem_iff.mp O)) e2;have le:Le X.K B G (B++[q2]) (upd G q2 (.lst out)):=Le.alloc I;obtain⟨s4,l4,T⟩:=Y.alloc (ho:=.lst out) (o:=.lst ((RX C).map WT)) I ⟨_,CG,R.mono le⟩;exact s _ _ _ (l1.trans l4) s4 (.ref T)
end L2
namespace L4
open L2
inductive Cel where
 | no | fz (o:Ob) | ow (i:Nat)
abbrev Fz:=Nat->Cel
inductive Sl where
 | u | v (d:D) | z (o:Ob) | y (o:Ob) | w (i:Nat) (o:Ob) | q (P:(Nat->Option Ob)->D->Prop)
def Sl.ok(S0:Sto)(F:Fz)(S:Sto):Sl->Option D->Prop
 | .u,_=>True
 | .v d,x=>x=some d
 | .z o,x=>∃n,x=some (.ref n)/\F n=.fz o
 | .y o,x=>∃n,x=some (.ref n)/\F n=.fz o/\S0.length<=n
 | .w i o,x=>∃n,x=some (.ref n)/\F n=.ow i/\S[n]?=some o
 | .q P,x=>∃d,x=some d/\∀L:Nat->Option Ob,(∀n o,F n=.fz o->L n=some o)->P L d
structure Vs(S0:Sto)(A:List Sl)(e:Lo)(F:Fz)(S:Sto):Prop where
 kp:Keeps S0 S
 fz:∀n o,F n=.fz o->S[n]?=some o
 ow:∀n i,F n=.ow i->S0.length<=n/\n < S.length
 hi:∀n,S.length<=n->F n=.no
 sl:∀(i:Nat) (a:Sl),A[i]?=some a->∃x,e[i]?=some x/\a.ok S0 F S x
def Fle(F l:Fz):Prop:=∀n o,F n=.fz o->l n=.fz o
def Fle.refl(F:Fz):Fle F F:=λ_ _ h=>h
def Fle.trans(a:Fle F G)(b:Fle G H):Fle F H:=λn o h=>b n o (a n o h)
def Q9(F:Fz)(S l:Sto):Fz:=λn=>if n < S.length then F n else match l[n]? with
 | some o=>.fz o
 | none=>.no
section
variable{S0 S S':Sto}{A B:List Sl}{e:Lo}{F:Fz}{α β γ ρ σ τ:Type}
def G4(h:n < S.length):Q9 F S S' n=F n:=qX h
def UK(h:S.length<=n)(ho:S'[n]?=some o):Q9 F S S' n=.fz o:=by
 unfold Q9;rw[qY (JH.mpr h),ho]
def Bc(h:S[n]?=some o):n < S.length:=(AG.mp h).1
def Sl.mono{S0:Sto}{F s:Fz}{S S':Sto}{a:Sl}{x:Option D}(h:a.ok S0 F S x)(C:∀n o,F n=.fz o->s n=.fz o)(G:∀n i o,F n=.ow i->S[n]?=some o->s n=.ow i/\S'[n]?=some o):a.ok S0 s S' x:=by
 cases a with
 | u=>trivial
 | v d=>exact h
 | z o=>obtain⟨n,l,m⟩:=h;exact⟨n,l,C _ _ m⟩
 | y o=>obtain⟨n,l,m,E⟩:=h;exact⟨n,l,C _ _ m,E⟩
 | w i o=>obtain⟨n,l,m,E⟩:=h;exact⟨n,l,G _ _ _ m E⟩
 | q P=>obtain⟨d,l,m⟩:=h;exact⟨d,l,λL H=>m L λn o q=>H n o (C n o q)⟩
def Vs.fle(h:Vs S0 A e F S)(S':Sto):Fle F (Q9 F S S'):=λn o q=>by rw[G4 (Bc (h.fz n o q))];exact q
def Vs.grow(h:Vs S0 A e F S)(k:Keeps S S'):Vs S0 A e (Q9 F S S') S':=by
 refine⟨h.kp.trans k,λn o q=>?_,λn i q=>?_,λn m=>?_,λi a C=>?_⟩
 ·unfold Q9 at q
  split at q
  ·rename_i m
   rw[k.2 n m];exact h.fz n o q
  ·cases l:S'[n]? with
   | none=>rw[l]at q;cases q
   | some E=>rw[l]at q;cases q;rfl
 ·unfold Q9 at q
  split at q
  ·exact⟨(h.ow n i q).1,AV (h.ow n i q).2 k.1⟩
  ·cases l:S'[n]? with
   | none=>rw[l]at q;cases q
   | some E=>rw[l]at q;cases q
 ·unfold Q9
  rw[qY (JH.mpr (Aw k.1 m)),Bo m]
 ·obtain⟨x,G,H⟩:=h.sl i a C
  exact⟨x,G,Sl.mono H (h.fle S') λn i o I s=>⟨by rw[G4 (Bc s)];exact I,by rw[k.2 n (Bc s)];exact s⟩⟩
def Vs.cons(h:Vs S0 A e F S)(l:a.ok S0 F S x):Vs S0 (a :: A) (x :: e) F S:=
 ⟨h.kp,h.fz,h.ow,h.hi,λi b hb=>by
  cases i with
  | zero=>cases hb;exact⟨x,rfl,l⟩
  | succ i=>exact h.sl i b hb⟩
def Vs.set(h:Vs S0 A e F S)(i:Nat)(l:a.ok S0 F S x):Vs S0 (A.set i a) (e.set i x) F S:=
 ⟨h.kp,h.fz,h.ow,h.hi,λj b hb=>by
  by_cases c:i=j
  ·subst c
   rw[Dt]at hb;rw[qX rfl]at hb;split at hb
   ·rename_i m
    cases hb;obtain⟨y,o,_⟩:=h.sl i (A[i]) (Ap m);exact⟨x,by rw[Dt];rw[qX rfl,qX (AG.mp o).1],l⟩
   ·cases hb
  ·rw[Aa c]at hb ⊢
   exact h.sl j b hb⟩
inductive Wk:List Sl->List Sl->Prop where
 | nil:Wk [] []
 | same {a:Sl} {A B:List Sl}:Wk A B->Wk (a :: A) (a :: B)
 | drop {a:Sl} {A B:List Sl}:Wk A B->Wk (a :: A) (.u :: B)
 | less {o:Ob} {A B:List Sl}:Wk A B->Wk (.y o :: A) (.z o :: B)
theorem Wk.at:∀{A B:List Sl},Wk A B->∀(i:Nat) (b:Sl),B[i]?=some b->∃a,A[i]?=some a/\(b=.u∨b=a∨∃o,a=.y o/\b=.z o)
 | _,_,.nil,i,b,h=>by simp at h
 | _,_,.same w,0,b,h=>by cases h;exact⟨_,rfl,.inr (.inl rfl)⟩
 | _,_,.less w,0,b,h=>by cases h;exact⟨_,rfl,.inr (.inr ⟨_,rfl,rfl⟩)⟩
 | _,_,.less w,i+1,b,h=>Wk.at w i b h
 | _,_,.drop w,0,b,h=>by cases h;exact⟨_,rfl,.inl rfl⟩
 | _,_,.same w,i+1,b,h=>Wk.at w i b h
 | _,_,.drop w,i+1,b,h=>Wk.at w i b h
theorem Wk.refl:∀A:List Sl,Wk A A
 | []=>.nil
 | _ :: A=>.same (Wk.refl A)
def Vs.weak(h:Vs S0 A e F S)(w:Wk A B):Vs S0 B e F S:=⟨h.kp,h.fz,h.ow,h.hi,λi b hb=>by
 obtain⟨a,s,C⟩:=w.at i b hb;obtain⟨x,l,m⟩:=h.sl i a s
 rcases C with rfl | rfl | ⟨o,rfl,rfl⟩
 ·exact⟨x,l,trivial⟩
 ·exact⟨x,l,m⟩
 ·obtain⟨n,E,G,_⟩:=m
  exact⟨x,l,n,E,G⟩⟩
def Sl.oth(i:Nat):Sl->Bool
 | .w k _=>!(Nat.beq k i)
 | _=>true
def i0(h:((A.set i .u).all (Sl.oth i))=true)(m:j≠i)(s:A[j]?=some (.w k o)):k≠i:=by
 have C:(A.set i .u)[j]?=some (.w k o):=by rw[Aa (CF m)];exact s
 have:=E4.mp h _ (Bt C);intro e;subst e;have l:(!(Nat.beq k k))=true:=this;rw[Nat.beq_refl]at l;cases l
def Vs.put(h:Vs S0 A e F S)(I:((A.set i .u).all (Sl.oth i))=true)(Q:A[i]?=some (.w i o))(J:e[i]?=some (some (.ref n)))(s:F n=.ow i):Vs S0 (A.set i (.w i o')) e F (S.set n o'):=by
 have G:=h.ow n i s;refine⟨h.kp.set G.1 o',λk q C=>?_,λk j q=>by rw[Dw];exact h.ow k j q,λk H=>h.hi k (by rw[Dw]at H;exact H),λj b hb=>?_⟩
 ·have:n≠k:=λc=>by subst c;rw[s]at C;cases C
  rw[Aa this];exact h.fz k q C
 ·by_cases c:i=j
  ·subst c
   rw[Dt]at hb;rw[qX rfl]at hb;split at hb
   ·cases hb
    exact⟨_,J,n,rfl,s,by rw[Dt];rw[qX rfl,qX G.2]⟩
   ·cases hb
  ·rw[Aa c]at hb
   obtain⟨x,L,l⟩:=h.sl j b hb;refine⟨x,L,?_⟩
   cases b with
   | u=>trivial
   | v d=>exact l
   | z q=>exact l
   | y q=>exact l
   | q P=>exact l
   | w k q=>
    obtain⟨m,N,E,O⟩:=l;refine⟨m,N,E,?_⟩
    have:n≠m:=λz=>by
     subst z;rw[s]at E;cases E;exact i0 I (λz=>c z.symm) hb rfl
    rw[Aa this];exact O
def Vs.freeze(h:Vs S0 A e F S)(O:((A.set i .u).all (Sl.oth i))=true)(Q:A[i]?=some (.w i o)):∃F',Vs S0 (A.set i (.y o)) e F' S/\Fle F F':=by
 obtain⟨x,R,n,rfl,I,N⟩:=h.sl i _ Q
 have g:∀k,k≠n->(if k=n then Cel.fz o else F k)=F k:=λk G=>qY G
 have H:Fle F (λk=>if k=n then Cel.fz o else F k):=λk q s=>by
  have:k≠n:=λc=>by subst c;rw[I]at s;cases s
  show(if k=n then Cel.fz o else F k)=_;rw[qY this];exact s
 refine⟨λk=>if k=n then .fz o else F k,⟨h.kp,λk q s=>?_,λk j q=>?_,λk G=>?_,λj b hb=>?_⟩,H⟩
 ·split at s
  ·rename_i c;cases s;subst c;exact N
  ·exact h.fz k q s
 ·split at q
  ·cases q
  ·exact h.ow k j q
 ·have:k≠n:=λc=>by subst c;exact zX (Bc N) (JH.mpr G)
  show(if k=n then Cel.fz o else F k)=_;rw[qY this];exact h.hi k G
 ·by_cases c:i=j
  ·subst c
   rw[Dt]at hb;rw[qX rfl]at hb;split at hb
   ·cases hb
    exact⟨_,R,n,rfl,qX rfl,(h.ow n i I).1⟩
   ·cases hb
  ·rw[Aa c]at hb
   obtain⟨x,T,E⟩:=h.sl j b hb;refine⟨x,T,?_⟩
   cases b with
   | u=>trivial
   | v d=>exact E
   | z q=>obtain⟨m,C,l⟩:=E;exact⟨m,C,H _ _ l⟩
   | y q=>obtain⟨m,C,l,J⟩:=E;exact⟨m,C,H _ _ l,J⟩
   | q P=>obtain⟨d,C,l⟩:=E;exact⟨d,C,λL U=>l L λn o q=>U n o (H n o q)⟩
   | w k q=>
    obtain⟨m,C,l,J⟩:=E;refine⟨m,C,?_,J⟩
    have:m≠n:=λz=>by
     subst z;rw[I]at l;cases l;exact i0 O (λz=>c z.symm) hb rfl
    show(if m=n then Cel.fz o else F m)=_;rw[qY this];exact l
def Vs.own(h:Vs S0 A e F S)(k:Keeps S S'){i n:Nat}{o:Ob}(C:S.length<=n)(ho:S'[n]?=some o):∃F',Vs S0 (A.set i (.w i o)) (e.set i (some (.ref n))) F' S'/\Fle F F':=by
 have g:=h.grow k;have s:=Bc ho
 have G:Fle F (λj=>if j=n then Cel.ow i else Q9 F S S' j):=λj q l=>by
  have:j≠n:=λc=>by subst c;exact zX (Bc (h.fz _ _ l)) (JH.mpr C)
  show(if j=n then Cel.ow i else _)=_;rw[qY this];exact h.fle S' _ _ l
 refine⟨λj=>if j=n then .ow i else Q9 F S S' j,(Vs.set (a:=.w i o) (x:=some (.ref n)) ⟨g.kp,λj q l=>?_,λj q l=>?_,λj H=>?_,λj b hb=>?_⟩ i ⟨n,rfl,qX rfl,ho⟩),G⟩
 ·split at l
  ·cases l
  ·exact g.fz j q l
 ·split at l
  ·rename_i c;subst c;exact⟨Aw h.kp.1 C,s⟩
  ·exact g.ow j q l
 ·have:j≠n:=λc=>by subst c;exact zX s (JH.mpr H)
  show(if j=n then Cel.ow i else _)=_;rw[qY this];exact g.hi j H
 ·obtain⟨x,J,L⟩:=h.sl j b hb
  refine⟨x,J,Sl.mono L G λm j q N I=>?_⟩;have E:=Bc I
  have:m≠n:=λc=>by subst c;exact zX E (JH.mpr C)
  refine⟨?_,by rw[k.2 m E];exact I⟩;show(if m=n then Cel.ow i else _)=_;rw[qY this,G4 E];exact N
abbrev Rk(α:Type):=α->Sto->D->Sto->Prop
def rV(enc:α->D):Rk α:=λv _ d _=>d=enc v
def rO(l:α->Ob):Rk α:=λv _ d S=>∃n,d=.ref n/\S[n]?=some (l v)
def rN(l:α->Ob):Rk α:=λv S0 d S=>∃n,d=.ref n/\S0.length<=n/\S[n]?=some (l v)
def VE(A:List Sl)(m:ME)(R:Rk α)(p:Option α):Prop:=∀v,p=some v->∀S0 e F S,Vs S0 A e F S->∃d S',m e S=.ok d S'/\Keeps S S'/\R v S d S'
def VB(A:List Sl)(t:MT)(p:Option Bool):Prop:=∀v,p=some v->∀S0 e F S,Vs S0 A e F S->∃S',t e S=.ok v S'/\Keeps S S'
def VL(A:List Sl)(ml:ML)(enc:α->D)(p:Option (List α)):Prop:=∀v,p=some v->∀S0 e F S,Vs S0 A e F S->∃S',ml e S=.ok (v.map enc) S'/\Keeps S S'
def VK(A:List Sl)(mi:MI)(enc:α->D)(p:Option (List α)):Prop:=∀v,p=some v->∀S0 e F S,Vs S0 A e F S->∃w S',mi e S=.ok w S'/\Keeps S S'/\∀l,Keeps S' l->w l=some (v.map enc)
def VI(A:List Sl)(mi:MI)(enc:α->D)(p:Option (List α)):Prop:=∀v,p=some v->∀S0 e F S,Vs S0 A e F S->∃w S',mi e S=.ok w S'/\Keeps S S'/\∀l m,Fle (Q9 F S S') l->(∀n o,l n=.fz o->m[n]?=some o)->w m=some (v.map enc)
def VI.k(h:VI A mi enc p):VK A mi enc p:=λv s S0 e F S l=>by
 obtain⟨w,S',C,m,E⟩:=h v s S0 e F S l;have g:=l.grow m;exact⟨w,S',C,m,λo k=>E _ o (g.fle o) (g.grow k).fz⟩
def eT(enc:α->D)(l:List α):D:=.tup (l.map enc)
def eP(a:α->D)(b:β->D)(x:α×β):D:=.tup [a x.1,b x.2]
def eP3(a:α->D)(b:β->D)(c:γ->D)(x:α×β×γ):D:=.tup [a x.1,b x.2.1,c x.2.2]
def eU(_:Unit):D:=.non
def eF(l:ZLi):D:=.fro (l.map D.int)
def oL(enc:α->D)(l:List α):Ob:=.lst (l.map enc)
def qm(h:VE A m R p)(i:∀v S d S',R v S d S'->R' v S d S'):VE A m R' p:=λv l S0 e F S o=>by
 obtain⟨d,S',s,C,E⟩:=h v l S0 e F S o;exact⟨d,S',s,C,i _ _ _ _ E⟩
def HN(h:VE A m (rN l) p):VE A m (rO l) p:=qm h λv S d S' ⟨n,o,_,s⟩=>⟨n,o,s⟩
def AM(h:A[i]?=some (.v (enc v))):VE A (AD i) (rV enc) (some v):=λ_ l S0 e F S m=>by
 cases l;obtain⟨x,o,s⟩:=m.sl i _ h;cases s;exact⟨_,S,by unfold AD;rw[o],Keeps.refl S,rfl⟩
def DK(h:A[i]?=some (.z (m v))):VE A (AD i) (rO m) (some v):=λ_ o S0 e F S l=>by
 cases o;obtain⟨x,s,n,rfl,C⟩:=l.sl i _ h;exact⟨_,S,by unfold AD;rw[s],Keeps.refl S,n,rfl,l.fz _ _ C⟩
def Dk(h:A[i]?=some (.y (m v))):VE A (AD i) (rO m) (some v):=λ_ o S0 e F S l=>by
 cases o;obtain⟨x,s,n,rfl,C,_⟩:=l.sl i _ h;exact⟨_,S,by unfold AD;rw[s],Keeps.refl S,n,rfl,l.fz _ _ C⟩
def OJ(h:A[i]?=some (.w k (l v))):VE A (AD i) (rO l) (some v):=λ_ m S0 e F S o=>by
 cases m;obtain⟨x,s,n,rfl,E,C⟩:=o.sl i _ h;exact⟨_,S,by unfold AD;rw[s],Keeps.refl S,n,rfl,C⟩
def Br(h:d=enc v):VE A (mC d) (rV enc) (some v):=λ_ l S0 e F S m=>by
 cases l;exact⟨d,S,rfl,Keeps.refl S,h⟩
def BA(h:p.bind q=some v):∃x,p=some x/\q x=some v:=WB.mp h
def JQ{f:D->D->Sto->Res D}{a b:ME}{m:α->D}{eb:β->D}{o:γ->D}{s:Option α}{C:Option β}{g:α->β->Option γ}(I:VE A a (rV m) s)(hb:VE A b (rV eb) C)
  (J:∀x y z S,g x y=some z->f (m x) (eb y) S=.ok (o z) S):VE A (m2 f a b) (rV o) (s.bind λx=>C.bind λy=>g x y):=λv l S0 e F S E=>by
 obtain⟨x,L,l⟩:=BA l;obtain⟨y,N,O⟩:=BA l;obtain⟨d1,P,Q,G,rfl⟩:=I x L S0 e F S E;obtain⟨d2,H,R,T,rfl⟩:=hb y N S0 e _ P (E.grow G);exact⟨_,H,EN Q R (J x y v H O),G.trans T,rfl⟩
def Zt{f:D->D->Sto->Res D}{a b:ME}{m:α->D}{o:β->Ob}{s:γ->D}{C:Option α}{E:Option β}{g:α->β->Option γ}(J:VE A a (rV m) C)(hb:VE A b (rO o) E)
  (L:∀x y z S (n:Nat),S[n]?=some (o y)->g x y=some z->f (m x) (.ref n) S=.ok (s z) S):VE A (m2 f a b) (rV s) (C.bind λx=>E.bind λy=>g x y):=λv l S0 e F S G=>by
 obtain⟨x,N,l⟩:=BA l;obtain⟨y,O,P⟩:=BA l;obtain⟨d1,Q,R,H,rfl⟩:=J x N S0 e F S G;obtain⟨d2,I,T,U,n,rfl,X⟩:=hb y O S0 e _ Q (G.grow H);exact⟨_,I,EN R T (L x y v I n X P),H.trans U,rfl⟩
def Su{f:D->D->Sto->Res D}{a b:ME}{m:α->Ob}{eb:β->D}{o:γ->D}{s:Option α}{C:Option β}{g:α->β->Option γ}(J:VE A a (rO m) s)(hb:VE A b (rV eb) C)
  (L:∀x y z S (n:Nat),S[n]?=some (m x)->g x y=some z->f (.ref n) (eb y) S=.ok (o z) S):VE A (m2 f a b) (rV o) (s.bind λx=>C.bind λy=>g x y):=λv l S0 e F S E=>by
 obtain⟨x,N,l⟩:=BA l;obtain⟨y,O,P⟩:=BA l;obtain⟨d1,Q,R,G,n,rfl,T⟩:=J x N S0 e F S E;obtain⟨d2,H,U,I,rfl⟩:=hb y O S0 e _ Q (E.grow G);exact⟨_,H,EN R U (L x y v H n (I.at T) P),G.trans I,rfl⟩
def Ff(h:VE A m (rV D.bl) p):VB A (mB m) p:=λv l S0 e F S o=>by
 obtain⟨d,S',s,C,rfl⟩:=h v l S0 e F S o;exact⟨S',VM s,C⟩
def hZ(h:VE A m (rV D.bl) p):VB A (Gp m) p:=λv l S0 e F S o=>by
 obtain⟨d,S',s,C,rfl⟩:=h v l S0 e F S o;refine⟨S',?_,C⟩;unfold Gp;rw[s];rfl
def Gb:VB A G5 (some true):=λv l S0 e F S m=>by cases l;exact⟨S,rfl,Keeps.refl S⟩
def Zy(h:VB A t p):VB A (Qy t) (p.bind λb=>some (!b)):=λv l S0 e F S m=>by
 obtain⟨x,o,s⟩:=BA l;cases s;obtain⟨S',C,E⟩:=h x o S0 e F S m;exact⟨S',PL C,E⟩
def Sv(h:VB A t p)(E:VB A u q):VB A (PM t u) (p.bind λb=>if b=true then q else some false):=λv G S0 e F S m=>by
 obtain⟨x,H,o⟩:=BA G;obtain⟨s,C,l⟩:=h x H S0 e F S m
 cases x with
 | true=>
  obtain⟨I,J,L⟩:=E v o S0 e _ s (m.grow l);exact⟨I,(XT C).trans J,l.trans L⟩
 | false=>cases o;exact⟨s,dJ C,l⟩
def bx(h:VB A t p)(E:VB A u q):VB A (mOr t u) (p.bind λb=>if b=true then some true else q):=λv G S0 e F S m=>by
 obtain⟨x,H,o⟩:=BA G;obtain⟨s,C,l⟩:=h x H S0 e F S m
 cases x with
 | false=>
  obtain⟨I,J,L⟩:=E v o S0 e _ s (m.grow l);exact⟨I,(i5 C).trans J,l.trans L⟩
 | true=>cases o;exact⟨s,sK C,l⟩
def Zx(J:VB A t pt)(L:VE A a R N)(hb:VE A b R O)(G:∀v S S1 d S',S.length<=S1.length->R v S1 d S'->R v S d S'):VE A (Yk t a b) R (pt.bind λc=>if c=true then N else O):=λv P S0 e F S m=>by
 obtain⟨x,Q,H⟩:=BA P;obtain⟨S1,I,l⟩:=J x Q S0 e F S m
 cases x with
 | true=>
  obtain⟨d,o,s,C,E⟩:=L v H S0 e _ S1 (m.grow l);exact⟨d,o,(jj I).trans s,l.trans C,G _ _ _ _ _ l.1 E⟩
 | false=>
  obtain⟨d,o,s,C,E⟩:=hb v H S0 e _ S1 (m.grow l);exact⟨d,o,(jj I).trans s,l.trans C,G _ _ _ _ _ l.1 E⟩
def FH:∀(v:α) (S S1:Sto) (d:D) (S':Sto),S.length<=S1.length->rV enc v S1 d S'->rV enc v S d S':=λ_ _ _ _ _ _ h=>h
def JR:∀(v:α) (S S1:Sto) (d:D) (S':Sto),S.length<=S1.length->rN m v S1 d S'->rN m v S d S':=λ_ _ _ _ _ l ⟨n,o,s,C⟩=>⟨n,o,Aw l s,C⟩
inductive Fw(ρ σ:Type) where
 | rt (r:ρ) | nx (s:σ) | bk (s:σ) | ct (s:σ)
def VG(S0:Sto)(F:Fz)(S':Sto)(R:Rk ρ)(B:σ->List Sl)(g:Fl):Fw ρ σ->Prop
 | .nx s=>∃l m,g=.nx l/\Vs S0 (B s) l m S'/\Fle F m
 | .ct s=>∃l m,g=.ct l/\Vs S0 (B s) l m S'/\Fle F m
 | .bk s=>∃l m,g=.bk l/\Vs S0 (B s) l m S'/\Fle F m
 | .rt r=>∃d,g=.rt d/\R r S0 d S'/\Keeps S0 S'
def VS(A:List Sl)(b:MS)(R:Rk ρ)(p:Option (Fw ρ σ))(B:σ->List Sl):Prop:=∀f,p=some f->∀S0 e F S,Vs S0 A e F S->∃g S',b e S=.ok g S'/\VG S0 F S' R B g f
noncomputable def BO(p:Option (Fw ρ σ))(q:σ->Option (Fw ρ τ)):Option (Fw ρ τ):=match p with
 | some (.nx s)=>q s
 | some (.rt r)=>some (.rt r)
 | _=>none
def VG.up{S0:Sto}{F H:Fz}{S':Sto}{R:Rk ρ}{B:σ->List Sl}{g:Fl}{f:Fw ρ σ}(l:Fle F H)(h:VG S0 H S' R B g f):VG S0 F S' R B g f:=by
 cases f with
 | rt r=>exact h
 | nx s=>obtain⟨m,o,C,E,G⟩:=h;exact⟨m,o,C,E,l.trans G⟩
 | bk s=>obtain⟨m,o,C,E,G⟩:=h;exact⟨m,o,C,E,l.trans G⟩
 | ct s=>obtain⟨m,o,C,E,G⟩:=h;exact⟨m,o,C,E,l.trans G⟩
def BG{a b:MS}{R:Rk ρ}{p:Option (Fw ρ σ)}{q:σ->Option (Fw ρ τ)}{B:σ->List Sl}{C:τ->List Sl}(H:VS A a R p B)(hb:∀s,VS (B s) b R (q s) C):VS A (BP a b) R (BO p q) C:=λf m S0 e F S I=>by
 cases p with
 | none=>cases m
 | some w=>
  obtain⟨g,E,G,l⟩:=H _ rfl S0 e F S I
  cases w with
  | nx s=>
   obtain⟨J,L,rfl,l,o⟩:=l;obtain⟨N,O,P,Q⟩:=hb s f m S0 J L E l;exact⟨N,O,(CC G).trans P,Q.up o⟩
  | rt r=>
   cases m;obtain⟨d,rfl,l,o⟩:=l;exact⟨_,E,WX G,d,rfl,l,o⟩
  | bk s=>cases m
  | ct s=>cases m
def HM{R:Rk ρ}{B:σ->List Sl}{s:σ}(w:Wk A (B s)):VS A sNx R (some (.nx s)) B:=λf l S0 e F S m=>by
 cases l;exact⟨_,S,rfl,e,F,rfl,m.weak w,Fle.refl F⟩
noncomputable def EB(g:σ->τ)(p:Option (Fw ρ σ)):Option (Fw ρ τ):=match p with
 | some (.nx s)=>some (.nx (g s))
 | some (.rt r)=>some (.rt r)
 | some (.bk s)=>some (.bk (g s))
 | some (.ct s)=>some (.ct (g s))
 | none=>none
def DJ{b:MS}{R:Rk ρ}{p:Option (Fw ρ σ)}{g:σ->τ}{B:σ->List Sl}{C:τ->List Sl}(h:VS A b R p B)(w:∀s,Wk (B s) (C (g s))):VS A b R (EB g p) C:=λf m S0 e F S J=>by
 cases p with
 | none=>cases m
 | some x=>
  obtain⟨g,H,I,l⟩:=h _ rfl S0 e F S J
  cases x with
  | nx s=>cases m;obtain⟨o,E,rfl,l,G⟩:=l;exact⟨_,H,I,o,E,rfl,l.weak (w s),G⟩
  | rt r=>cases m;exact⟨_,H,I,l⟩
  | bk s=>cases m;obtain⟨o,E,rfl,l,G⟩:=l;exact⟨_,H,I,o,E,rfl,l.weak (w s),G⟩
  | ct s=>cases m;obtain⟨o,E,rfl,l,G⟩:=l;exact⟨_,H,I,o,E,rfl,l.weak (w s),G⟩
def DX(h:VE A m (rV enc) p):VS A (CY i m) R (p.bind λv=>some (.nx v)) (λv=>A.set i (.v (enc v))):=λf o S0 e F S l=>by
 obtain⟨v,s,C⟩:=BA o;cases C;obtain⟨d,S',E,G,rfl⟩:=h v s S0 e F S l;exact⟨_,S',Jk E,_,_,rfl,(l.grow G).set i rfl,l.fle S'⟩
def Ie(h:VE A m (rN o) p):VS A (CY i m) R (p.bind λv=>some (.nx v)) (λv=>A.set i (.y (o v))):=λf C S0 e F S l=>by
 obtain⟨v,E,G⟩:=BA C;cases G;obtain⟨d,S',H,I,n,rfl,s,J⟩:=h v E S0 e F S l;exact⟨_,S',Jk H,_,_,rfl,(l.grow I).set (a:=.y (o v)) i ⟨n,rfl,UK s J,Aw l.kp.1 s⟩,l.fle S'⟩
def JW(h:VE A m (rN o) p):VS A (CY i m) R (p.bind λv=>some (.nx v)) (λv=>A.set i (.w i (o v))):=λf s S0 e F S l=>by
 obtain⟨v,C,E⟩:=BA s;cases E;obtain⟨d,S',G,H,n,rfl,I,J⟩:=h v C S0 e F S l;obtain⟨L,N,O⟩:=l.own H (i:=i) I J;exact⟨_,S',Jk G,_,L,rfl,N,O⟩
def VY(h:A[j]?=some (.y o)):VS A (CY i (AD j)) R (some (.nx ())) (λ_:Unit=>A.set i (.y o)):=λf m S0 e F S l=>by
 cases m;obtain⟨x,s,n,rfl,C,E⟩:=l.sl j _ h;exact⟨_,S,Jk (d:=.ref n) (by unfold AD;rw[s]),_,F,rfl,l.set (a:=.y o) i ⟨n,rfl,C,E⟩,Fle.refl F⟩
def gq{b:MS}{R:Rk ρ}{p:Option (Fw ρ σ)}{B:σ->List Sl}{o:Ob}(i:Nat)(l:A[i]?=some (.w i o))(m:((A.set i .u).all (Sl.oth i))=true)(h:VS (A.set i (.y o)) b R p B):VS A b R p B:=λf s S0 e F S C=>by
 obtain⟨E,G,H⟩:=C.freeze m l;obtain⟨g,S',I,J⟩:=h f s S0 e E S G;exact⟨g,S',I,J.up H⟩
def E8{m:ME}{enc:ρ->D}{p:Option ρ}{B:σ->List Sl}(h:VE A m (rV enc) p):VS A (DP m) (rV enc) (p.bind λv=>some (.rt v)) B:=λf o S0 e F S l=>by
 obtain⟨v,s,C⟩:=BA o;cases C;obtain⟨d,S',E,G,rfl⟩:=h v s S0 e F S l;exact⟨_,S',Kv E,_,rfl,rfl,l.kp.trans G⟩
def GZ{m:ME}{o:ρ->Ob}{p:Option ρ}{B:σ->List Sl}(h:VE A m (rN o) p):VS A (DP m) (rN o) (p.bind λv=>some (.rt v)) B:=λf s S0 e F S l=>by
 obtain⟨v,C,E⟩:=BA s;cases E;obtain⟨d,S',G,H,n,rfl,I,J⟩:=h v C S0 e F S l;exact⟨_,S',Kv G,_,rfl,⟨n,rfl,Aw l.kp.1 I,J⟩,l.kp.trans H⟩
def SD{i:Nat}{m:ρ->Ob}{v:ρ}{B:σ->List Sl}{k:Nat}(h:A[i]?=some (.w k (m v))):VS A (DP (AD i)) (rN m) (some (.rt v)) B:=λf o S0 e F S l=>by
 cases o;obtain⟨x,s,n,rfl,C,E⟩:=l.sl i _ h;exact⟨_,S,Kv (d:=.ref n) (by unfold AD;rw[s]),_,rfl,⟨n,rfl,(l.ow _ _ C).1,E⟩,l.kp⟩
def bj{i:Nat}{m:ρ->Ob}{v:ρ}{B:σ->List Sl}(h:A[i]?=some (.y (m v))):VS A (DP (AD i)) (rN m) (some (.rt v)) B:=λf o S0 e F S l=>by
 cases o;obtain⟨x,s,n,rfl,C,E⟩:=l.sl i _ h;exact⟨_,S,Kv (d:=.ref n) (by unfold AD;rw[s]),_,rfl,⟨n,rfl,E,l.fz _ _ C⟩,l.kp⟩
def Gk{t:MT}{a b:MS}{R:Rk ρ}{pt:Option Bool}{p q:Option (Fw ρ σ)}{B:σ->List Sl}(I:VB A t pt)(J:VS A a R p B)(hb:VS A b R q B):VS A (sIf t a b) R (pt.bind λc=>if c=true then p else q) B:=λf L S0 e F S l=>by
 obtain⟨c,N,E⟩:=BA L;obtain⟨m,G,H⟩:=I c N S0 e F S l
 cases c with
 | true=>
  obtain⟨g,o,s,C⟩:=J f E S0 e _ m (l.grow H);exact⟨g,o,(Gn G).trans s,C.up (l.fle m)⟩
 | false=>
  obtain⟨g,o,s,C⟩:=hb f E S0 e _ m (l.grow H);exact⟨g,o,(Gn G).trans s,C.up (l.fle m)⟩
def bH(l:List α)(x:α):Option (List α):=if l.length < 1000000 then some (l++[x])else none
def Q7(l k:List α):Option (List α):=if l.length+k.length<=1000000 then some (l++k)else none
def aZ(h:n < 1000000):n < sizeLine:=AV h (by decide)
def jY(h:n<=1000000):n<=sizeLine:=Aw h (by decide)
def Zr(hi:A[i]?=some (.w i (oL enc l)))(h:VE A m (rV enc) p)(J:((A.set i .u).all (Sl.oth i))=true) :
  VS A (Js (Tr (AD i) m)) R (p.bind λv=>(bH l v).bind λs=>some (.nx s)) (λs=>A.set i (.w i (oL enc s))):=λf L S0 e F S C=>by
 obtain⟨v,N,o⟩:=BA L;obtain⟨s,o,O⟩:=BA o;cases O;unfold bH at o;split at o
 ·rename_i P
  cases o;obtain⟨x,G,n,rfl,Q,E⟩:=C.sl i _ hi;obtain⟨d,S',T,H,rfl⟩:=h v N S0 e F S C;have U:=C.grow H;have I:=bG (mo:=AD i) (e:=e) (S:=S) (S1:=S) (n:=n) (by unfold AD;rw[G]) E T (H.at E) (by rw[AF];exact aZ P);rw[show l.map enc++[enc v]=(l++[v]).map enc by simp]at I;exact⟨_,_,QN I,e,_,rfl,U.put J hi G (by rw[G4 (Bc E)];exact Q),C.fle S'⟩
 ·cases o
def qW(hi:A[i]?=some (.w i (oL enc l)))(h:VE A m (rN (oL enc)) p)(J:((A.set i .u).all (Sl.oth i))=true) :
  VS A (Js (QB (AD i) m)) R (p.bind λv=>(Q7 l v).bind λs=>some (.nx s)) (λs=>A.set i (.w i (oL enc s))):=λf L S0 e F S C=>by
 obtain⟨v,N,o⟩:=BA L;obtain⟨s,o,O⟩:=BA o;cases O;unfold Q7 at o;split at o
 ·rename_i P
  cases o;obtain⟨x,G,n,rfl,Q,E⟩:=C.sl i _ hi;obtain⟨d,S',T,H,k,rfl,U,X⟩:=h v N S0 e F S C;have Y:=C.grow H;have I:=fQ (mo:=AD i) (e:=e) (S:=S) (S1:=S) (n:=n) (by unfold AD;rw[G]) E T (H.at E) X (λc=>by subst c;exact zX (Bc E) (JH.mpr U)) (by rw[AF,AF];exact jY P);rw[<-Bv]at I;exact⟨_,_,QN I,e,_,rfl,Y.put J hi G (by rw[G4 (Bc E)];exact Q),C.fle S'⟩
 ·cases o
def lz(h:VE A m Rm p):VS A (Js m) R (p.bind λ_=>some (.nx ())) (λ_:Unit=>A):=λf o S0 e F S l=>by
 obtain⟨v,s,C⟩:=BA o;cases C;obtain⟨d,S',E,G,_⟩:=h v s S0 e F S l;exact⟨_,S',QN E,e,_,rfl,l.grow G,l.fle S'⟩
def Qb(hi:A[i]?=some (.v (D.int x)))(h:VE A m (rV D.int) p):VS A (TW i g m) R (p.bind λy=>some (.nx (g x y))) (λz=>A.set i (.v (D.int z))):=λf o S0 e F S l=>by
 obtain⟨v,s,C⟩:=BA o;cases C;obtain⟨d,S',E,G,rfl⟩:=h v s S0 e F S l;obtain⟨y,H,I⟩:=l.sl i _ hi;cases I;refine⟨_,S',?_,_,_,rfl,(l.grow G).set (a:=.v (D.int (g x v))) i rfl,l.fle S'⟩;unfold TW;rw[H];dsimp only;rw[E];rfl
def VT(g:MG)(enc:α->D)(t:α->List Sl->List Sl):Prop:=∀x S0 A e F S,Vs S0 A e F S->∃l,g (enc x) e S=.ok l S/\Vs S0 (t x A) l F S
def Er:VT (tgN i) enc (λx A=>A.set i (.v (enc x))):=λx S0 A e F S l=>⟨_,rfl,l.set (a:=.v (enc x)) i rfl⟩
def lw:VT (M3 2 (Ek (tgN i) (Ek (tgN j) NW))) (eP a b) (λx A=>(A.set i (.v (a x.1))).set j (.v (b x.2))):=λx S0 A e F S l=>⟨_,rfl,(l.set (a:=.v (a x.1)) i rfl).set (a:=.v (b x.2)) j rfl⟩
def Fh:List α->σ->(σ->α->Option (Fw ρ σ))->Option (Fw ρ σ)
 | [],s,_=>some (.nx s)
 | x :: l,s,q=>match q s x with
  | some (.nx m)=>Fh l m q
  | some (.ct m)=>Fh l m q
  | some (.bk m)=>some (.nx m)
  | some (.rt r)=>some (.rt r)
  | none=>none
def ly{enc:α->D}{g:MG}{t:α->List Sl->List Sl}{b:MS}{R:Rk ρ}{q:σ->α->Option (Fw ρ σ)}{B:σ->List Sl}(hg:VT g enc t)(hb:∀s x,VS (t x (B s)) b R (q s x) B){w:RF}{S0:Sto}{Z:Fz}{m:List α}
  (hw:∀P yY,Fle Z P->(∀n o,P n=.fz o->yY[n]?=some o)->w yY=some (m.map enc)):∀(l:List α) (k:Nat),m.drop k=l->∀(s:σ) (f:Fw ρ σ),Fh l s q=some f->∀e F S,Vs S0 (B s) e F S->Fle Z F->∃h S',NB w g b (l.length) k e S=.ok h S'/\VG S0 Z S' R B h f:=by
 intro l
 induction l with
 | nil=>
  intro k U s f E e F S Q G;cases E
  have:m.length<=k:=by
   have:=congrArg JO U;rw[lF,FY]at this
   lia
  refine⟨_,S,?_,e,F,rfl,Q,G⟩;unfold NB;rw[hw F S G Q.fz];dsimp only;rw[Bo (by rw[AF];exact this)]
 | cons x l ih=>
  intro k U s f E e F S Q G
  have hx:m[k]?=some x:=by
   have:=congrArg (λz=>z[0]?) U;rw[KS]at this;simpa using this
  have yw:m.drop (k+1)=l:=by
   have H:m.drop (k+1)=(m.drop k).drop 1:=by rw[VR]
   exact H.trans (congrArg (List.drop 1) U)
  obtain⟨H,g1,X⟩:=hg x S0 _ e F S Q
  have run:∀h S',b H S=.ok h S'->NB w g b ((x :: l).length) k e S=(match h with
    | .nx C=>NB w g b l.length (k+1) C S'
    | .ct C=>NB w g b l.length (k+1) C S'
    | .bk C=>.ok (.nx C) S'
    | .rt d=>.ok (.rt d) S'
    | .ex c C=>.ok (.ex c C) S'):=λh S' xn=>by
   show NB w g b (l.length+1) k e S=_
   conv=>lhs;unfold NB
   rw[hw F S G Q.fz];dsimp only;rw[Ac,hx];dsimp only[uT];rw[g1];dsimp only[Res.bind];rw[xn]
   all_goals (cases h <;> rfl)
  unfold Fh at E;split at E
  ·rename_i Y I
   obtain⟨h,J,L,C,T,rfl,N,O⟩:=hb s x _ I S0 H F S X;rw[run _ _ L];exact ih (k+1) yw Y f E C T J N (G.trans O)
  ·rename_i Y I
   obtain⟨h,J,L,C,T,rfl,N,O⟩:=hb s x _ I S0 H F S X;rw[run _ _ L];exact ih (k+1) yw Y f E C T J N (G.trans O)
  ·rename_i Y I
   cases E;obtain⟨h,J,L,C,T,rfl,N,O⟩:=hb s x _ I S0 H F S X;rw[run _ _ L];exact⟨_,J,rfl,C,T,rfl,N,G.trans O⟩
  ·rename_i r I
   cases E;obtain⟨h,J,L,d,rfl,N,O⟩:=hb s x _ I S0 H F S X;rw[run _ _ L];exact⟨_,J,rfl,d,rfl,N,O⟩
  ·cases E
def F9{enc:α->D}{mi:MI}{g:MG}{t:α->List Sl->List Sl}{b:MS}{R:Rk ρ}{p:Option (List α)}{q:σ->α->Option (Fw ρ σ)}{B:σ->List Sl}{s0:σ}(hi:VI A mi enc p)(G:VT g enc t)(w0:Wk A (B s0))(hb:∀s x,VS (t x (B s)) b R (q s x) B) :
  VS A (G0 mi g b) R (p.bind λl=>Fh l s0 q) B:=λf H S0 e F S C=>by
 obtain⟨l,I,J⟩:=BA H;obtain⟨w,o,L,N,E⟩:=hi l I S0 e F S C;have m:=C.grow N
 have O:EG w o=l.length:=by unfold EG;rw[E _ o (Fle.refl _) m.fz];exact AF _
 obtain⟨h,P,Q,T⟩:=ly G hb E l 0 rfl s0 f J e _ o (m.weak w0) (Fle.refl _);refine⟨h,P,?_,T.up (C.fle o)⟩;rw[Ky L,O];exact Q
noncomputable def UR(c:α->Option Bool)(m:α->Option β):List α->Option (List β)
 | []=>some []
 | x :: l=>(c x).bind λb=>if b=true then(m x).bind λy=>(UR c m l).bind λo=>some (y :: o)else UR c m l
def En(l:List α)(c:α->Option Bool)(m:α->Option β):Option (List β):=if l.length<=1000000 then UR c m l else none
def gr{enc:α->D}{eb:β->D}{g:MG}{P:List (Option D)->Prop}{T:α->List Sl}{c:MT}{m:ME}{Z:α->Option Bool}{pm:α->Option β}
  (hg:∀x S0 e F S s,P s->Vs S0 A e F S->∃G,g (enc x) (s++e) S=.ok (G++e) S/\P G/\Vs S0 (T x) (G++e) F S)
  (hc:∀x,VB (T x) c (Z x)) (hm:∀x,VE (T x) m (rV eb) (pm x)) {w:RF} {S0:Sto} {e:Lo} {o:List α} {S1:Sto} (hf:o.length<=1000000) (hw:∀yY,Keeps S1 yY->w yY=some (o.map enc)) :
  ∀(l:List α) (k:Nat),o.drop k=l->∀(r:List β),UR Z pm l=some r->∀s F S C,P s->Vs S0 A e F S->Keeps S1 S->C.length<=k->∃S',HH w g c m l.length k (s++e) S C=.ok (C++r.map eb) S'/\Keeps S S':=by
 intro l
 induction l with
 | nil=>
  intro k I r J s F S C hp N E ha;cases J
  have:o.length<=k:=by
   have:=congrArg JO I;rw[lF,FY]at this
   lia
  refine⟨S,?_,Keeps.refl S⟩;unfold HH;rw[hw S E];dsimp only;rw[Bo (by rw[AF];exact this),NH,Bh]
 | cons x l ih=>
  intro k I r J s F S C hp N E ha
  have hx:o[k]?=some x:=by
   have:=congrArg (λz=>z[0]?) I;rw[KS]at this;simpa using this
  have yw:o.drop (k+1)=l:=by
   have e1:o.drop (k+1)=(o.drop k).drop 1:=by rw[VR]
   exact e1.trans (congrArg (List.drop 1) I)
  have O:k < o.length:=(AG.mp hx).1;obtain⟨G,g1,g2,g3⟩:=hg x S0 e F S s hp N;unfold UR at J;obtain⟨b,h1,L⟩:=BA J;obtain⟨S2,h3,H⟩:=hc x b h1 S0 _ F S g3;have yj:=N.grow H
  show ∃S',HH w g c m (l.length+1) k (s++e) S C=_/\_
  conv=>arg 1;ext S';arg 1;lhs;unfold HH
  rw[hw S E];dsimp only;rw[Ac,hx];dsimp only[uT];rw[qX (Ay ha (aZ (AV O hf))),g1];dsimp only[okR,Res.bind];rw[h3];dsimp only[okR,Res.bind]
  cases b with
  | true=>
   rw[qX rfl]at L ⊢;obtain⟨y,h5,h6⟩:=BA L;obtain⟨ys,Q,h7⟩:=BA h6;cases h7;obtain⟨d,S3,h8,R,rfl⟩:=hm x y h5 S0 _ _ S2 (g3.grow H);rw[h8];obtain⟨U,X,Y⟩:=ih (k+1) yw ys Q G _ S3 (C++[eb y]) g2 (yj.grow R) (E.trans (H.trans R)) (by rw[Ak,BU];lia);refine⟨U,?_,(H.trans R).trans Y⟩;show HH w g c m l.length (k+1) (G++e) S3 (C++[eb y])=_;rw[X,Bw];rfl
  | false=>
   rw[qY AH]at L ⊢;obtain⟨U,X,Y⟩:=ih (k+1) yw r L G _ S2 C g2 yj (E.trans H) (by lia);exact⟨U,X,H.trans Y⟩
def mD{enc:α->D}{eb:β->D}{n:Nat}{mi:MI}{g:MG}{P:List (Option D)->Prop}{T:α->List Sl}{c:MT}{m:ME}{p:Option (List α)}{G:α->Option Bool}{H:α->Option β}(hi:VK A mi enc p)(N:P (Be n none))
  (O:∀x S0 e F S o,P o->Vs S0 A e F S->∃C,g (enc x) (o++e) S=.ok (C++e) S/\P C/\Vs S0 (T x) (C++e) F S)
  (Q:∀x,VB (T x) c (G x)) (R:∀x,VE (T x) m (rV eb) (H x)):VL A (Ef n mi g c m) eb (p.bind λl=>En l G H):=λr U S0 e F S I=>by
 obtain⟨l,X,s⟩:=BA U;obtain⟨w,E,Y,J,L⟩:=hi l X S0 e F S I;unfold En at s;split at s
 ·rename_i Z
  have zF:=I.grow J;obtain⟨S2,h6,h7⟩:=gr O Q R Z L l 0 rfl r s _ _ E [] N zF (Keeps.refl _) (AO _);refine⟨S2,?_,J.trans h7⟩;rw[XI Y,show EG w E=l.length by unfold EG;rw[L E (Keeps.refl _)];exact AF _];exact h6
 ·cases s
def DR{enc:α->D}{eb:β->D}{mi:MI}{c:MT}{m:ME}{p:Option (List α)}{s:α->Option Bool}{C:α->Option β}(hi:VK A mi enc p)(E:∀x,VB (.v (enc x) :: A) c (s x))(G:∀x,VE (.v (enc x) :: A) m (rV eb) (C x)) :
  VL A (Ef 1 mi (tgN 0) c m) eb (p.bind λl=>En l s C):=
 mD (P:=λo=>∃z,o=[z]) hi ⟨none,rfl⟩ (λx S0 e F S o H I=>by
  obtain⟨z,rfl⟩:=H
  exact⟨[some (enc x)],rfl,⟨_,rfl⟩,I.cons (a:=.v (enc x)) rfl⟩) E G
def Cy(h:VL A ml enc p):VE A (Ee ml) (rN (oL enc)) p:=λv m S0 e F S o=>by
 obtain⟨S',s,l⟩:=h v m S0 e F S o;exact⟨_,_,aQ s,l.trans (Keeps.app _ _),_,rfl,l.1,E2 _ _⟩
inductive Ar where
 | v (d:D) | z (o:Ob) | q (P:(Nat->Option Ob)->D->Prop)
def Ar.ok(S:Sto):Ar->D->Prop
 | .v d,x=>x=d
 | .z o,x=>∃n,x=.ref n/\S[n]?=some o
 | .q P,x=>∀L:Nat->Option Ob,(∀n o,S[n]?=some o->L n=some o)->P L x
def Ar.sl:Ar->Sl
 | .v d=>.v d
 | .z o=>.z o
 | .q P=>.q P
def Kj(S:Sto):List Ar->List D->Prop
 | [],[]=>True
 | a :: as,d :: l=>a.ok S d/\Kj S as l
 | _,_=>False
theorem Kj.len:∀{as:List Ar} {ds:List D},Kj S as ds->ds.length=as.length
 | [],[],_=>rfl
 | _ :: as,_ :: ds,h=>by rw[Aj,Aj,Kj.len h.2]
 | [],_ :: _,h=>h.elim
 | _ :: _,[],h=>h.elim
theorem Kj.at:∀{as:List Ar} {ds:List D},Kj S as ds->∀(i:Nat) (a:Ar),as[i]?=some a->∃d,ds[i]?=some d/\a.ok S d
 | [],[],_,i,a,h=>by simp at h
 | b :: as,d :: ds,h,0,a,q=>by cases q;exact⟨d,rfl,h.1⟩
 | b :: as,d :: ds,h,i+1,a,q=>Kj.at h.2 i a q
 | [],_ :: _,h,_,_,_=>h.elim
 | _ :: _,[],h,_,_,_=>h.elim
def VF(f:List D->Sto->Res D)(as:List Ar)(R:Rk α)(p:Option α):Prop:=∀v,p=some v->∀S l,Kj S as l->∃d S',f l S=.ok d S'/\Keeps S S'/\R v S d S'
def VA(A:List Sl)(ml:ML)(p:Option γ)(m:γ->List Ar):Prop:=∀v,p=some v->∀S0 e F S,Vs S0 A e F S->∃l S',ml e S=.ok l S'/\Keeps S S'/\Kj S' (m v) l
def CP:VA A BJ (some ()) (λ_=>[]):=λv l S0 e F S m=>⟨[],S,rfl,Keeps.refl S,trivial⟩
def C2(h:VE A m (rV enc) p)(s:VA A ml q C):VA A (AL m ml) (p.bind λx=>q.bind λy=>some (x,y)) (λz=>.v (enc z.1) :: C z.2):=λv E S0 e F S l=>by
 obtain⟨x,G,H⟩:=BA E;obtain⟨y,I,J⟩:=BA H;cases J;obtain⟨d,L,N,o,rfl⟩:=h x G S0 e F S l;obtain⟨T,O,P,Q,R⟩:=s y I S0 e _ L (l.grow o);exact⟨_,O,CU N P,o.trans Q,rfl,R⟩
def Pt(h:VE A m (rO C) p)(E:VA A ml q G):VA A (AL m ml) (p.bind λx=>q.bind λy=>some (x,y)) (λz=>.z (C z.1) :: G z.2):=λv H S0 e F S l=>by
 obtain⟨x,I,J⟩:=BA H;obtain⟨y,L,N⟩:=BA J;cases N;obtain⟨d,O,P,o,n,rfl,Q⟩:=h x I S0 e F S l;obtain⟨X,R,T,s,U⟩:=E y L S0 e _ O (l.grow o);exact⟨_,R,CU P T,o.trans s,⟨n,rfl,s.at Q⟩,U⟩
def CJ(s:VA A ml p l)(C:∀z,VF f (l z) R (q z))(E:∀z,(l z).length=n)(G:∀v S S1 d S',S.length<=S1.length->R v S1 d S'->R v S d S'):VE A (CM n f ml) R (p.bind q):=λv H S0 e F S I=>by
 obtain⟨z,J,L⟩:=BA H;obtain⟨N,S1,O,m,o⟩:=s z J S0 e F S I;obtain⟨d,P,Q,T,U⟩:=C z v L S1 N o;exact⟨d,P,(Hr O (o.len.trans (E z))).trans Q,m.trans T,G _ _ _ _ _ m.1 U⟩
def Lh(S:Sto):Fz:=λn=>match S[n]? with
 | some o=>.fz o
 | none=>.no
def Vs.start(h:Kj S as ds):Vs S (as.map Ar.sl++Be (n - as.length) .u) (Dy n ds) (Lh S) S:=by
 refine⟨Keeps.refl S,λn o q=>?_,λn i q=>?_,λn E=>by unfold Lh;rw[Bo E],λi a l=>?_⟩
 ·unfold Lh at q
  split at q
  ·rename_i Q G;cases q;exact G
  ·cases q
 ·unfold Lh at q
  split at q <;> cases q
 ·unfold Dy
  by_cases c:i < as.length
  ·rw[Au (by rw[AF];exact c),Ac]at l
   rw[Au (by rw[AF,h.len];exact c),Ac]
   cases s:as[i]? with
   | none=>rw[s]at l;cases l
   | some b=>
    rw[s]at l;cases l;obtain⟨d,H,C⟩:=h.at i b s;refine⟨some d,by rw[H];rfl,?_⟩
    cases b with
    | v x=>exact congrArg some C
    | z o=>obtain⟨m,I,J⟩:=C;exact⟨m,congrArg some I,by unfold Lh;rw[J]⟩
    | q P=>exact⟨d,rfl,λL N=>C L λn o q=>N n o (by unfold Lh;rw[q])⟩
  ·rw[Bd (by rw[AF];lia)]at l
   rw[AF,Du]at l;split at l
   ·rename_i O
    cases l;refine⟨none,?_,trivial⟩;rw[Bd (by rw[AF,h.len];lia),AF,h.len,Du,qX O]
   ·cases l
def Gg(p:Option (Fw ρ σ)):Option ρ:=match p with
 | some (.rt r)=>some r
 | _=>none
def nw(p:Option (Fw Unit σ)):Option Unit:=match p with
 | some (.rt r)=>some ()
 | some (.nx _)=>some ()
 | _=>none
end
section
variable{S0 S S':Sto}{A:List Sl}{α β γ δ:Type}
section
variable{a b c:ME}{pa pb pc:Option Int}
def E9(l:VE A a (rV D.int) pa)(hb:VE A b (rV D.int) pb):VE A (m2 GN a b) (rV D.int) (pa.bind λx=>pb.bind λy=>some (x+y)):=JQ l hb λx y z S h=>by cases h;rfl
def Jj(l:VE A a (rV D.int) pa)(hb:VE A b (rV D.int) pb):VE A (m2 Qj a b) (rV D.int) (pa.bind λx=>pb.bind λy=>some (x - y)):=JQ l hb λx y z S h=>by cases h;rfl
def jJ(x y:Int):Option Int:=if bR x y then some (x * y)else none
def Yx(x y:Int):Option Int:=if k9 x y then some (x / y)else none
def Ye(x y:Int):Option Int:=if 0 < y then some (x % y)else none
def gu(l:VE A a (rV D.int) pa)(hb:VE A b (rV D.int) pb):VE A (m2 oJ a b) (rV D.int) (pa.bind λx=>pb.bind λy=>jJ x y):=JQ l hb λx y z S h=>by
 unfold jJ at h;split at h
 ·rename_i m;cases h;exact qX m
 ·cases h
def bu(l:VE A a (rV D.int) pa)(hb:VE A b (rV D.int) pb):VE A (m2 JT a b) (rV D.int) (pa.bind λx=>pb.bind λy=>Yx x y):=JQ l hb λx y z S h=>by
 unfold Yx at h;split at h
 ·rename_i m;cases h;exact qX m
 ·cases h
def Zv(l:VE A a (rV D.int) pa)(hb:VE A b (rV D.int) pb):VE A (m2 Nk a b) (rV D.int) (pa.bind λx=>pb.bind λy=>Ye x y):=JQ l hb λx y z S h=>by
 unfold Ye at h;split at h
 ·rename_i m;cases h;exact cM m
 ·cases h
def Gy(m:(decide (0 < k)&&decide (k<=1000000))=true)(o:VE A a (rV D.int) pa):VE A (m2 JT a (mC (.int k))) (rV D.int) (pa.bind λx=>some (x / k)):=λv s S0 e F S B=>by
 obtain⟨x,C,E⟩:=BA s;cases E;obtain⟨d,S',G,H,rfl⟩:=o x C S0 e F S B;have l:=Db _ _▸m;exact⟨_,S',EN G rfl (kI (of_decide_eq_true l.1) (of_decide_eq_true l.2)),H,rfl⟩
def Ig(l:decide (0 < k)=true)(m:VE A a (rV D.int) pa):VE A (m2 Nk a (mC (.int k))) (rV D.int) (pa.bind λx=>some (x % k)):=λv o S0 e F S s=>by
 obtain⟨x,B,C⟩:=BA o;cases C;obtain⟨d,S',E,G,rfl⟩:=m x B S0 e F S s;exact⟨_,S',EN E rfl (cM (of_decide_eq_true l)),G,rfl⟩
def WL(l:VE A a (rV D.int) pa):VE A (aW a) (rV D.int) (pa.bind λx=>some (-x)):=λv m S0 e F S o=>by
 obtain⟨x,s,B⟩:=BA m;cases B;obtain⟨d,S',C,E,rfl⟩:=l x s S0 e F S o;exact⟨_,S',by unfold aW;rw[C];rfl,E,rfl⟩
def gv(l:VE A a (rV D.int) pa)(hb:VE A b (rV D.int) pb):VE A (m2 ltD a b) (rV D.bl) (pa.bind λx=>pb.bind λy=>some (decide (x < y))):=JQ l hb λx y z S h=>by cases h;rfl
def Pr(l:VE A a (rV D.int) pa)(hb:VE A b (rV D.int) pb):VE A (m2 gtD a b) (rV D.bl) (pa.bind λx=>pb.bind λy=>some (decide (y < x))):=JQ l hb λx y z S h=>by cases h;rfl
def Ss{f g:D->D->Sto->Res D}{P Q:Int->Int->Bool}(L:∀x y S,f (.int x) (.int y) S=.ok (.bl (P x y)) S)(N:∀x y S,g (.int x) (.int y) S=.ok (.bl (Q x y)) S)(O:VE A a (rV D.int) pa)(hb:VE A b (rV D.int) pb)(R:VE A c (rV D.int) pc) :
  VE A (m3 f g a b c) (rV D.bl) (pa.bind λx=>pb.bind λy=>if P x y=true then pc.bind λz=>some (Q y z)else some false):=λv s S0 e F S B=>by
 obtain⟨x,T,s⟩:=BA s;obtain⟨y,U,l⟩:=BA s;obtain⟨d1,X,G,m,rfl⟩:=O x T S0 e F S B;obtain⟨d2,C,H,E,rfl⟩:=hb y U S0 e _ X (B.grow m);have o:=L x y C
 cases I:P x y with
 | false=>
  rw[I]at l o;cases l;exact⟨_,C,vq G H o,m.trans E,rfl⟩
 | true=>
  rw[I]at l o;rw[qX rfl]at l;obtain⟨w,Y,Z⟩:=BA l;cases Z;obtain⟨d3,J,q3,k3,rfl⟩:=R w Y S0 e _ C ((B.grow m).grow E);exact⟨_,J,qD G H o q3 (N y w J),(m.trans E).trans k3,rfl⟩
def wZ(x y:Int)(S:Sto):ltD (.int x) (.int y) S=.ok (.bl (decide (x < y))) S:=rfl
def Y4(x y:Int)(S:Sto):leD (.int x) (.int y) S=.ok (.bl (decide (x<=y))) S:=rfl
def bq(s:VE A a (rV D.int) pa)(hb:VE A b (rV D.int) pb):VE A (mQ P9 (AL a (AL b BJ))) (rV D.int) (pa.bind λx=>pb.bind λy=>some (if y < x then y else x)):=λv l S0 e F S m=>by
 obtain⟨x,B,l⟩:=BA l;obtain⟨y,C,E⟩:=BA l;cases E;obtain⟨d1,G,H,o,rfl⟩:=s x B S0 e F S m;obtain⟨d2,I,J,L,rfl⟩:=hb y C S0 e _ G (m.grow o);exact⟨_,I,nG (CU H (CU J rfl)) rfl,o.trans L,rfl⟩
def gy{pb}(hb:VE A b (rV D.bl) pb):VE A (jQ b) (rV D.int) (pb.bind λx=>some (if x=true then 1 else 0)):=λv l S0 e F S m=>by
 obtain⟨x,o,s⟩:=BA l;cases s;obtain⟨d,S',B,C,rfl⟩:=hb x o S0 e F S m;refine⟨_,S',?_,C,rfl⟩;unfold jQ;rw[B];rfl
def WO{pa pb}(B:VE A a (rV D.bl) pa)(hb:VE A b (rV D.bl) pb):VE A (Ts a b) (rV D.bl) (pa.bind λx=>if x=true then pb else some false):=λv C S0 e F S m=>by
 obtain⟨x,E,o⟩:=BA C;obtain⟨d,S',s,l,rfl⟩:=B x E S0 e F S m
 cases x with
 | true=>
  obtain⟨d,G,H,I,rfl⟩:=hb v o S0 e _ S' (m.grow l);exact⟨_,G,by unfold Ts;rw[s];exact H,l.trans I,rfl⟩
 | false=>cases o;exact⟨_,S',by unfold Ts;rw[s];rfl,l,rfl⟩
def ql{pa pb}(B:VE A a (rV D.bl) pa)(hb:VE A b (rV D.bl) pb):VE A (jO a b) (rV D.bl) (pa.bind λx=>if x=true then some true else pb):=λv C S0 e F S m=>by
 obtain⟨x,E,o⟩:=BA C;obtain⟨d,S',s,l,rfl⟩:=B x E S0 e F S m
 cases x with
 | false=>
  obtain⟨d,G,H,I,rfl⟩:=hb v o S0 e _ S' (m.grow l);exact⟨_,G,by unfold jO;rw[s];exact H,l.trans I,rfl⟩
 | true=>cases o;exact⟨_,S',by unfold jO;rw[s];rfl,l,rfl⟩
def mJ{pa}(l:VE A a (rV D.bl) pa):VE A (cP a) (rV D.bl) (pa.bind λx=>some (!x)):=λv m S0 e F S o=>by
 obtain⟨x,s,B⟩:=BA m;cases B;obtain⟨d,S',C,E,rfl⟩:=l x s S0 e F S o;exact⟨_,S',by unfold cP;rw[C];rfl,E,rfl⟩
end
def EqN(n:Nat)(enc:α->D)[DecidableEq α]:Prop:=∀x y,eqP n (enc x) (enc y)=some (decide (x=y))
def NL(enc:α->D):Prop:=∀x S,QC (enc x) S=none
def Co:EqN n D.int:=λx y=>by
 have:Ml (.int x) (.int y)=some (decide (x=y)):=rfl
 cases n <;> exact this
def RA:EqN n D.bl:=λx y=>by
 have:Ml (.bl x) (.bl y)=some (decide (x=y)):=by cases x <;> cases y <;> rfl
 cases n <;> exact this
def cw:EqN n D.str:=λx y=>by
 have:Ml (.str x) (.str y)=some (decide (x=y)):=rfl
 cases n <;> exact this
def Mj{n:Nat}{enc:α->D}[DecidableEq α](h:EqN n enc):EqN (n+1) (eT enc):=by
 have key:∀l k:List α,eqL (eqP n) (l.map enc) (k.map enc)=some (decide (l=k)):=by
  intro l
  induction l with
  | nil=>intro k;cases k <;> rfl
  | cons x l m=>
   intro k
   cases k with
   | nil=>rfl
   | cons y k=>
    rw[As,As];unfold eqL;rw[h x y,m k]
    by_cases c:x=y <;> by_cases d:l=k <;> simp[c,d]
 exact λl k=>key l k
def kM{n:Nat}{a:α->D}{b:β->D}[DecidableEq α][DecidableEq β](l:EqN n a)(hb:EqN n b):EqN (n+1) (eP a b):=λx y=>by
 show eqL (eqP n) [a x.1,b x.2] [a y.1,b y.2]=_;unfold eqL eqL eqL;rw[l,hb];obtain⟨m,o⟩:=x;obtain⟨y1,y2⟩:=y
 by_cases c:m=y1 <;> by_cases d:o=y2 <;> simp[c,d]
def IR:NL D.int:=λ_ _=>rfl
def jF:NL D.str:=λ_ _=>rfl
def jE:NL (eT enc):=λ_ _=>rfl
section
variable{a b:ME}{enc:α->D}[DecidableEq α]
def kO(h:EqN 8 enc)(n:NL enc)(neg:Bool)(x y:α)(S:Sto):eqD neg (enc x) (enc y) S=.ok (.bl (if neg then !decide (x=y)else decide (x=y))) S:=by
 unfold eqD eqB;rw[n x S,n y S];dsimp only;rw[h x y]
def IE(h:EqN 8 enc)(n:NL enc)(l:VE A a (rV enc) m)(hb:VE A b (rV enc) o):VE A (m2 (eqD false) a b) (rV D.bl) (m.bind λx=>o.bind λy=>some (decide (x=y))):=JQ l hb λx y z S q=>by cases q;exact kO h n false x y S
def uw(h:EqN 8 enc)(n:NL enc)(l:VE A a (rV enc) m)(hb:VE A b (rV enc) o):VE A (m2 (eqD true) a b) (rV D.bl) (m.bind λx=>o.bind λy=>some (!decide (x=y))):=JQ l hb λx y z S q=>by cases q;exact kO h n true x y S
theorem ZA(h:EqN 8 enc)(x:α):∀l:List α,Ot (enc x) (l.map enc)=some (decide (x∈l))
 | []=>by simp[Ot]
 | y :: l=>by
  rw[As];unfold Ot;rw[h y x,ZA h x l]
  by_cases c:y=x
  ·subst c;simp
  ·have:¬x=y:=λz=>c z.symm
   simp[c,this]
def tF(h:EqN 8 enc)(neg:Bool)(x:α){l:List α}{d:D}{S:Sto}(m:GD d S=some (l.map enc)):inA neg (enc x) d S=.ok (.bl (if neg then !decide (x∈l)else decide (x∈l))) S:=by
 show Jw (inD neg (enc x) d S) _=_
 have e:inD neg (enc x) d S=.ok (.bl (if neg then !decide (x∈l)else decide (x∈l))) S:=by
  unfold inD;rw[m];dsimp only;rw[ZA h]
 rw[e];rfl
def bp{pl:Option (List α)}(h:EqN 8 enc)(m:VE A a (rV enc) o)(hb:VE A b (rV (eT enc)) pl):VE A (m2 (inA true) a b) (rV D.bl) (o.bind λx=>pl.bind λl=>some (!decide (x∈l))):=JQ m hb λx l z S q=>by cases q;exact tF h true x rfl
def t6(h:EqN n enc):∀l k:List α,eqL (eqP n) (l.map enc) (k.map enc)=some (decide (l=k)):=by
 intro l
 induction l with
 | nil=>intro k;cases k <;> rfl
 | cons x l m=>
  intro k
  cases k with
  | nil=>rfl
  | cons y k=>
   rw[As,As];unfold eqL;rw[h x y,m k]
   by_cases c:x=y <;> by_cases d:l=k <;> simp[c,d]
def Vu(h:EqN 8 enc)(neg:Bool)(o:S[n]?=some (oL enc l))(s:S[m]?=some (oL enc k)):eqD neg (.ref n) (.ref m) S=.ok (.bl (if neg then !decide (l=k)else decide (l=k))) S:=by
 unfold eqD eqB;rw[Np o,Np s];dsimp only;rw[AF,AF]
 by_cases c:l.length=k.length
 ·rw[qX c,t6 h]
 ·rw[qY c,wY λz=>c (by rw[z])]
def pu{f:D->D->Sto->Res D}{o:β->Ob}{s:γ->Ob}{B:δ->D}{C:Option β}{E:Option γ}{g:β->γ->Option δ}(L:VE A a (rO o) C)(hb:VE A b (rO s) E)
  (N:∀x y z S (n m:Nat),S[n]?=some (o x)->S[m]?=some (s y)->g x y=some z->f (.ref n) (.ref m) S=.ok (B z) S):VE A (m2 f a b) (rV B) (C.bind λx=>E.bind λy=>g x y):=λv l S0 e F S G=>by
 obtain⟨x,O,l⟩:=BA l;obtain⟨y,P,Q⟩:=BA l;obtain⟨d1,R,T,H,n,rfl,U⟩:=L x O S0 e F S G;obtain⟨d2,I,X,J,m,rfl,Y⟩:=hb y P S0 e _ R (G.grow H);exact⟨_,I,EN T X (N x y v I n m (J.at U) Y Q),H.trans J,rfl⟩
def gz{l o:Option (List α)}(h:EqN 8 enc)(s:VE A a (rO (oL enc)) l)(hb:VE A b (rO (oL enc)) o):VE A (m2 (eqD false) a b) (rV D.bl) (l.bind λx=>o.bind λy=>some (decide (x=y))):=pu s hb λx y z S n m B C q=>by cases q;exact Vu h false B C
def Zu{l o:Option (List α)}(h:EqN 8 enc)(s:VE A a (rO (oL enc)) l)(hb:VE A b (rO (oL enc)) o):VE A (m2 (eqD true) a b) (rV D.bl) (l.bind λx=>o.bind λy=>some (!decide (x=y))):=pu s hb λx y z S n m B C q=>by cases q;exact Vu h true B C
end
section
variable{a b m:ME}
def pR(l:List α)(i:Int)(f:α->β):atI (l.map f) i=(atI l i).map f:=by
 unfold atI;rw[AF]
 cases ixN l.length i with
 | none=>rfl
 | some j=>show(l.map f)[j]?=(l[j]?).map f;rw[Ac]
def ai(o:GD d S=some (l.map enc))(h:atI l i=some x):ixA d (.int i) S=.ok (enc x) S:=by
 show Jw (ixD d (.int i) S) _=_
 have:ixD d (.int i) S=.ok (enc x) S:=by
  unfold ixD;rw[o];dsimp only;rw[pR,h];rfl
 rw[this];rfl
def Zw(o:VE A a (rV (eT enc)) pl)(hb:VE A b (rV D.int) pi):VE A (m2 ixA a b) (rV enc) (pl.bind λl=>pi.bind λi=>atI l i):=JQ o hb λl i z S q=>ai rfl q
def gx{pl}(o:VE A a (rV eF) pl)(hb:VE A b (rV D.int) pi):VE A (m2 ixA a b) (rV D.int) (pl.bind λl=>pi.bind λi=>atI l i):=JQ o hb λl i z S q=>ai rfl q
def IM(o:VE A a (rO (oL enc)) pl)(hb:VE A b (rV D.int) pi):VE A (m2 ixA a b) (rV enc) (pl.bind λl=>pi.bind λi=>atI l i):=Su o hb λl i z S n s q=>ai (HQ s) q
def qo(o:VE A a (rV (eP l s)) p):VE A (m2 ixA a (mC (.int 0))) (rV l) (p.bind λx=>some x.1):=λv B S0 e F S C=>by
 obtain⟨x,E,G⟩:=BA B;cases G;obtain⟨d,S',H,I,rfl⟩:=o x E S0 e F S C;exact⟨_,S',EN H rfl (cX (ds:=[l x.1,s x.2]) rfl (by decide) rfl),I,rfl⟩
def qj(o:VE A a (rV (eP s l)) p):VE A (m2 ixA a (mC (.int 1))) (rV l) (p.bind λx=>some x.2):=λv B S0 e F S C=>by
 obtain⟨x,E,G⟩:=BA B;cases G;obtain⟨d,S',H,I,rfl⟩:=o x E S0 e F S C;exact⟨_,S',EN H rfl (cX (ds:=[s x.1,l x.2]) rfl (by decide) rfl),I,rfl⟩
def br{pl}(o:VE A a (rV eF) pl):VE A (QA a) (rV D.int) (pl.bind λl=>some (l.length:Int)):=λv s S0 e F S B=>by
 obtain⟨l,C,E⟩:=BA s;cases E;obtain⟨d,S',G,H,rfl⟩:=o l C S0 e F S B;exact⟨_,S',(jV (ds:=l.map D.int) G rfl).trans (by rw[AF]),H,rfl⟩
def Pp(o:VE A a (rO (oL enc)) pl):VE A (QA a) (rV D.int) (pl.bind λl=>some (l.length:Int)):=λv s S0 e F S B=>by
 obtain⟨l,C,E⟩:=BA s;cases E;obtain⟨d,S',G,H,n,rfl,I⟩:=o l C S0 e F S B;exact⟨_,S',(jV (ds:=l.map enc) G (HQ I)).trans (by rw[AF]),H,rfl⟩
theorem Lb:∀ns:ZLi,JS (ns.map D.int)=some ns
 | []=>rfl
 | x :: ns=>by rw[As];unfold JS;rw[Lb ns];rfl
def Qd(o:VE A a (rO (oL enc)) pl):VE A (JL a) (rV (eT enc)) pl:=λl s S0 e F S B=>by
 obtain⟨d,S',C,E,n,rfl,G⟩:=o l s S0 e F S B;exact⟨_,S',Py C (HQ G),E,rfl⟩
def bo(o:VE A a (rO (oL enc)) pl):VL A (Uz a) enc pl:=λl s S0 e F S B=>by
 obtain⟨d,S',C,E,n,rfl,G⟩:=o l s S0 e F S B;exact⟨S',vG C (HQ G),E⟩
def l8(h:VL A ml enc pl):VL A (mN cT ml) enc pl:=λl o S0 e F S s=>by
 obtain⟨S',B,C⟩:=h l o S0 e F S s;exact⟨S',by unfold mN;rw[B];rfl,C⟩
theorem dE:∀l:List Bool,bA (l.map D.bl)=some l
 | []=>rfl
 | x :: l=>by rw[As];unfold bA;rw[dE l];rfl
def qq{pl}(h:VL A ml D.bl pl):VE A (mQ pS ml) (rV D.bl) (pl.bind λl=>some (l.all id)):=λv o S0 e F S s=>by
 obtain⟨l,B,C⟩:=BA o;cases C;obtain⟨S',E,G⟩:=h l B S0 e F S s;refine⟨_,S',nG E ?_,G,rfl⟩;unfold pS pM;rw[dE]
def Eu:VL A BJ enc (some []):=λv l S0 e F S o=>by cases l;exact⟨S,rfl,Keeps.refl S⟩
def FZ(h:VE A m (rV enc) p)(B:VL A ml enc pl):VL A (AL m ml) enc (p.bind λx=>pl.bind λl=>some (x :: l)):=λv C S0 e F S o=>by
 obtain⟨x,E,G⟩:=BA C;obtain⟨l,H,I⟩:=BA G;cases I;obtain⟨d,J,L,s,rfl⟩:=h x E S0 e F S o;obtain⟨N,O,P⟩:=B l H S0 e _ J (o.grow s);exact⟨N,CU L O,s.trans P⟩
def IV(l:List α):Option (List α):=if l.length<=1000000 then some l else none
def Ev(h:VL A ml enc pl):VL A (FC ml) enc (pl.bind IV):=λv s S0 e F S B=>by
 obtain⟨l,C,o⟩:=BA s;unfold IV at o;split at o
 ·rename_i E
  cases o;obtain⟨S',G,H⟩:=h _ C S0 e F S B;refine⟨S',?_,H⟩;unfold FC;rw[G];dsimp only[Res.bind];rw[qX (by rw[AF];exact jY E)]
 ·cases o
def O2(h:VL A ml enc pl):VE A (Hg ml) (rV (eT enc)) (pl.bind IV):=λv s S0 e F S B=>by
 obtain⟨l,C,o⟩:=BA s;unfold IV at o;split at o
 ·rename_i E
  cases o;obtain⟨S',G,H⟩:=h _ C S0 e F S B;refine⟨_,S',?_,H,rfl⟩;unfold Hg;rw[G];dsimp only[Res.bind];rw[qX (by rw[AF];exact jY E)];rfl
 ·cases o
def Lw(E:VE A a (rV o) G)(hb:VE A b (rV s) H):VE A (Hg (AL a (AL b BJ))) (rV (eP o s)) (G.bind λx=>H.bind λy=>some (x,y)):=λv l S0 e F S B=>by
 obtain⟨x,I,l⟩:=BA l;obtain⟨y,J,L⟩:=BA l;cases L;obtain⟨d1,N,O,C,rfl⟩:=E x I S0 e F S B;obtain⟨d2,P,Q,R,rfl⟩:=hb y J S0 e _ N (B.grow C);exact⟨_,P,S9 (ds:=[o x,s y]) (CU O (CU Q rfl)) (by simp),C.trans R,rfl⟩
def Xt(H:VE A a (rV B) I)(hb:VE A b (rV C) J)(L:VE A c (rV E) N):VE A (Hg (AL a (AL b (AL c BJ)))) (rV (eP3 B C E)) (I.bind λx=>J.bind λy=>N.bind λz=>some (x,y,z)):=λv l S0 e F S o=>by
 obtain⟨x,O,l⟩:=BA l;obtain⟨y,P,l⟩:=BA l;obtain⟨z,Q,R⟩:=BA l;cases R;obtain⟨d1,T,U,s,rfl⟩:=H x O S0 e F S o;obtain⟨d2,X,Y,G,rfl⟩:=hb y P S0 e _ T (o.grow s);obtain⟨d3,Z,q3,k3,rfl⟩:=L z Q S0 e _ X ((o.grow s).grow G);exact⟨_,Z,S9 (ds:=[B x,C y,E z]) (CU U (CU Y (CU q3 rfl))) (by simp),(s.trans G).trans k3,rfl⟩
def WN(o:VE A a (rV (eT enc)) pl)(hb:VE A b (rV (eT enc)) s):VE A (m2 GN a b) (rV (eT enc)) (pl.bind λl=>s.bind λk=>Q7 l k):=JQ o hb λl k z S q=>by
 unfold Q7 at q;split at q
 ·rename_i B
  cases q;unfold eT;rw[Bv];exact mV (by rw[AF,AF];exact jY B)
 ·cases q
def bv(H:VE A a (rO (oL enc)) pl)(hb:VE A b (rO (oL enc)) I):VE A (m2 GN a b) (rN (oL enc)) (pl.bind λl=>I.bind λk=>Q7 l k):=λv s S0 e F S E=>by
 obtain⟨x,J,s⟩:=BA s;obtain⟨y,L,o⟩:=BA s;obtain⟨d1,N,O,B,n,rfl,P⟩:=H x J S0 e F S E;obtain⟨d2,G,Q,C,m,rfl,R⟩:=hb y L S0 e _ N (E.grow B);unfold Q7 at o;split at o
 ·rename_i T
  cases o;refine⟨_,_,EN O Q (d:=.ref G.length) (S3:=G++[oL enc (x++y)]) ?_,(B.trans C).trans (Keeps.app _ _),_,rfl,(B.trans C).1,E2 _ _⟩;unfold GN;dsimp only;rw[C.at P,R];unfold oL;dsimp only;rw[qX (by rw[AF,AF];exact jY T),Bv]
 ·cases o
def NZ(l:List ZLi):Option (List ZLi):=if l.all (λr=>!r.isEmpty)=true then some (KY l)else none
theorem YN:∀l:List ZLi,l.all (λr=>!r.isEmpty)=true->Om (l.map Ng)=some l
 | [],_=>rfl
 | [] :: l,h=>by simp at h
 | (x :: r) :: l,h=>by
  rw[qR,Db]at h;show Om (.tup ((x :: r).map D.int) :: l.map Ng)=_;unfold Om;rw[Lb,YN l h.2]
def Xu{pl}(B:VE A a (rO (oL (eT D.int))) pl):VE A (FB a) (rN (oL (eT D.int))) (pl.bind NZ):=λv C S0 e F S E=>by
 obtain⟨l,G,o⟩:=BA C;obtain⟨d,S',H,s,n,rfl,I⟩:=B l G S0 e F S E;unfold NZ at o;split at o
 ·rename_i J
  cases o;refine⟨_,_,LR H (T9 I) (es:=(KY l).map Ng) ?_,s.trans (Keeps.app _ _),_,rfl,s.1,E2 _ _⟩
  cases l with
  | nil=>show some ((D3 []).map D.int)=some ((KY []).map Ng);rw[eD];unfold KY;rw[List.mergeSort_nil];rfl
  | cons x l=>
   unfold M4;rw[show JS (FX (eT D.int) (x :: l))=none from rfl,show Om (FX (eT D.int) (x :: l))=some (x :: l)from YN _ J]
 ·cases o
def Sq(o:VE A a (rV (eT enc)) pl):VI A (E1 a) enc pl:=λl s S0 e F S B=>by
 obtain⟨d,S',C,E,rfl⟩:=o l s S0 e F S B;exact⟨_,S',UB (xs:=l.map enc) C,E,λ_ _ _ _=>rfl⟩
def Sr(s:VE A a (rN (oL enc)) pl):VI A (E1 a) enc pl:=λl B S0 e F S C=>by
 obtain⟨d,S',E,G,n,rfl,H,o⟩:=s l B S0 e F S C;exact⟨_,S',Nu E o,G,λJ L I h=>Ea (h n _ (I _ _ (UK H o)))⟩
def Pn(h:A[i]?=some (.y (oL enc l))):VI A (E1 (AD i)) enc (some l):=λ_ C S0 e F S o=>by
 cases C;obtain⟨x,E,n,rfl,s,_⟩:=o.sl i _ h;have B:=o.fz _ _ s;exact⟨_,S,Nu (n:=n) (by unfold AD;rw[E]) B,Keeps.refl S,λH I G h=>Ea (h n _ (G _ _ (by rw[G4 (Bc B)];exact s)))⟩
noncomputable def DN(lo:Int)(n:Nat):ZLi:=(B1 n).map λi:Nat=>lo+i
def PD(j:Int):Option ZLi:=if -1000000<=j/\j<=1000000 then some (DN 0 j.toNat)else none
def YO(i j:Int):Option ZLi:=if -1000000<=i/\i<=1000000/\-1000000<=j/\j<=1000000 then some (DN i (j - i).toNat)else none
def iZ(lo:Int)(n:Nat):Ju lo n=(DN lo n).map D.int:=by
 unfold Ju DN;rw[BF];rfl
def Ew(B:VE A a (rV D.int) pi):VI A (iR1 (AL a BJ)) D.int (pi.bind PD):=λl C S0 e F S E=>by
 obtain⟨j,G,o⟩:=BA C;obtain⟨d,S',H,I,rfl⟩:=B j G S0 e F S E;unfold PD at o;split at o
 ·rename_i s
  cases o;exact⟨_,S',jm (j:=j) (CU H rfl) s.1 s.2,I,λ_ _ _ _=>congrArg some (iZ _ _)⟩
 ·cases o
def LQ(G:VE A a (rV D.int) pi)(hb:VE A b (rV D.int) pj):VI A (iR2 (AL a (AL b BJ))) D.int (pi.bind λi=>pj.bind λj=>YO i j):=λl B S0 e F S C=>by
 obtain⟨i,H,B⟩:=BA B;obtain⟨j,I,o⟩:=BA B;obtain⟨d,J,L,E,rfl⟩:=G i H S0 e F S C;obtain⟨d,N,O,P,rfl⟩:=hb j I S0 e _ J (C.grow E);unfold YO at o;split at o
 ·rename_i s
  cases o;exact⟨_,N,tH (i:=i) (j:=j) (CU L (CU O rfl)) s.1 s.2.1 s.2.2.1 s.2.2.2,E.trans P,λ_ _ _ _=>congrArg some (iZ _ _)⟩
 ·cases o
noncomputable def Dm(l:List α):List (Int×α):=l.zipIdx.map λx=>((x.2:Int),x.1)
def Vx(l:List α):UN (l.map enc)=(Dm l).map (eP D.int enc):=by
 unfold UN Dm;rw[List.zipIdx_map,BF,BF];rfl
def qZ(s:VE A a (rO (oL enc)) pl):VK A (cb a) enc (pl.bind λl=>some l.reverse):=λv B S0 e F S C=>by
 obtain⟨l,E,G⟩:=BA B;cases G;obtain⟨d,S',H,I,n,rfl,o⟩:=s l E S0 e F S C;refine⟨Xs (.ref n) (l.map enc).length,S',?_,I,λJ k=>?_⟩
 ·unfold cb
  rw[H];dsimp only[Res.bind];rw[Np o]
 ·unfold Xs
  rw[Np (k.at o)];dsimp only;rw[qX rfl,lE]
end
end
section
variable{α β ρ σ κ κ':Type}
def oDK(enc:α->D)(l:List (Int×α)):Ob:=.dK (l.map λx=>(DZ x.1,enc x.2))
def kP(x:Int×Int):List Key:=[DZ x.1,DZ x.2]
def oDP(enc:α->D)(l:List (ZPi×α)):Ob:=.dT (l.map λx=>(kP x.1,enc x.2))
def Ps[DecidableEq κ][DecidableEq κ']{m:κ->κ'}(o:∀x y,m x=m y->x=y)(f:α->β)(l:List (κ×α))(k:κ):An (l.map λx=>(m x.1,f x.2)) (m k)=(An l k).map f:=by
 unfold An
 induction l with
 | nil=>rfl
 | cons x l s=>
  rw[As,Cc,Cc]
  by_cases c:x.1=k
  ·rw[wX c,wX (show m x.1=m k by rw[c])]
   rfl
  ·rw[wY c,wY λz=>c (o _ _ z)]
   exact s
def P5[DecidableEq κ][DecidableEq κ']{m:κ->κ'}(s:∀x y,m x=m y->x=y)(f:α->β)(l:List (κ×α))(k:κ)(v:α):CK (l.map λx=>(m x.1,f x.2)) (m k) (f v)=(CK l k v).map λx=>(m x.1,f x.2):=by
 have any:((l.map λx=>(m x.1,f x.2)).any λo=>decide (o.1=m k))=l.any λo=>decide (o.1=k):=by
  rw[List.any_map]
  congr 1
  funext x
  exact decide_eq_decide.mpr ⟨s _ _,λz=>congrArg m z⟩
 unfold CK;rw[any];split
 ·rw[BF,BF]
  refine Ct λx _=>?_
  show(if m x.1=m k then(m x.1,f v)else(m x.1,f x.2))=_
  by_cases c:x.1=k
  ·show _=(λx:κ×α=>(m x.1,f x.2)) (if x.1=k then(x.1,v)else x)
   rw[qX c,qX (show m x.1=m k by rw[c])]
  ·show _=(λx:κ×α=>(m x.1,f x.2)) (if x.1=k then(x.1,v)else x)
   rw[qY c,qY λz=>c (s _ _ z)]
 ·rw[Bv]
  rfl
def SO(x y:Int)(h:(DZ x:Key)=DZ y):x=y:=by cases h;rfl
def jg(x y:Int×Int)(h:kP x=kP y):x=y:=by
 obtain⟨a,b⟩:=x;obtain⟨c,d⟩:=y;unfold kP at h;cases h;rfl
def cz{enc:α->D}{l:List (Int×α)}{n:Nat}{S:Sto}(h:S[n]?=some (oDK enc l))(k:Int):NC (.ref n) (.int k) S=some ((An l k).map enc):=by
 unfold NC;dsimp only;rw[h];show some (An _ (DZ k))=_;rw[Ps SO]
def ka{enc:α->D}{l:List (ZPi×α)}{n:Nat}{S:Sto}(h:S[n]?=some (oDP enc l))(k:Int×Int):NC (.ref n) (eP D.int D.int k) S=some ((An l k).map enc):=by
 unfold NC;dsimp only;rw[h];show some (An _ (kP k))=_;rw[Ps jg]
def UO(l:GD (.ref n) S=none)(h:NC (.ref n) y S=some o)(neg:Bool):inA neg y (.ref n) S=.ok (.bl (if neg then !o.isSome else o.isSome)) S:=by
 show Jw (inD neg y (.ref n) S) (Od neg y (.ref n) S)=_;rw[show inD neg y (.ref n) S=.bad by unfold inD;rw[l]];show Od neg y (.ref n) S=_;unfold Od;rw[h]
def PU(l:GD (.ref n) S=none)(h:NC (.ref n) y S=some (some d)):ixA (.ref n) y S=.ok d S:=by
 show Jw (ixD (.ref n) y S) (UP (.ref n) y S)=_;rw[show ixD (.ref n) y S=.bad by unfold ixD;rw[l]];show UP (.ref n) y S=_;unfold UP;rw[h]
def nA(h:S[n]?=some (oDK enc l)):GD (.ref n) S=none:=by unfold GD;dsimp only;rw[h];rfl
def rK(h:S[n]?=some (oDP enc l)):GD (.ref n) S=none:=by unfold GD;dsimp only;rw[h];rfl
section
def Xw:VE A Jy (rN (oDK enc)) (some []):=λv l m e F S o=>by cases l;exact⟨_,_,rfl,Keeps.app _ _,_,rfl,AO _,E2 _ _⟩
def g8:VE A Qz (rN (oDP enc)) (some []):=λv l m e F S o=>by cases l;exact⟨_,_,rfl,Keeps.app _ _,_,rfl,AO _,E2 _ _⟩
def Xv{m}{pl}(s:VE A a (rV D.int) m)(hb:VE A b (rO (oDK enc)) pl):VE A (m2 (inA true) a b) (rV D.bl) (m.bind λx=>pl.bind λl=>some (!(An l x).isSome)):=Zt s hb λx l z S n o q=>by cases q;rw[UO (nA o) (cz o x)];simp
def mK{m}{pl}(s:VE A a (rV (eP D.int D.int)) m)(hb:VE A b (rO (oDP enc)) pl):VE A (m2 (inA false) a b) (rV D.bl) (m.bind λx=>pl.bind λl=>some (An l x).isSome):=Zt s hb λx l z S n o q=>by cases q;rw[UO (rK o) (ka o x)];simp
def g7{m}{pl}(s:VE A a (rV (eP D.int D.int)) m)(hb:VE A b (rO (oDP enc)) pl):VE A (m2 (inA true) a b) (rV D.bl) (m.bind λx=>pl.bind λl=>some (!(An l x).isSome)):=Zt s hb λx l z S n o q=>by cases q;rw[UO (rK o) (ka o x)];simp
def hV(o:VE A a (rO (oDK enc)) pl)(hb:VE A b (rV D.int) s):VE A (m2 ixA a b) (rV enc) (pl.bind λl=>s.bind λx=>An l x):=Su o hb λl x z S n m q=>PU (nA m) (by rw[cz m x,q];rfl)
def Xx(o:VE A a (rO (oDP enc)) pl)(hb:VE A b (rV (eP D.int D.int)) s):VE A (m2 ixA a b) (rV enc) (pl.bind λl=>s.bind λx=>An l x):=Su o hb λl x z S n m q=>PU (rK m) (by rw[ka m x,q];rfl)
def JK[DecidableEq κ](l:List (κ×α))(k:κ)(v:α):Option (List (κ×α)):=if l.length < 1000000 then some (CK l k v)else none
def bn{J:κ->D}[DecidableEq κ]{B:List (κ×α)->Ob}{R:Rk ρ}{p:Option α}{L:Option κ}{i:Nat}{l:List (κ×α)}
  (Q:∀(l:List (κ×α)) (k:κ) (v:α) (S:Sto) (n:Nat),S[n]?=some (B l)->l.length < 1000000->RB (.ref n) (J k) (enc v) S=some (S.set n (B (CK l k v))))
  (hi:A[i]?=some (.w i (B l))) (T:VE A b (rV J) L) (h:VE A m (rV enc) p) (U:((A.set i .u).all (Sl.oth i))=true) :
  VS A (DB (AD i) b m) R (p.bind λv=>L.bind λk=>(JK l k v).bind λE=>some (.nx E)) (λE=>A.set i (.w i (B E))):=λf X N e F S o=>by
 obtain⟨v,Y,Z⟩:=BA X;obtain⟨k,ϗ,h3⟩:=BA Z;obtain⟨E,G,h0⟩:=BA h3;cases h0;unfold JK at G;split at G
 ·rename_i hl
  cases G;obtain⟨x,O,n,rfl,g2,I⟩:=o.sl i _ hi;obtain⟨d,s,h5,C,rfl⟩:=h v Y N e F S o;obtain⟨d,H,h7,P,rfl⟩:=T k ϗ N e _ s (o.grow C);have hg:=(o.grow C).grow P;have hn:=(C.trans P).at I
  have hx:DB (AD i) b m e S=.ok (.nx e) (H.set n (B (CK l k v))):=by
   unfold DB;rw[h5];dsimp only[Res.lift];rw[show AD i e s=.ok (.ref n) s by unfold AD;rw[O]];dsimp only;rw[h7];dsimp only;rw[Q l k v H n hn hl]
  have hF:Q9 (Q9 F S s) s H n=.ow i:=by rw[G4 (Bc (C.at I)),G4 (Bc I)];exact g2
  exact⟨_,_,hx,e,_,rfl,hg.put U hi O hF,(o.fle s).trans ((o.grow C).fle H)⟩
 ·cases G
def Xq{R:Rk ρ}{p:Option α}{s:Option Int}{i:Nat}{l:List (Int×α)}(hi:A[i]?=some (.w i (oDK enc l)))(B:VE A b (rV D.int) s)(h:VE A m (rV enc) p)(C:((A.set i .u).all (Sl.oth i))=true) :
  VS A (DB (AD i) b m) R (p.bind λv=>s.bind λk=>(JK l k v).bind λo=>some (.nx o)) (λo=>A.set i (.w i (oDK enc o))):=
 bn (λl k v S n E G=>by
  unfold RB;dsimp only;rw[E];show(if (l.map _).length < sizeLine then some (S.set n (.dK (CK (l.map λx=>(DZ x.1,enc x.2)) (DZ k) (enc v))))else none)=_;rw[qX (by rw[AF];exact aZ G),P5 SO]
  rfl) hi B h C
def Xp{R:Rk ρ}{p:Option α}{s:Option ZPi}{i:Nat}{l:List (ZPi×α)}(hi:A[i]?=some (.w i (oDP enc l)))(B:VE A b (rV (eP D.int D.int)) s)(h:VE A m (rV enc) p)(C:((A.set i .u).all (Sl.oth i))=true) :
  VS A (DB (AD i) b m) R (p.bind λv=>s.bind λk=>(JK l k v).bind λo=>some (.nx o)) (λo=>A.set i (.w i (oDP enc o))):=
 bn (λl k v S n E G=>by
  unfold RB;dsimp only;rw[E];show(if (l.map _).length < sizeLine then some (S.set n (.dT (CK (l.map λx=>(kP x.1,enc x.2)) (kP k) (enc v))))else none)=_;rw[qX (by rw[AF];exact aZ G),P5 jg]
  rfl) hi B h C
def mO(h:VE A m (rV (eT enc)) pl):VB A (Gp m) (pl.bind λl=>some (!l.isEmpty)):=λv o s e F S B=>by
 obtain⟨l,C,E⟩:=BA o;cases E;obtain⟨d,G,H,I,rfl⟩:=h l C s e F S B;refine⟨G,?_,I⟩;unfold Gp;rw[H]
 cases l <;> rfl
def mP(h:VE A m (rO (oL enc)) pl):VB A (Gp m) (pl.bind λl=>some (!l.isEmpty)):=λv s B e F S C=>by
 obtain⟨l,E,G⟩:=BA s;cases G;obtain⟨d,o,H,I,n,rfl,J⟩:=h l E B e F S C;refine⟨o,?_,I⟩;unfold Gp;rw[H];dsimp only[Res.bind]
 have:Rc (.ref n) o=some (!l.isEmpty):=by
  unfold Rc;dsimp only;rw[J]
  cases l <;> rfl
 rw[this]
def Zq{b:MS}{R:Rk ρ}{B:σ->List Sl}:VS A b R none B:=λf l=>by cases l
def qi(m:VE A a (rO (oL D.int)) pl):VE A (oP a) (rV D.int) (pl.bind λl=>some (WV l)):=λv o s e F S B=>by
 obtain⟨l,C,E⟩:=BA o;cases E;obtain⟨d,G,H,I,n,rfl,J⟩:=m l C s e F S B;refine⟨_,G,?_,I,rfl⟩;unfold oP;rw[H];dsimp only[Res.bind];rw[Np J];dsimp only;rw[Lb]
end
end
section
variable{α ρ σ:Type}
def BY:BO (some (.nx s)) q=q s:=rfl
def ko:BO (some (.rt r)) q=some (.rt r):=rfl
def oM:EB (ρ:=ρ) g (some (.nx s))=some (.nx (g s)):=rfl
def cK:Gg (some (.rt r:Fw ρ σ))=some r:=rfl
def nv:nw (some (.nx s))=some ():=rfl
def XB{l:List α}{q:σ->α->Option (Fw ρ σ)}{s0:σ}(I:List α->σ->Prop)(A:I [] s0)(h:∀m x s,x∈l->m++[x] <+: l->I m s->∃s',q s x=some (.nx s')/\I (m++[x]) s'):∃s,Fh l s0 q=some (.nx s)/\I l s:=by
 have key:∀(r m:List α) (s:σ),l=m++r->I m s->∃s',Fh r s q=some (.nx s')/\I l s':=by
  intro r
  induction r with
  | nil=>intro m s e o;rw[Bh]at e;subst e;exact⟨s,rfl,o⟩
  | cons x r B=>
   intro m s e o;obtain⟨s',C,E⟩:=h m x s (by rw[e];simp) ⟨r,by rw[e];simp⟩ o;obtain⟨G,H,J⟩:=B (m++[x]) s' (by rw[e];simp) E;refine⟨G,?_,J⟩;unfold Fh;rw[C];exact H
 exact key l [] s0 rfl A
def kD(I:List α->σ->Prop)(R:ρ->Prop)(C:I [] s0)(h:∀m x s,x∈l->m++[x] <+: l->I m s->(∃s',q s x=some (.nx s')/\I (m++[x]) s')∨∃r,q s x=some (.rt r)/\R r):(∃s,Fh l s0 q=some (.nx s)/\I l s)∨∃r,Fh l s0 q=some (.rt r)/\R r:=by
 have key:∀(r m:List α) (s:σ),l=m++r->I m s->(∃s',Fh r s q=some (.nx s')/\I l s')∨∃y,Fh r s q=some (.rt y)/\R y:=by
  intro r
  induction r with
  | nil=>intro m s e o;rw[Bh]at e;subst e;exact .inl ⟨s,rfl,o⟩
  | cons x r E=>
   intro m s e o
   rcases h m x s (by rw[e];simp) ⟨r,by rw[e];simp⟩ o with⟨s',A,B⟩ | ⟨y,A,B⟩
   ·have G:Fh (x :: r) s q=Fh r s' q:=by
     conv=>lhs;unfold Fh
     rw[A]
    rw[G];exact E (m++[x]) s' (by rw[e];simp) B
   ·refine .inr ⟨y,?_,B⟩
    unfold Fh;rw[A]
 exact key l [] s0 rfl C
def ke(B:∀x∈l,c x=some (P x))(C:∀x∈l,P x=true->m x=some (f x)):UR c m l=some ((l.filter P).map f):=by
 induction l with
 | nil=>rfl
 | cons x l o=>
  have o:=o (λy s=>B y (AQ _ s)) λy s=>C y (AQ _ s)
  unfold UR;rw[B x AW];show(if P x=true then _ else _)=_
  cases A:P x with
  | true=>
   rw[qX rfl,C x AW A,o,Xk A];rfl
  | false=>
   rw[qY AH,o,Xl (by rw[A];exact AH)]
def US(o:l.length<=1000000)(s:∀x∈l,c x=some (P x))(A:∀x∈l,P x=true->m x=some (f x)):En l c m=some ((l.filter P).map f):=by
 unfold En;rw[qX o,ke s A]
def FL(o:l.length<=1000000)(s:∀x∈l,m x=some (f x)):En l (λ_=>some true) m=some (l.map f):=by
 rw[US (P:=λ_=>true) o (λ_ _=>rfl) λx A _=>s x A,dW.mpr λ_ _=>rfl]
def Mn(m:l.length<=1000000)(o:∀x∈l,c x=some (P x)):En l c (λx=>some x)=some (l.filter P):=by
 rw[US (f:=λx=>x) m o λx s _=>rfl,uV]
def dI(h:l.length < 1000000):bH l x=some (l++[x]):=qX h
def QM(h:l.length+k.length<=1000000):Q7 l k=some (l++k):=qX h
def XC(h:l.length<=1000000):IV l=some l:=qX h
def pC:IV ([]:List α)=some []:=rfl
def tw(a:α):IV [a]=some [a]:=qX (by simp)
def MH(l:-1000000<=j)(m:j<=1000000):PD j=some (DN 0 j.toNat):=qX ⟨l,m⟩
def Wi(l:-1000000<=i)(m:i<=1000000)(o:-1000000<=j)(s:j<=1000000):YO i j=some (DN i (j - i).toNat):=qX ⟨l,m,o,s⟩
def Ch{lo:Int}{n:Nat}{x:Int}:x∈DN lo n↔lo<=x/\x < lo+n:=by
 unfold DN;rw[BV]
 constructor
 ·rintro⟨k,l,rfl⟩
  have:=KR.mp l
  lia
 ·rintro⟨m,o⟩
  exact⟨(x - lo).toNat,KR.mpr (by lia),by lia⟩
def Bx(lo:Int)(n:Nat):(DN lo n).length=n:=by unfold DN;rw[AF,RK]
def MF(lo:Int)(n:Nat):(DN lo n).Pairwise (· < ·):=by
 unfold DN;rw[Bl]
 exact ZN.imp λh=>by lia
def bF(o:0<=i)(s:i < l.length):∃x,atI l i=some x/\l[i.toNat]?=some x:=by
 have m:i.toNat < l.length:=by lia
 exact⟨l[i.toNat],Ms o (Ap m),Ap m⟩
def dG(h:atI l i=some x):x∈l:=by
 unfold atI at h;obtain⟨j,_,m⟩:=BA h;exact Bt m
def XS(k:Int)(h:l≠[]):∃x,atI l (k % (l.length:Int))=some x/\x∈l:=by
 have o:0 < (l.length:Int):=by have:=Pe.mpr h;lia
 obtain⟨x,m,_⟩:=bF (l:=l) (i:=k % (l.length:Int)) (Int.emod_nonneg _ (by lia)) (Int.emod_lt_of_pos _ o);exact⟨x,m,dG m⟩
def Wv(h:0 < y):Ye x y=some (x % y):=qX h
def Yw(P:α->Bool)(l:List α)(x:α):(l++[x]).filter P=if P x=true then l.filter P++[x]else l.filter P:=by
 rw[List.filter_append]
 cases c:P x with
 | true=>rw[qX rfl,Xk c];rfl
 | false=>rw[qY AH,Xl (by rw[c];exact AH)];simp
def P2{lo:Int}{n:Nat}{l:ZLi}{x:Int}(h:l++[x] <+: DN lo n):x=lo+l.length/\l.length < n:=by
 have m:=h.length_le;rw[Ak,BU,Bx]at m;obtain⟨r,o⟩:=h;have:=congrArg (λz=>z[l.length]?) o;simp only[Bw,Bd (AO _),uh]at this;rw[show([x]++r)[0]?=some x from rfl]at this;unfold DN at this;rw[Ac,Cu (by lia)]at this;simp only[Option.map_some,Option.some.injEq]at this;exact⟨this,by lia⟩
theorem He[DecidableEq α]:∀{l k:List α},l.Nodup->(∀x∈l,x∈k)->l.length<=k.length
 | [],_,_,_=>Dp _
 | x :: l,k,s,h=>by
  have m:=h x AW;obtain⟨A,B⟩:=Bu.mp s
  have:=He (l:=l) (k:=k.erase x) B λy o=>(List.mem_erase_of_ne (λz:y=x=>A (by rw[<-z];exact o))).mpr (h y (AQ _ o))
  rw[List.length_erase_of_mem m]at this;have:=List.length_pos_of_mem m;rw[Aj]
  lia
def Ok(p:Option α)(P:α->Prop):Prop:=∃v,p=some v/\P v
def Ok.pure(h:P v):Ok (some v) P:=⟨v,rfl,h⟩
def Ok.is(h:Ok p λr=>r=v):p=some v:=by
 obtain⟨_,l,rfl⟩:=h;exact l
def Ok.bind(h:Ok p P)(l:∀v,P v->Ok (q v) Q):Ok (p.bind q) Q:=by
 obtain⟨v,rfl,h⟩:=h;exact l v h
def Ok.imp(h:Ok p P)(i:∀v,P v->Q v):Ok p Q:=by
 obtain⟨v,rfl,h⟩:=h;exact⟨v,rfl,i v h⟩
def OkF(p:Option (Fw ρ σ))(N:σ->Prop)(R:ρ->Prop):Prop:=(∃s,p=some (.nx s)/\N s)∨∃r,p=some (.rt r)/\R r
def OkF.nx(h:N s):OkF (some (.nx s)) N R:=.inl ⟨s,rfl,h⟩
def OkF.rt(h:R r):OkF (some (.rt r)) N R:=.inr ⟨r,rfl,h⟩
def OkF.seq(h:OkF p N R)(l:∀s,N s->OkF (q s) N' R):OkF (BO p q) N' R:=by
 rcases h with⟨s,rfl,h⟩ | ⟨r,rfl,h⟩
 ·exact l s h
 ·exact .inr ⟨r,rfl,h⟩
def OkF.map(h:OkF p N R)(l:∀s,N s->N' (g s)):OkF (EB g p) N' R:=by
 rcases h with⟨s,rfl,h⟩ | ⟨r,rfl,h⟩
 ·exact .inl ⟨_,rfl,l s h⟩
 ·exact .inr ⟨r,rfl,h⟩
def OkF.for(I:List α->σ->Prop)(o:I [] s0)(h:∀m x s,x∈l->m++[x] <+: l->I m s->OkF (q s x) (I (m++[x])) R):OkF (Fh l s0 q) (I l) R:=kD I R o h
def OkF.out(h:OkF p (λ_=>False) R):Ok (Gg p) R:=by
 rcases h with⟨s,rfl,h⟩ | ⟨r,rfl,h⟩
 ·exact h.elim
 ·exact⟨r,rfl,h⟩
def OkF.imp(h:OkF p N R)(l:∀s,N s->N' s)(m:∀r,R r->R' r):OkF p N' R':=by
 rcases h with⟨s,rfl,h⟩ | ⟨r,rfl,h⟩
 ·exact .inl ⟨s,rfl,l s h⟩
 ·exact .inr ⟨r,rfl,m r h⟩
end
section
def Ql(x y:Int):Option Int:=if kz x y then some (x * 2 ^ y.toNat)else none
def mz(x y:Int):Option Int:=if 0<=y then some (x / 2 ^ y.toNat)else none
def Qe(l:VE A a (rV D.int) m)(hb:VE A b (rV D.int) o):VE A (m2 Rp a b) (rV D.int) (m.bind λx=>o.bind λy=>Ql x y):=JQ l hb λx y z S h=>by
 unfold Ql at h;split at h
 ·rename_i s;cases h;exact qX s
 ·cases h
def qk(l:VE A a (rV D.int) m)(hb:VE A b (rV D.int) o):VE A (m2 YE a b) (rV D.int) (m.bind λx=>o.bind λy=>mz x y):=JQ l hb λx y z S h=>by
 unfold mz at h;split at h
 ·rename_i s;cases h;exact qX s
 ·cases h
def SE(l:VE A a (rV D.int) m)(hb:VE A b (rV D.int) o):VE A (m2 UZ a b) (rV D.int) (m.bind λx=>o.bind λy=>some (Bi x y)):=JQ l hb λx y z S h=>by cases h;rfl
def bw(h:VE A m (rV D.int) o):VB A (Gp m) (o.bind λx=>some (x != 0)):=λv s B e F S C=>by
 obtain⟨l,E,G⟩:=BA s;cases G;obtain⟨d,H,I,J,rfl⟩:=h l E B e F S C;refine⟨H,?_,J⟩;unfold Gp;rw[I];rfl
end
section
def VZ(o:VE A a (rV (eT D.int)) pl):VE A (FB a) (rN (oL D.int)) (pl.bind λl=>some (D3 l)):=λv s B e F S C=>by
 obtain⟨l,E,G⟩:=BA s;cases G;obtain⟨d,I,H,m,rfl⟩:=o l E B e F S C;refine⟨_,_,LR H (ds:=l.map D.int) rfl (es:=(D3 l).map D.int) ?_,m.trans (Keeps.app _ _),_,rfl,m.1,E2 _ _⟩;unfold M4;rw[Lb]
end
section
variable{ρ σ:Type}
def Ex{n:Nat}{b:MS}{as:List Ar}{R:Rk ρ}{p:Option (Fw ρ σ)}{B:σ->List Sl}(h:VS (as.map Ar.sl++Be (n - as.length) .u) b R p B):VF (D9 n b) as R (Gg p):=λv l S G o=>by
 cases p with
 | none=>cases l
 | some x=>
  obtain⟨g,A,C,m⟩:=h _ rfl S _ _ S (Vs.start o)
  cases x with
  | rt r=>cases l;obtain⟨d,rfl,m,E⟩:=m;exact⟨d,A,L2.Ku C,E,m⟩
  | nx s=>cases l
  | bk s=>cases l
  | ct s=>cases l
def qe{n:Nat}{b:MS}{as:List Ar}{p:Option (Fw Unit σ)}{B:σ->List Sl}(h:VS (as.map Ar.sl++Be (n - as.length) .u) b (rV eU) p B):VF (D9 n b) as (rV eU) (nw p):=λv m S G E=>by
 cases p with
 | none=>cases m
 | some x=>
  obtain⟨g,o,A,l⟩:=h _ rfl S _ _ S (Vs.start E)
  cases x with
  | rt r=>obtain⟨d,rfl,l,C⟩:=l;exact⟨d,o,L2.Ku A,C,l⟩
  | nx s=>obtain⟨H,I,rfl,l,C⟩:=l;exact⟨.non,o,L2.aJ A,l.kp,rfl⟩
  | bk s=>cases m
  | ct s=>cases m
end
section
variable{κ α:Type}[DecidableEq κ]
def DE(l:List (κ×α))(k:κ)(v:α)(k':κ):An (CK l k v) k'=if k'=k then some v else An l k':=by
 have key:∀l:List (κ×α),An (l.map λm=>if m.1=k then(m.1,v)else m) k'=if k'=k then(An l k').map (λ_=>v)else An l k':=by
  intro l
  induction l with
  | nil=>unfold An;simp
  | cons x l s=>
   unfold An at s ⊢;rw[As,Cc,Cc]
   by_cases c:x.1=k
   ·rw[qX c]
    by_cases d:x.1=k'
    ·rw[wX d,qX (show k'=k from d▸c)]
     rfl
    ·rw[wY d]
     exact s
   ·rw[qY c]
    by_cases d:x.1=k'
    ·rw[wX d,qY (λz:k'=k=>c (d.trans z))]
    ·rw[wY d]
     exact s
 unfold CK;split
 ·rename_i h
  rw[key]
  by_cases c:k'=k
  ·rw[qX c,qX c]
   subst c
   have:(An l k').isSome=true:=by
    unfold An;rw[Hw,gc];obtain⟨x,o,A⟩:=Gs.mp h;exact⟨x,o,A⟩
   obtain⟨b,hb⟩:=Cb.mp this;rw[hb];rfl
  ·rw[qY c,qY c]
 ·rename_i h
  unfold An;rw[List.find?_append]
  by_cases c:k'=k
  ·subst c
   rw[qX rfl]
   have:l.find? (λm=>decide (m.1=k'))=none:=by
    rw[KU];intro x o A;exact h (Gs.mpr ⟨x,o,A⟩)
   rw[this];simp
  ·rw[qY c]
   have:[(k,v)].find? (λm=>decide (m.1=k'))=none:=by
    rw[KU];intro x o;rw[AU.mp o];simp
    exact λz=>c z.symm
   rw[this];simp
def Hh(l:List (κ×α))(k:κ)(v:α):(CK l k v).map (·.1)=if k∈l.map (·.1)then l.map (·.1)else l.map (·.1)++[k]:=by
 have o:(l.any λs=>decide (s.1=k))=true↔k∈l.map (·.1):=by
  rw[Gs,BV];exact⟨λ⟨x,m,e⟩=>⟨x,m,of_decide_eq_true e⟩,λ⟨x,m,e⟩=>⟨x,m,wX e⟩⟩
 unfold CK
 by_cases c:k∈l.map (·.1)
 ·rw[qX c,qX (o.mpr c),BF]
  refine Ct λx _=>?_
  show(if x.1=k then(x.1,v)else x).1=x.1
  split <;> rfl
 ·rw[qY c,qY λz=>c (o.mp z),Bv]
  rfl
def DD(l:List (κ×α))(k:κ):(An l k).isSome=true↔k∈l.map (·.1):=by
 unfold An;rw[Hw,gc,BV];exact⟨λ⟨x,m,e⟩=>⟨x,m,of_decide_eq_true e⟩,λ⟨x,m,e⟩=>⟨x,m,wX e⟩⟩
end
def hb(bits x:Int):Bool:=Bi (bits / 2 ^ x.toNat) 1 != 0
abbrev HL:=List ZPi
abbrev QL:=List (Int×Bool)
def Op(st:HL->Int->QL->Option (Bool×HL×QL))(g:Int):ZLi->HL->QL->Option (Bool×HL×QL)
 | [],H,Q=>some (false,H,Q)
 | x :: r,H,Q=>if (An Q x).isSome=true then Op st g r H Q else(JK Q x true).bind λl=>(An H x).bind λm=>(st H m l).bind λz=>if z.1=true then(JK z.2.1 x g).bind λo=>some (true,o,z.2.2)else Op st g r z.2.1 z.2.2
def Ih(T:Int->ZLi)(bits:Int):Nat->HL->Int->QL->Option (Bool×HL×QL)
 | 0,_,_,_=>none
 | n+1,H,g,Q=>match((T g).filter λx=>hb bits x&&!(An Q x).isSome).find? (λx=>!(An H x).isSome)with
  | some x=>(JK H x g).bind λl=>some (true,l,Q)
  | none=>Op (Ih T bits n) g ((T g).filter λx=>hb bits x&&!(An Q x).isSome) H Q
section
abbrev w0(T:Int->ZLi)(bits g:Int):ZLi:=(T g).filter (hb bits)
structure KOk{α:Type}(U:ZLi)(l:List (Int×α)):Prop where
 nd:(l.map (·.1)).Nodup
 sub:∀x∈l.map (·.1),x∈U
def KOk.len{m:Type}{l:List (Int×m)}(h:KOk U l):l.length<=U.length:=by
 have:=He h.nd h.sub;rwa [AF]at this
def KOk.put{o:Type}{l:List (Int×o)}(h:KOk U l){x:Int}(s:x∈U)(v:o):KOk U (CK l x v):=by
 by_cases c:x∈l.map (·.1)
 ·exact⟨by rw[Hh,qX c];exact h.nd,by rw[Hh,qX c];exact h.sub⟩
 ·refine⟨?_,?_⟩
  ·rw[Hh,qY c]
   unfold VV;rw[BK];exact⟨h.nd,by simp,λa A b B z=>c (by rw[AU.mp B]at z;rw[<-z];exact A)⟩
  ·rw[Hh,qY c]
   intro y m
   rcases Av.mp m with m | m
   ·exact h.sub y m
   ·rw[AU.mp m];exact s
def KOk.more{m:Type}{l:List (Int×m)}{x:Int}(c:(An l x).isSome=false)(v:m):(CK l x v).length=l.length+1:=by
 have o:x∉l.map (·.1):=λz=>by rw[(DD l x).mpr z]at c;cases c
 have:=congrArg JO (Hh l x v);rw[qY o,AF,Ak,AF]at this;exact this
def MOn(T:Int->ZLi)(bits:Int)(P:Int->Prop)(H:HL):Prop:=(∀x,P x->∀a,An H x=some a->x∈w0 T bits a)/\∀x y a,P x->P y->An H x=some a->An H y=some a->x=y
abbrev sn(Q:QL)(x:Int):Prop:=(An Q x).isSome=true
def Good(T:Int->ZLi)(bits:Int)(H:HL)(g:Int)(Q:QL)(l:HL):Prop:=
 (∀x,sn Q x->An l x=An H x)/\(MOn T bits (λx=>¬sn Q x) H->(∀x,¬sn Q x->An H x≠some g)->MOn T bits (λx=>¬sn Q x) l/\∀a,(∃x,¬sn Q x/\An l x=some a)↔a=g∨∃x,¬sn Q x/\An H x=some a)
def Clo(T:Int->ZLi)(bits:Int)(H:HL)(Q l:QL):Prop:=∀x,sn l x->sn Q x∨∃a,An H x=some a/\∀y∈w0 T bits a,sn l y
structure we(T:Int->ZLi)(bits:Int)(U:ZLi)(Gd:Int->Prop)(H:HL)(g:Int)(Q:QL)(z:Bool×HL×QL):Prop where
 h1:KOk U z.2.1
 h2:KOk U z.2.2
 h3:∀x a,An z.2.1 x=some a->Gd a
 h4:∀x,sn Q x->sn z.2.2 x
 h5:z.1=false->z.2.1=H/\(∀x∈w0 T bits g,sn z.2.2 x)/\Clo T bits H Q z.2.2
 h6:z.1=true->Good T bits H g Q z.2.1
def Wl{m:Type}{l:List (Int×m)}(h:KOk U l)(o:U.length < 1000000)(x:Int)(v:m):JK l x v=some (CK l x v):=qX (Ay h.len o)
def Kp:sn (CK Q x true) y↔y=x∨sn Q y:=by
 unfold sn;rw[DE]
 by_cases c:y=x
 ·rw[qX c];simp[c]
 ·rw[qY c];simp[c]
def YF(hT:∀g,Gd g->∀x∈T g,x∈U)(hU:U.length < 1000000):∀(n:Nat) (H:HL) (g:Int) (Q:QL),KOk U H->KOk U Q->(∀x a,An H x=some a->Gd a)->Gd g->U.length < n+Q.length->Ok (Ih T bits n H g Q) (we T bits U Gd H g Q):=by
 intro n
 induction n with
 | zero=>intro H g Q hH hQ hG hg hn;exact zX hQ.len (by lia)
 | succ n ih=>
  intro H g Q hH hQ hG hg hn;unfold Ih
  have wm:∀x,x∈(T g).filter (λx=>hb bits x&&!(An Q x).isSome)↔x∈w0 T bits g/\¬sn Q x:=by
   intro x;unfold w0 sn;rw[Bp,Bp]
   cases An Q x <;> simp
  generalize (T g).filter (λx=>hb bits x&&!(An Q x).isSome)=w at wm
  have wU:∀x∈w,x∈U:=λx N=>hT g hg x (Bp.mp ((wm x).mp N).1).1
  cases hf:w.find? (λx=>!(An H x).isSome)with
  | some x=>
   have N:=WE hf
   have yS:An H x=none:=by
    have:=lZ hf
    cases q:An H x with
    | none=>rfl
    | some a=>rw[q]at this;cases this
   obtain⟨x1,P⟩:=(wm x).mp N;show Ok ((JK H x g).bind _) _;rw[Wl hH hU];refine .pure ⟨hH.put (wU x N) g,hQ,λy a o=>?_,λ_ h=>h,λz=>(by cases z),λ_=>⟨λy o=>?_,λm R=>⟨⟨λy o a e=>?_,λy z a o J e1 G=>?_⟩,λa=>⟨?_,?_⟩⟩⟩⟩
   ·rw[show An (true,CK H x g,Q).2.1 y=if y=x then some g else An H y from DE _ _ _ _]at o
    split at o
    ·cases o;exact hg
    ·exact hG y a o
   ·show An (CK H x g) y=_
    rw[DE,qY λc:y=x=>P (by rw[<-c];exact o)]
   ·rw[show An (true,CK H x g,Q).2.1 y=if y=x then some g else An H y from DE _ _ _ _]at e
    split at e
    ·rename_i c;cases e;rw[c];exact x1
    ·exact m.1 y o a e
   ·rw[show An (true,CK H x g,Q).2.1 y=if y=x then some g else An H y from DE _ _ _ _]at e1
    rw[show An (true,CK H x g,Q).2.1 z=if z=x then some g else An H z from DE _ _ _ _]at G;split at e1
    ·rename_i c
     cases e1;split at G
     ·rename_i d;rw[c,d]
     ·exact zX G (R z J)
    ·split at G
     ·cases G;exact zX e1 (R y o)
     ·exact m.2 y z a o J e1 G
   ·rintro⟨y,o,e⟩
    rw[show An (true,CK H x g,Q).2.1 y=if y=x then some g else An H y from DE _ _ _ _]at e;split at e
    ·cases e;exact .inl rfl
    ·exact .inr ⟨y,o,e⟩
   ·rintro(rfl | ⟨y,o,e⟩)
    ·exact⟨x,P,by show An (CK H x a) x=_;rw[DE,qX rfl]⟩
    ·refine⟨y,o,?_⟩
     show An (CK H x g) y=_;rw[DE,qY λc=>by rw[c,yS]at e;cases e];exact e
  | none=>
   have held:∀x∈w,∃a,An H x=some a:=by
    intro x N;have:=KU.mp hf x N
    cases q:An H x with
    | none=>rw[q]at this;exact zX rfl this
    | some a=>exact⟨a,rfl⟩
   have key:∀(r:ZLi) (E:QL),(∀x∈r,x∈w)->KOk U E->(∀x,sn Q x->sn E x)->Q.length<=E.length->Clo T bits H Q E->(∀x∈w,x∈r∨sn E x)->Ok (Op (Ih T bits n) g r H E) (we T bits U Gd H g Q):=by
    intro r
    induction r with
    | nil=>
     intro E _ ϭ Y hl hc hw;refine .pure ⟨hH,ϭ,hG,Y,λ_=>⟨rfl,λx N=>?_,hc⟩,λz=>(by cases z)⟩
     by_cases c:sn Q x
     ·exact Y x c
     ·rcases hw x ((wm x).mpr ⟨N,c⟩)with h | h
      ·cases h
      ·exact h
    | cons x r ih2=>
     intro E hr ϭ Y hl hc hw;unfold Op
     by_cases c:(An E x).isSome=true
     ·rw[qX c]
      refine ih2 E (λy o=>hr y (AQ _ o)) ϭ Y hl hc λy o=>?_
      rcases hw y o with h | h
      ·rcases Ai.mp h with rfl | h
       ·exact .inr c
       ·exact .inl h
      ·exact .inr h
     ·rw[qY c,Wl ϭ hU]
      have S:=hr x AW;obtain⟨x1,P⟩:=(wm x).mp S;obtain⟨a,O⟩:=held x S;have hQ1:=ϭ.put (wU x S) true;have sj:=KOk.more (l:=E) (x:=x) (by cases q:(An E x).isSome;rfl;exact zX q c) true;obtain⟨z,ez,J⟩:=ih H a (CK E x true) hH hQ1 hG (hG x a O) (by lia);show Ok ((An H x).bind _) _;rw[O];show Ok ((Ih T bits n H a (CK E x true)).bind _) _;rw[ez];show Ok (if z.1=true then _ else _) _
      cases xn:z.1 with
      | true=>
       rw[qX rfl,Wl J.h1 hU];obtain⟨g1,g2⟩:=J.h6 xn;refine .pure ⟨J.h1.put (wU x S) g,J.h2,λy b o=>?_,λy o=>J.h4 y (Kp.mpr (.inr (Y y o))),λq=>(by cases q),λ_=>⟨λy o=>?_,λm R=>?_⟩⟩
       ·rw[show An (true,CK z.2.1 x g,z.2.2).2.1 y=if y=x then some g else An z.2.1 y from DE _ _ _ _]at o
        split at o
        ·cases o;exact hg
        ·exact J.h3 y b o
       ·show An (CK z.2.1 x g) y=_
        rw[DE,qY λq:y=x=>P (by rw[<-q];exact o)];exact g1 y (Kp.mpr (.inr (Y y o)))
       ·have C:∀y,¬sn (CK E x true) y->¬sn Q y/\y≠x/\¬sn E y:=λy o=>⟨λq=>o (Kp.mpr (.inr (Y y q))),λq=>o (Kp.mpr (.inl q)),λq=>o (Kp.mpr (.inr q))⟩
        obtain⟨m1,m2⟩:=g2 ⟨λy o b e=>m.1 y (C y o).1 b e,λy s b o X e B=>m.2 y s b (C y o).1 (C s X).1 e B⟩ λy o e=>(C y o).2.1 (m.2 y x a (C y o).1 P e O)
        have A:∀y,y=x∨(y≠x/\An z.2.1 y=An H y/\sn E y)∨¬sn (CK E x true) y:=λy=>by
         by_cases q:y=x
         ·exact .inl q
         ·by_cases Z:sn E y
          ·exact .inr (.inl ⟨q,g1 y (Kp.mpr (.inr Z)),Z⟩)
          ·exact .inr (.inr λq3=>(Kp.mp q3).elim q Z)
        have I:∀y,y≠x->An (CK z.2.1 x g) y=An z.2.1 y:=λy q=>by rw[DE,qY q]
        have Ϯ:An (CK z.2.1 x g) x=some g:=by rw[DE,qX rfl]
        show MOn T bits _ (CK z.2.1 x g)/\∀b,(∃y,_/\An (CK z.2.1 x g) y=some b)↔_
        refine⟨⟨λy o b e=>?_,λy s b o X e B=>?_⟩,λb=>⟨?_,?_⟩⟩
        ·rcases A y with rfl | ⟨q,q1,Z⟩ | q
         ·rw[Ϯ]at e;cases e;exact x1
         ·rw[I y q,q1]at e;exact m.1 y o b e
         ·rw[I y (C y q).2.1]at e;exact m1.1 y q b e
        ·rcases A y with rfl | ⟨q,q1,Z⟩ | q
         ·rw[Ϯ]at e
          cases e
          rcases A s with rfl | ⟨p,p1,L⟩ | p
          ·rfl
          ·rw[I s p,p1]at B;exact zX B (R s X)
          ·rw[I s (C s p).2.1]at B
           rcases(m2 g).mp ⟨s,p,B⟩with rfl | ⟨y2,L,G⟩
           ·exact zX O (R y o)
           ·exact zX G (R y2 (C y2 L).1)
         ·rw[I y q,q1]at e
          rcases A s with rfl | ⟨p,p1,L⟩ | p
          ·rw[Ϯ]at B;cases B;exact zX e (R y o)
          ·rw[I s p,p1]at B;exact m.2 y s b o X e B
          ·rw[I s (C s p).2.1]at B
           rcases(m2 b).mp ⟨s,p,B⟩with rfl | ⟨y2,L,G⟩
           ·exact zX (m.2 y x b o P e O) q
           ·have:=m.2 y y2 b o (C y2 L).1 e G
            rw[<-this]at L;exact zX Z (C y L).2.2
         ·rw[I y (C y q).2.1]at e
          rcases A s with rfl | ⟨p,p1,L⟩ | p
          ·rw[Ϯ]at B
           cases B
           rcases(m2 g).mp ⟨y,q,e⟩with rfl | ⟨y2,L,G⟩
           ·exact zX O (R s X)
           ·exact zX G (R y2 (C y2 L).1)
          ·rw[I s p,p1]at B
           rcases(m2 b).mp ⟨y,q,e⟩with rfl | ⟨y2,p3,G⟩
           ·exact zX (m.2 s x b X P B O) p
           ·have:=m.2 s y2 b X (C y2 p3).1 B G
            rw[<-this]at p3;exact zX L (C s p3).2.2
          ·rw[I s (C s p).2.1]at B
           exact m1.2 y s b q p e B
        ·rintro⟨y,o,e⟩
         rcases A y with rfl | ⟨q,q1,Z⟩ | q
         ·rw[Ϯ]at e;cases e;exact .inl rfl
         ·rw[I y q,q1]at e;exact .inr ⟨y,o,e⟩
         ·rw[I y (C y q).2.1]at e
          rcases(m2 b).mp ⟨y,q,e⟩with rfl | ⟨y2,L,G⟩
          ·exact .inr ⟨x,P,O⟩
          ·exact .inr ⟨y2,(C y2 L).1,G⟩
        ·rintro(rfl | ⟨y,o,e⟩)
         ·exact⟨x,P,Ϯ⟩
         ·rcases A y with rfl | ⟨q,q1,Z⟩ | q
          ·rw[O]at e
           cases e;obtain⟨s,p,B⟩:=(m2 a).mpr (.inl rfl);exact⟨s,(C s p).1,by rw[I s (C s p).2.1];exact B⟩
          ·exact⟨y,o,by rw[I y q,q1];exact e⟩
          ·obtain⟨s,p,B⟩:=(m2 b).mpr (.inr ⟨y,q,e⟩)
           exact⟨s,(C s p).1,by rw[I s (C s p).2.1];exact B⟩
      | false=>
       rw[qY AH];obtain⟨f1,f2,f3⟩:=J.h5 xn;rw[f1]
       have up:∀y,sn E y->sn z.2.2 y:=λy o=>J.h4 y (Kp.mpr (.inr o))
       refine ih2 z.2.2 (λy o=>hr y (AQ _ o)) J.h2 (λy o=>up y (Y y o)) ?_ (λy o=>?_) λy o=>?_
       ·have h1:∀k∈E.map (·.1),k∈z.2.2.map (·.1):=λk hk=>(DD _ _).mp (up k ((DD _ _).mpr hk))
        have:=He ϭ.nd h1;rw[AF,AF]at this
        lia
       ·rcases f3 y o with h | h
        ·rcases Kp.mp h with rfl | h
         ·exact .inr ⟨a,O,f2⟩
         ·rcases hc y h with h | ⟨b,e,k⟩
          ·exact .inl h
          ·exact .inr ⟨b,e,λs X=>up s (k s X)⟩
        ·exact .inr h
       ·rcases hw y o with h | h
        ·rcases Ai.mp h with rfl | h
         ·exact .inr (J.h4 _ (Kp.mpr (.inl rfl)))
         ·exact .inl h
        ·exact .inr (up y h)
   exact key w Q (λ_ h=>h) hQ (λ_ h=>h) (AO _) (λx N=>.inl N) λx N=>.inl N
end
def TF(bits:Int):ZLi->HL->Option HL
 | [],H=>some H
 | g :: r,H=>if hb bits g=true then(JK H g g).bind λl=>TF bits r l else TF bits r H
def TY(T:Int->ZLi)(bits:Int)(n:Nat):ZLi->HL->Option Bool
 | [],_=>some true
 | g :: r,H=>if hb bits g=true then TY T bits n r H else(Ih T bits n H g []).bind λz=>if z.1=true then TY T bits n r z.2.1 else some false
def Vr(T:Int->ZLi)(bits:Int)(n:Nat)(gs:ZLi):Option Bool:=(TF bits gs []).bind λH=>TY T bits n gs H
def Sdr(T:Int->ZLi)(bits:Int)(gs:ZLi):Prop:=∃f:Int->Int,(∀g∈gs,f g∈w0 T bits g)/\∀a∈gs,∀b∈gs,f a=f b->a=b
section
variable{T:Int->ZLi}{bits:Int}{U:ZLi}{Gd:Int->Prop}
def dw(C:U.length < 1000000):∀(gs:ZLi) (H:HL),(∀g∈gs,g∈U)->KOk U H->Ok (TF bits gs H) λl=>KOk U l/\∀x,An l x=if x∈gs/\hb bits x=true then some x else An H x:=by
 intro gs
 induction gs with
 | nil=>intro H _ h;exact .pure ⟨h,λx=>by rw[qY (by simp)]⟩
 | cons g gs B=>
  intro H m h;unfold TF
  cases c:hb bits g with
  | true=>
   rw[qX rfl,Wl h C]
   refine(B (CK H g g) (λy o=>m y (AQ _ o)) (h.put (m g AW) g)).imp λl ⟨s,A⟩=>⟨s,λx=>?_⟩
   rw[A x,DE]
   by_cases d:x=g
   ·subst d
    rw[qX rfl,qX (show x∈x :: gs/\hb bits x=true from⟨AW,c⟩)]
    split <;> rfl
   ·rw[qY d]
    have:(x∈g :: gs/\hb bits x=true)↔(x∈gs/\hb bits x=true):=by rw[Ai];simp[d]
    by_cases q:x∈gs/\hb bits x=true
    ·rw[qX q,qX (this.mpr q)]
    ·rw[qY q,qY λz=>q (this.mp z)]
  | false=>
   rw[qY AH]
   refine(B H (λy o=>m y (AQ _ o)) h).imp λl ⟨s,A⟩=>⟨s,λx=>?_⟩
   rw[A x]
   have:(x∈g :: gs/\hb bits x=true)↔(x∈gs/\hb bits x=true):=by
    rw[Ai];refine⟨λ⟨z,y⟩=>⟨z.elim (λe=>?_) id,y⟩,λ⟨z,y⟩=>⟨.inr z,y⟩⟩;rw[e,c]at y;cases y
   by_cases q:x∈gs/\hb bits x=true
   ·rw[qX q,qX (this.mpr q)]
   ·rw[qY q,qY λz=>q (this.mp z)]
def jG{l:Type}:KOk U ([]:List (Int×l)):=⟨Gj,λ_ h=>(nomatch h)⟩
def eS(hT:∀g,Gd g->∀x∈T g,x∈U)(hU:U.length < 1000000)(hn:U.length < n)(hg:∀g∈gs,Gd g)(Y:gs.Nodup):∀(r pre:ZLi) (H:HL),gs=pre++r->KOk U H->(∀x a,An H x=some a->Gd a)->MOn T bits (λ_=>True) H->(∀a,(∃x,An H x=some a)↔a∈gs/\(a∈pre∨hb bits a=true))->Ok (TY T bits n r H) λb=>b=true↔Sdr T bits gs:=by
 intro r
 induction r with
 | nil=>
  intro pre H e N O B o;rw[Bh]at e;subst e;refine .pure ⟨λ_=>?_,λ_=>rfl⟩
  have ex:∀a:Int,∃x:Int,a∈gs->An H x=some a:=λa=>by
   by_cases c:a∈gs
   ·obtain⟨x,l⟩:=(o a).mpr ⟨c,.inl c⟩
    exact⟨x,λ_=>l⟩
   ·exact⟨0,λz=>zX z c⟩
  refine⟨λa=>Ko (ex a),λa P=>B.1 _ trivial a (Hx (ex a) P),λa P b J e=>?_⟩;have Z:=Hx (ex a) P;have h2:=Hx (ex b) J;have e:Ko (ex a)=Ko (ex b):=e;rw[e,h2]at Z;cases Z;rfl
 | cons g r ih=>
  intro pre H e N O B o
  have s:g∈gs:=by rw[e];simp
  have Q:g∉pre:=λz=>by
   rw[e]at Y;exact(Fx.mp Y).2.2 g z g AW rfl
  unfold TY
  cases c:hb bits g with
  | true=>
   rw[qX rfl]
   refine ih (pre++[g]) H (by rw[e];simp) N O B λa=>?_
   rw[o a];refine⟨λ⟨z,y⟩=>⟨z,y.elim (λy=>.inl (BL _ y)) .inr⟩,λ⟨z,y⟩=>⟨z,y.elim (λy=>?_) .inr⟩⟩
   rcases Av.mp y with y | y
   ·exact .inl y
   ·rw[AU.mp y];exact .inr c
  | false=>
   rw[qY AH];obtain⟨z,ez,E⟩:=YF (bits:=bits) hT hU n H g [] N jG O (hg g s) (by simpa using hn);rw[ez];show Ok (if z.1=true then _ else _) _
   have no:∀x,¬sn ([]:QL) x:=λx h=>by unfold sn at h;cases h
   have ng:∀x,An H x≠some g:=λx q=>by
    have:=((o g).mp ⟨x,q⟩).2
    rcases this with h | h
    ·exact Q h
    ·rw[c]at h;cases h
   cases J:z.1 with
   | true=>
    rw[qX rfl];obtain⟨-,g2⟩:=E.h6 J
    obtain⟨m1,m2⟩:=g2 ⟨λx _ a q=>B.1 x trivial a q,λx y a _ _ q G=>B.2 x y a trivial trivial q G⟩ λx _=>ng x
    refine ih (pre++[g]) z.2.1 (by rw[e];simp) E.h1 E.h3 ⟨λx _ a q=>m1.1 x (no x) a q,λx y a _ _ q G=>m1.2 x y a (no x) (no y) q G⟩ λa=>?_
    constructor
    ·rintro⟨x,l⟩
     rcases(m2 a).mp ⟨x,no x,l⟩with rfl | ⟨y,_,A⟩
     ·exact⟨s,.inl (by simp)⟩
     ·obtain⟨L,m⟩:=(o a).mp ⟨y,A⟩
      exact⟨L,m.elim (λq=>.inl (BL _ q)) .inr⟩
    ·rintro⟨L,m⟩
     have:a=g∨∃x,¬sn ([]:QL) x/\An H x=some a:=by
      rcases m with m | m
      ·rcases Av.mp m with m | m
       ·obtain⟨x,l⟩:=(o a).mpr ⟨L,.inl m⟩
        exact .inr ⟨x,no x,l⟩
       ·exact .inl (AU.mp m)
      ·obtain⟨x,l⟩:=(o a).mpr ⟨L,.inr m⟩
       exact .inr ⟨x,no x,l⟩
     obtain⟨x,_,l⟩:=(m2 a).mpr this;exact⟨x,l⟩
   | false=>
    rw[qY AH];obtain⟨f1,f2,f3⟩:=E.h5 J;refine .pure ⟨λq=>(by cases q),?_⟩;rintro⟨f,fw,fi⟩
    exfalso
    have X:=z.2.2.map (·.1)
    have I:∀x∈z.2.2.map (·.1),∃a,An H x=some a/\∀y∈w0 T bits a,sn z.2.2 y:=λx l=>by
     rcases f3 x ((DD _ _).mpr l)with h | h
     ·exact zX h (no x)
     ·exact h
    have ex:∀x:Int,∃a:Int,x∈z.2.2.map (·.1)->An H x=some a/\∀y∈w0 T bits a,sn z.2.2 y:=λx=>by
     by_cases q:x∈z.2.2.map (·.1)
     ·obtain⟨a,h⟩:=I x q
      exact⟨a,λ_=>h⟩
     ·exact⟨0,λG=>zX G q⟩
    have hc:=λx=>Hx (ex x)
    generalize hh:(λx=>Ko (ex x))=h at hc
    have C:∀x∈z.2.2.map (·.1),An H x=some (h x)/\∀y∈w0 T bits (h x),sn z.2.2 y:=λx l=>by rw[<-hh];exact hc x l
    have nd:(f g :: (z.2.2.map (·.1)).map λx=>f (h x)).Nodup:=by
     rw[Bu]
     have R:∀x∈z.2.2.map (·.1),h x∈gs:=λx l=>((o (h x)).mp ⟨x,(C x l).1⟩).1
     refine⟨λq=>?_,?_⟩
     ·obtain⟨x,l,S⟩:=BV.mp q
      have:=fi (h x) (R x l) g s S;exact ng x (by rw[(C x l).1,this])
     ·unfold VV
      rw[Bl]
      refine E.h2.nd.imp_of_mem λ{x y} l A ne S=>ne ?_
      have:=fi (h x) (R x l) (h y) (R y A) S;exact B.2 x y (h x) trivial trivial (C x l).1 (by rw[this];exact(C y A).1)
    have sub:∀y∈(f g :: (z.2.2.map (·.1)).map λx=>f (h x)),y∈z.2.2.map (·.1):=by
     intro y A
     rcases Ai.mp A with rfl | A
     ·exact(DD _ _).mp (f2 _ (fw g s))
     ·obtain⟨x,l,rfl⟩:=BV.mp A
      exact(DD _ _).mp ((C x l).2 _ (fw _ ((o (h x)).mp ⟨x,(C x l).1⟩).1))
    have:=He nd sub;rw[Aj,AF]at this;omega
def fN(A:∀g,Gd g->∀x∈T g,x∈U)(B:U.length < 1000000)(E:U.length < n)(l:∀g∈gs,Gd g/\g∈T g)(G:gs.Nodup):Ok (Vr T bits n gs) λb=>b=true↔Sdr T bits gs:=by
 unfold Vr
 refine(dw B gs [] (λg h=>A g (l g h).1 g (l g h).2) jG).bind λH ⟨I,C⟩=>?_
 have m:∀x a,An H x=some a->a=x/\x∈gs/\hb bits x=true:=λx a e=>by
  rw[C x]at e;split at e
  ·rename_i q;cases e;exact⟨rfl,q⟩
  ·cases e
 refine eS A B E (λg h=>(l g h).1) G gs [] H rfl I (λx a e=>?_) ⟨λx _ a e=>?_,λx y a _ _ e J=>?_⟩ λa=>⟨?_,?_⟩
 ·obtain⟨rfl,q,_⟩:=m x a e;exact(l _ q).1
 ·obtain⟨rfl,o,s⟩:=m x a e
  exact Bp.mpr ⟨(l _ o).2,s⟩
 ·rw[<-(m x a e).1,<-(m y a J).1]
 ·rintro⟨x,e⟩
  obtain⟨rfl,o,s⟩:=m x a e;exact⟨o,.inr s⟩
 ·rintro⟨o,s⟩
  refine⟨a,?_⟩;rw[C a,qX ⟨o,s.elim (λq=>(nomatch q)) id⟩]
end
section
def NV(h:e[i]?=some (some d)):AD i e S=.ok d S:=by unfold AD;rw[h]
end
section
variable{F:Fz}
def loF(F:Fz):Nat->Option Ob:=λn=>match F n with
 | .fz o=>some o
 | _=>none
def jT(h:F n=.fz o):loF F n=some o:=by unfold loF;rw[h]
def Nq(h:loF F n=some o):F n=.fz o:=by
 unfold loF at h;split at h
 ·rename_i m l;cases h;exact l
 ·cases h
end
section
variable{S0 S:Sto}{A:List Sl}{ρ σ:Type}
noncomputable def whF(c:σ->Option Bool)(q:σ->Option (Fw ρ σ)):Nat->σ->Option (Fw ρ σ)
 | 0,_=>none
 | n+1,s=>(c s).bind λt=>if t=true then match q s with
   | some (.nx l)=>whF c q n l
   | some (.ct l)=>whF c q n l
   | some (.bk l)=>some (.nx l)
   | some (.rt r)=>some (.rt r)
   | none=>none
  else some (.nx s)
def da(Y:∀s,VB (B s) t (c s))(hb:∀s,VS (B s) b R (q s) B):∀(n:Nat) (s:σ),VS (B s) (JJ t b n) R (whF c q n s) B:=by
 intro n
 induction n with
 | zero=>intro s f N;cases N
 | succ n X=>
  intro s f N S0 e F S I;unfold whF at N;obtain⟨v,Z,o⟩:=BA N;obtain⟨S1,h3,h4⟩:=Y s v Z S0 e F S I;have J:=I.grow h4
  have run:JJ t b (n+1) e S=if v=true then(b e S1).bind λf l=>match f with
   | .nx m=>JJ t b n m l
   | .ct m=>JJ t b n m l
   | .bk m=>.ok (.nx m) l
   | .rt d=>.ok (.rt d) l
   | .ex c m=>.ok (.ex c m) l
  else .ok (.nx e) S1:=by
   show(t e S).lift e _=_;rw[h3];rfl
  cases v with
  | false=>
   rw[qY AH]at o;cases o;exact⟨_,S1,run.trans (qY AH),e,_,rfl,J,I.fle S1⟩
  | true=>
   rw[qX rfl]at o;rw[run,qX rfl];split at o
   ·rename_i O C
    obtain⟨h,l,E,m,L,rfl,G,H⟩:=hb s _ C S0 e _ S1 J;rw[E];obtain⟨P,Q,T,U⟩:=X O f o S0 m L l G;exact⟨P,Q,T,U.up ((I.fle S1).trans H)⟩
   ·rename_i O C
    obtain⟨h,l,E,m,L,rfl,G,H⟩:=hb s _ C S0 e _ S1 J;rw[E];obtain⟨P,Q,T,U⟩:=X O f o S0 m L l G;exact⟨P,Q,T,U.up ((I.fle S1).trans H)⟩
   ·rename_i O C
    cases o;obtain⟨h,l,E,m,L,rfl,G,H⟩:=hb s _ C S0 e _ S1 J;rw[E];exact⟨_,l,rfl,m,L,rfl,G,(I.fle S1).trans H⟩
   ·rename_i r C
    cases o;obtain⟨h,l,E,d,rfl,G,H⟩:=hb s _ C S0 e _ S1 J;rw[E];exact⟨_,l,rfl,d,rfl,G,H⟩
   ·cases o
def Xo(w0:Wk A (B s0))(l:∀s,VB (B s) t (c s))(hb:∀s,VS (B s) b R (q s) B):VS A (JJ t b n) R (whF c q n s0) B:=λf m S0 e F S o=>
 da l hb n s0 f m S0 e F S (o.weak w0)
end
section
theorem lex_ltL:∀a b:ZLi,HT.lexLt a b=Srt.ltL a b
 | [],[]=>rfl
 | [],_ :: _=>rfl
 | _ :: _,[]=>rfl
 | x :: a,y :: b=>by
  unfold HT.lexLt Srt.ltL;rw[lex_ltL a b]
end
section
variable{S0 S S':Sto}{A B:List Sl}{e:Lo}{F:Fz}{α ρ σ:Type}{a b:ME}{enc:α->D}
def oFK(enc:α->D)(l:List (Int×α)):Ob:=.fK (l.map λx=>(DZ x.1,enc x.2))
def uC(h:S[n]?=some (oFK enc l))(k:Int):NC (.ref n) (.int k) S=some ((An l k).map enc):=by
 unfold NC;dsimp only;rw[h];show some (An _ (DZ k))=_;rw[Ps SO]
def vH(h:S[n]?=some (oFK enc l)):GD (.ref n) S=none:=by unfold GD;dsimp only;rw[h];rfl
def de(o:VE A a (rO (oFK enc)) pl)(hb:VE A b (rV D.int) s):VE A (m2 ixA a b) (rV enc) (pl.bind λl=>s.bind λx=>An l x):=Su o hb λl x z S n m q=>PU (vH m) (by rw[uC m x,q];rfl)
def oV(h:S[n]?=some (oFK enc l)):Yn (.ref n) S=some ((l.map (·.1)).map D.int):=by
 unfold Yn;dsimp only;rw[h];show some _=_;rw[BF,BF];rfl
def qc(h:A[i]?=some (.y (oFK enc l))):VI A (cc (AD i)) D.int (some (l.map (·.1))):=λ_ o S0 e F S m=>by
 cases o;obtain⟨x,s,n,rfl,C,_⟩:=m.sl i _ h;refine⟨ID ((l.map (·.1)).map D.int),S,?_,Keeps.refl S,λ_ _ _ _=>rfl⟩;unfold cc;rw[NV s];dsimp only[Res.bind];rw[oV (m.fz _ _ C)]
def uv{b:MS}{R:Rk ρ}{p:Option (Fw ρ σ)}{B:σ->List Sl}{l:List (Int×α)}(i:Nat)(m:A[i]?=some (.w i (oDK enc l)))(s:((A.set i .u).all (Sl.oth i))=true)(h:VS (A.set i (.y (oFK enc l))) b R p B):VS A (BP (sFz i) b) R p B:=λf H S0 e F S C=>by
 obtain⟨x,E,n,rfl,I,J⟩:=C.sl i _ m;have L:=C.put (o':=oFK enc l) s m E I;have o:(A.set i (.w i (oFK enc l)))[i]?=some (.w i (oFK enc l)):=At (AG.mp m).1;obtain⟨N,G,O⟩:=L.freeze (by rw[uU];exact s) o;rw[uU]at G;obtain⟨g,S',P,Q⟩:=h f H S0 e N _ G;refine⟨g,S',?_,Q.up O⟩
 have:sFz i e S=.ok (.nx e) (S.set n (oFK enc l)):=by
  unfold sFz;rw[E];dsimp only;rw[J];rfl
 exact(CC this).trans P
def hX(m:VE A a (rO (oDK enc)) pl):VB A (Gp a) (pl.bind λl=>some (!l.isEmpty)):=λv o S0 e F S s=>by
 obtain⟨l,C,E⟩:=BA o;cases E;obtain⟨d,S',G,H,n,rfl,I⟩:=m l C S0 e F S s;refine⟨S',?_,H⟩;unfold Gp;rw[G];dsimp only[Res.bind];rw[show Rc (.ref n) S'=some (!l.isEmpty) by unfold Rc;dsimp only;rw[I];show some (!(FX _ l).isEmpty)=_;rw[List.isEmpty_map]]
end
abbrev Pq:=(Nat->Option Ob)->D->Prop
def AtV(P:Pq)(C:AT)(x:Str)(l:D):Prop:=∀L d,P L d->∃q fs,d=.ref q/\L q=some (.ins C fs)/\fs.lookup x=some l
def AtO(P:Pq)(C:AT)(x:Str)(o:Ob):Prop:=∀L d,P L d->∃q fs n,d=.ref q/\L q=some (.ins C fs)/\fs.lookup x=some (.ref n)/\L n=some o
def AtN(P:Pq)(C:AT)(x:Str):Prop:=∀L d,P L d->∃q fs,d=.ref q/\L q=some (.ins C fs)/\fs.lookup x=none
def rQ(P:β->Pq):Rk β:=λv l d S=>∀L:Nat->Option Ob,(∀n o,l.length<=n->S[n]?=some o->L n=some o)->P v L d
section
variable{S0 S S':Sto}{A:List Sl}{e:Lo}{F:Fz}{α β:Type}{enc:α->D}{ob:α->Ob}{i n:Nat}{P:Pq}{Pf Pg:β->Pq}{C:AT}{x:Str}{v:α}{f:β}
theorem Vs.qAt(l:Vs S0 A e F S)(h:A[i]?=some (.q P)):∃d,e[i]?=some (some d)/\P (loF F) d:=by
 obtain⟨x,m,d,rfl,s⟩:=l.sl i _ h;exact⟨d,m,s _ λn o q=>jT q⟩
theorem qp(m:AtV P C x (enc v))(h:A[i]?=some (.q P)):VE A (DY C x (AD i)) (rV enc) (some v):=λ_ o S0 e F S l=>by
 cases o;obtain⟨d,s,B⟩:=Vs.qAt l h;obtain⟨q,fs,rfl,E,G⟩:=m _ _ B;exact⟨_,S,Kz (NV s) (l.fz _ _ (Nq E)) G,Keeps.refl S,rfl⟩
theorem G6(m:AtO P C x (ob v))(h:A[i]?=some (.q P)):VE A (DY C x (AD i)) (rO ob) (some v):=λ_ o S0 e F S l=>by
 cases o;obtain⟨d,s,B⟩:=Vs.qAt l h;obtain⟨q,fs,n,rfl,E,G,H⟩:=m _ _ B;exact⟨_,S,Kz (NV s) (l.fz _ _ (Nq E)) G,Keeps.refl S,n,rfl,l.fz _ _ (Nq H)⟩
theorem qd(B:AtO P C x (oL enc l))(h:A[i]?=some (.q P)):VI A (E1 (DY C x (AD i))) enc (some l):=λ_ E S0 e F S m=>by
 cases E;obtain⟨d,G,H⟩:=Vs.qAt m h;obtain⟨q,fs,n,rfl,I,J,L⟩:=B _ _ H;have o:=Nq L;have s:=m.fz _ _ o;exact⟨_,S,Nu (n:=n) (Kz (NV G) (m.fz _ _ (Nq I)) J) s,Keeps.refl S,λO Q N h=>Ea (h n _ (N _ _ (by rw[G4 (Bc s)];exact o)))⟩
theorem mG(B:AtO P C x (oL enc l))(h:A[i]?=some (.q P)):VI A (Nv (DY C x (AD i))) (eP D.int enc) (some (Dm l)):=λ_ E S0 e F S m=>by
 cases E;obtain⟨d,G,H⟩:=Vs.qAt m h;obtain⟨q,fs,n,rfl,I,J,L⟩:=B _ _ H;have o:=Nq L;have s:=m.fz _ _ o;refine⟨RT (GB (.ref n)),S,?_,Keeps.refl S,λO Q N h=>?_⟩
 ·unfold Nv
  rw[Kz (C:=C) (f:=x) (NV (S:=S) G) (m.fz _ _ (Nq I)) J];dsimp only[Res.bind];rw[Ea s]
 ·unfold RT
  rw[Ea (h n _ (N _ _ (by rw[G4 (Bc s)];exact o)))];exact congrArg some (Vx l)
theorem iA(s:∀L d,Pf f L d->Pg f L d)(h:A[i]?=some (.q (Pf f)))(B:VA A ml q E):VA A (AL (AD i) ml) (q.bind λy=>some (f,y)) (λz=>.q (Pg z.1) :: E z.2):=λv G S0 e F S l=>by
 obtain⟨y,H,I⟩:=BA G;cases I;obtain⟨x,J,d,rfl,N⟩:=l.sl i _ h;obtain⟨U,O,Q,m,R⟩:=B y H S0 e F S l;exact⟨_,O,CU (NV J) Q,m,λL T=>s _ _ (N L λn o q=>T n o (m.at (l.fz _ _ q))),R⟩
theorem Po(H:AtN (Pf f) C m)(I:∀L d,Pf f L d->Pg f L d)(h:A[i]?=some (.q (Pf f)))(J:VA A ml p B)(N:∀z,VF g (.q (Pg f) :: B z) R (q z))(O:∀z,(B z).length+1=n)
  (Q:∀v S S1 d S',S.length<=S1.length->R v S1 d S'->R v S d S'):VE A (Nn C m n g (AD i) ml) R (p.bind q):=λv T S0 e F S l=>by
 obtain⟨z,U,X⟩:=BA T;obtain⟨x,Y,d,rfl,E⟩:=l.sl i _ h;obtain⟨k,fs,rfl,Z,h7⟩:=H _ _ (E (loF F) λn o q=>jT q);obtain⟨ds,S2,q1,s,G⟩:=J z U S0 e F S l;obtain⟨d,S3,r1,r2,r3⟩:=N z v X S2 (.ref k :: ds) ⟨λL hL=>I _ _ (E L λn o q=>hL n o (s.at (l.fz _ _ q))),G⟩;refine⟨d,S3,?_,s.trans r2,Q _ _ _ _ _ s.1 r3⟩;unfold Nn;rw[NV Y];dsimp only[Res.bind];rw[l.fz _ _ (Nq Z)];dsimp only;rw[qX ⟨rfl,h7⟩,q1];dsimp only;rw[qX (by rw[G.len];exact O z)];exact r1
theorem bi(h:VE A m (rQ Pf) p):VS A (CY i m) R (p.bind λv=>some (.nx v)) (λv=>A.set i (.q (Pf v))):=λf s S0 e F S l=>by
 obtain⟨v,B,E⟩:=BA s;cases E;obtain⟨d,S',G,H,I⟩:=h v B S0 e F S l;exact⟨_,S',Jk G,_,_,rfl,(l.grow H).set (a:=.q (Pf v)) (x:=some d) i ⟨d,rfl,λL J=>I L λn o N O=>J n o (UK N O)⟩,l.fle S'⟩
end
def kR(r:ZLi):List Key:=r.map DZ
def oDR(enc:m->D)(l:List (ZLi×m)):Ob:=.dT (l.map λx=>(kR x.1,enc x.2))
theorem jf(x y:ZLi)(h:kR x=kR y):x=y:=by
 have:∀r:ZLi,(kR r).map (λk:Key=>match k with | .inl i=>i | .inr _=>0)=r:=λr=>by
  unfold kR;rw[BF]
  conv=>rhs;rw[<-Sb r]
  rfl
 rw[<-this x,h,this y]
theorem qE(r:ZLi):Os (r.map D.int)=some (kR r):=by
 induction r with
 | nil=>rfl
 | cons x r l=>
  rw[As];unfold Os;rw[l];rfl
section
variable{S0 S S':Sto}{A:List Sl}{e:Lo}{F:Fz}{α:Type}{enc:α->D}{a b:ME}
theorem wV(h:S[n]?=some (oDR enc l))(k:ZLi):NC (.ref n) (eT D.int k) S=some ((An l k).map enc):=by
 unfold NC;dsimp only;rw[h];show(match Os (k.map D.int)with | some m=>some (An (l.map λx:ZLi×α=>(kR x.1,enc x.2)) m) | none=>none)=_;rw[qE];dsimp only;rw[Ps jf]
theorem seqR(h:S[n]?=some (oDR enc l)):GD (.ref n) S=none:=by unfold GD;dsimp only;rw[h];rfl
theorem g9(o:VE A a (rO (oDR enc)) pl)(hb:VE A b (rV (eT D.int)) s):VE A (m2 ixA a b) (rV enc) (pl.bind λl=>s.bind λx=>An l x):=Su o hb λl x z S n m q=>PU (seqR m) (by rw[wV m x,q];rfl)
theorem t9(l:List (ZLi×α))(k:ZLi)(v:α)(S:Sto)(n:Nat)(m:S[n]?=some (oDR enc l))(o:l.length < 1000000):RB (.ref n) (eT D.int k) (enc v) S=some (S.set n (oDR enc (CK l k v))):=by
 unfold RB;dsimp only;rw[m];show(match Os (k.map D.int)with | some s=>if (l.map _).length < sizeLine then some (S.set n (Ob.dT (CK (l.map λx:ZLi×α=>(kR x.1,enc x.2)) s (enc v))))else none | none=>none)=_;rw[qE];dsimp only;rw[qX (by rw[AF];exact aZ o),P5 jf];rfl
theorem mM(l:VE A a (rV D.int) p):VE A (cQ a) (rV D.int) (p.bind λx=>some (Di x:Int)):=λv m S0 e F S o=>by
 obtain⟨x,s,B⟩:=BA m;cases B;obtain⟨d,S',C,E,rfl⟩:=l x s S0 e F S o;refine⟨_,S',?_,E,rfl⟩;unfold cQ;rw[C];rfl
theorem dc(o:VE A a (rO (oDK enc)) pl):VE A (FB a) (rN (oL D.int)) (pl.bind λl=>some (D3 (l.map (·.1)))):=λv s S0 e F S B=>by
 obtain⟨l,C,E⟩:=BA s;cases E;obtain⟨d,S',G,m,n,rfl,H⟩:=o l C S0 e F S B;refine⟨_,_,LR G (d:=.ref n) (ds:=(l.map (·.1)).map D.int) ?_ (es:=(D3 (l.map (·.1))).map D.int) ?_,m.trans (Keeps.app _ _),_,rfl,m.1,E2 _ _⟩
 ·unfold Kw
  dsimp only;rw[H];show some ((l.map _).map _)=_;rw[BF,BF];rfl
 ·unfold M4
  rw[Lb]
theorem hW(s:VE A a (rV B) p)(hb:VE A b (rV (eP eb C)) q):VE A (m2 GN (Hg (AL a BJ)) b) (rV (eP3 B eb C)) (p.bind λx=>q.bind λy=>some (x,y)):=λv l S0 e F S m=>by
 obtain⟨x,E,l⟩:=BA l;obtain⟨y,G,H⟩:=BA l;cases H;obtain⟨d1,I,J,o,rfl⟩:=s x E S0 e F S m;obtain⟨d2,L,N,O,rfl⟩:=hb y G S0 e _ I (m.grow o);exact⟨_,L,EN (S9 (CU J rfl) (Nat.le_of_ble_eq_true rfl)) N rfl,o.trans O,rfl⟩
end
section
variable{α β γ:Type}{A:List Sl}{a:α->D}{b:β->D}{c:γ->D}{m:ME}
theorem OV[DecidableEq α][DecidableEq β][DecidableEq γ]{n:Nat}(l:EqN n a)(hb:EqN n b)(o:EqN n c):EqN (n+1) (eP3 a b c):=λx y=>by
 show eqL (eqP n) [a x.1,b x.2.1,c x.2.2] [a y.1,b y.2.1,c y.2.2]=_;unfold eqL eqL eqL eqL;rw[l,hb,o];obtain⟨s,B,C⟩:=x;obtain⟨y1,y2,y3⟩:=y
 by_cases E:s=y1 <;> by_cases G:B=y2 <;> by_cases H:C=y3 <;> simp[E,G,H]
theorem Yc:NL (eP3 a b c):=λ_ _=>rfl
theorem qh{p:Option (α×β×γ)}(h:VE A m (rV (eP3 a b c)) p):VE A (m2 ixA m (mC (.int 0))) (rV a) (p.bind λx=>some x.1):=λv o s e F S B=>by
 obtain⟨l,C,E⟩:=BA o;cases E;obtain⟨d,G,H,I,rfl⟩:=h l C s e F S B;refine⟨_,G,?_,I,rfl⟩;unfold m2;rw[H];rfl
theorem qg{p:Option (α×β×γ)}(h:VE A m (rV (eP3 a b c)) p):VE A (m2 ixA m (mC (.int 1))) (rV b) (p.bind λx=>some x.2.1):=λv o s e F S B=>by
 obtain⟨l,C,E⟩:=BA o;cases E;obtain⟨d,G,H,I,rfl⟩:=h l C s e F S B;refine⟨_,G,?_,I,rfl⟩;unfold m2;rw[H];rfl
end
section
variable{A:List Sl}
abbrev e3R:T3->D:=eP3 (eT D.int) D.int D.int
theorem X8:∀l:List T3,RU (l.map e3R)=some l
 | []=>rfl
 | t :: l=>by
  rw[As];show RU (.tup [.tup (t.1.map D.int),.int t.2.1,.int t.2.2] :: _)=_;unfold RU;rw[Lb,X8 l]
def TJ(l:List T3):Option (List T3):=if ∀t∈l,t.1.length=(l.headD ([],0,0)).1.length then some (RX l)else none
theorem gt{a:ME}{pl:Option (List T3)}(s:VE A a (rO (oL e3R)) pl):VE A (Wx a) (rN (oL e3R)) (pl.bind TJ):=λv B C e F S E=>by
 obtain⟨l,G,m⟩:=BA B;unfold TJ at m;split at m
 case isFalse=>cases m
 rename_i H;cases m;obtain⟨d,L,I,o,n,rfl,J⟩:=s l G C e F S E;refine⟨_,_,?_,o.trans (Keeps.app _ _),_,rfl,o.1,E2 _ _⟩;unfold Wx;rw[I];dsimp only[Res.bind];rw[HQ J];dsimp only;rw[X8 l];dsimp only;rw[qX H];rfl
end
end L4
namespace M
open L2
abbrev oN(e:L2.Lo)(S:L2.Sto):L2.Res L2.Fl:=.ok (.nx e) S
abbrev sR(n:Nat):Option L2.D:=some (.ref n)
abbrev sI(i:Int):Option L2.D:=some (.int i)
abbrev sF(l:ZLi):Option L2.D:=some (.fro (l.map L2.D.int))
def top(i:Nat):DQ:=qQ.main.body.getD i (.Pass ⟨0,0,0,0⟩)
structure Wd where
 GuardError:AT
 TooLarge:AT
 BadGuards:AT
 Web:AT
 Field:AT
def Wd.excs(W:Wd):List AT:=[W.TooLarge,W.BadGuards]
def HP(W:Wd)(C:AT):Option Bool:=if C∈[W.BadGuards]then some true else if C∈W.excs then some false else none
def Iy(W:Wd)(C:AT):Option Bool:=if C∈[W.TooLarge]then some true else if C∈W.excs then some false else none
def Gz(W:Wd)(C:AT):Option Bool:=if C∈[W.TooLarge,W.BadGuards]then some true else if C∈W.excs then some false else none
abbrev Jn:DQ:=top 11
abbrev Jl:DQ:=top 12
abbrev O9:DQ:=Mc (top 10) 0
abbrev HR:DQ:=top 13
abbrev aH:DQ:=top 14
abbrev O7:DQ:=top 16
abbrev Qr:DQ:=top 17
abbrev Qp:DQ:=top 18
abbrev TR:DQ:=top 19
abbrev aI:DQ:=top 20
abbrev Na:DQ:=top 22
abbrev Qo:DQ:=top 24
abbrev IN:DQ:=top 27
abbrev O8:DQ:=top 28
abbrev Nb:DQ:=top 29
abbrev FS:DQ:=Mc (top 31) 3
abbrev FT:DQ:=Mc (top 31) 4
abbrev MD:DQ:=Mc (top 31) 0
abbrev Kt:DQ:=Mc (top 31) 1
abbrev Jp:DQ:=Mc (top 31) 2
abbrev Jq:DQ:=Mc (top 31) 5
abbrev Kq:DQ:=top 33
abbrev TU:DQ:=top 32
abbrev Jm:DQ:=top 34
abbrev Qq:DQ:=top 35
abbrev Wf:DQ:=top 36
abbrev Jo:DQ:=top 38
abbrev MB:DQ:=top 39
abbrev HS:DQ:=top 40
abbrev Nd:DQ:=top 41
abbrev Ks:DQ:=top 42
abbrev Nf:DQ:=top 43
abbrev MC:DQ:=top 44
abbrev Nc:DQ:=top 45
abbrev Kr:DQ:=top 46
abbrev cE:DQ:=top 47
def UV(W:Wd):MS:=
  (BP (CY 2 Qz)
  (BP (G0 (E1 (AD 1)) (M3 2 (Ek (tgN 3) (Ek (tgN 4) NW)))
  (BP (CY 5 (Hg (AL (mQ P9 (AL (AD 3) (AL (AD 4) BJ))) (AL (mQ Vm (AL (AD 3) (AL (AD 4) BJ))) BJ))))
  (BP (sIf (mB (m2 (eqD false) (m2 ixA (AD 5) (mC (.int 0))) (m2 ixA (AD 5) (mC (.int 1))))) Wg sNx)
  (BP (sIf (mOr (mB (m2 ltD (m2 ixA (AD 5) (mC (.int 0))) (mC (.int 0)))) (mB (m2 geD (m2 ixA (AD 5) (mC (.int 1))) (AD 0)))) Wg sNx)
  (BP (sIf (mB (m2 (inA false) (AD 5) (AD 2))) Wg sNx)
  (DB (AD 2) (AD 5) (mC (.bl true))))))))
  (DP (JL (FB (AD 2))))))
def Hn(W:Wd):List D->Sto->Res D:=D9 6 (UV W)
def N8(W:Wd):MS:=
  (BP (CY 2 (Ee (Ef 1 (iR1 (AL (AD 0) BJ)) (tgN 0) G5 (Ee (FC BJ)))))
  (BP (G0 (E1 (AD 1)) (M3 2 (Ek (tgN 3) (Ek (tgN 4) NW)))
  (BP (Js (Tr (m2 ixA (AD 2) (AD 3)) (AD 4)))
  (Js (Tr (m2 ixA (AD 2) (AD 4)) (AD 3)))))
  (DP (JL (Ee (Ef 1 (E1 (AD 2)) (tgN 0) G5 (JL (FB (AD 0)))))))))
def Hm(W:Wd):List D->Sto->Res D:=D9 5 (N8 W)
def UW(W:Wd):MS:=
  (BP (sIf (Qy (mB (m3 leD leD (mC (.int 1)) (AD 1) (mC (.int 60))))) Wg sNx)
  (BP (Jr W.Web "places" (AD 0) (AD 1))
  (BP (Jr W.Web "ties" (AD 0) (CM 2 (Hn W) (AL (AD 1) (AL (AD 2) BJ))))
  (Jr W.Web "near_sets" (AD 0) (CM 2 (Hm W) (AL (AD 1) (AL (DY W.Web "ties" (AD 0)) BJ)))))))
def Mh(W:Wd):List D->Sto->Res D:=D9 3 (UW W)
def Hs(W:Wd):MS:=
  (sIf (Qy (mB (m3 leD ltD (mC (.int 0)) (AD 1) (DY W.Web "places" (AD 0))))) Wg sNx)
def Hl(W:Wd):List D->Sto->Res D:=D9 2 (Hs W)
def bD(W:Wd):MS:=
  (BP (Js (CM 2 (Hl W) (AL (AD 0) (AL (AD 1) BJ))))
  (DP (m2 ixA (DY W.Web "near_sets" (AD 0)) (AD 1))))
def au(W:Wd):List D->Sto->Res D:=D9 2 (bD W)
def PX(W:Wd):MS:=
  (DP (Ee (Ef 1 (iR1 (AL (DY W.Web "places" (AD 0)) BJ)) (tgN 0) G5 (JL (FB (m2 GN (Hg (AL (AD 0) BJ)) (CM 2 (au W) (AL (AD 1) (AL (AD 0) BJ)))))))))
def Mf(W:Wd):List D->Sto->Res D:=D9 1 (PX W)
def RE(W:Wd):MS:=
  (BP (CY 1 (mC (.int 0)))
  (BP (G0 (E1 (AD 0)) (tgN 2)
  (TW 1 (λa b=>Cw a b) (m2 Rp (mC (.int 1)) (AD 2))))
  (DP (AD 1))))
def Q6(W:Wd):List D->Sto->Res D:=D9 3 (RE W)
def RD(W:Wd):MS:=
  (BP (CY 1 (Ee (FC BJ)))
  (BP (CY 2 (AD 0))
  (BP (JJ (Gp (AD 2)) (BP (Js (Tr (AD 1) (m2 Qj (cQ (m2 UZ (AD 2) (aW (AD 2)))) (mC (.int 1)))))
  (TW 2 (λa b=>Bi a b) (m2 Qj (AD 2) (mC (.int 1))))) wN)
  (DP (AD 1)))))
def OT(W:Wd):List D->Sto->Res D:=D9 3 (RD W)
def Y7(W:Wd)(l:List D->Sto->Res D):MS:=
  (BP (CY 5 (Ee (Ef 1 (E1 (m2 ixA (AD 0) (AD 3))) (tgN 0) (PM (Gp (m2 UZ (m2 YE (AD 2) (AD 0)) (mC (.int 1)))) (mB (m2 (inA true) (AD 0) (AD 5)))) (AD 0))))
  (BP (G0 (E1 (AD 5)) (tgN 6)
  (sIf (mB (m2 (inA true) (AD 6) (AD 2))) (BP (DB (AD 2) (AD 6) (AD 3))
  (DP (mC (.bl true)))) sNx))
  (BP (G0 (E1 (AD 5)) (tgN 6)
  (sIf (mB (m2 (inA true) (AD 6) (AD 4))) (BP (DB (AD 4) (AD 6) (mC (.bl true)))
  (sIf (Gp (CM 5 l (AL (AD 0) (AL (AD 1) (AL (AD 2) (AL (m2 ixA (AD 2) (AD 6)) (AL (AD 4) BJ))))))) (BP (DB (AD 2) (AD 6) (AD 3))
  (DP (mC (.bl true)))) sNx)) sNx))
  (DP (mC (.bl false))))))
def G3(W:Wd):Nat->List D->Sto->Res D
 | 0=>λ_ _=>.bad
 | n+1=>D9 7 (Y7 W (G3 W n))
def bE(W:Wd):MS:=
  (BP (CY 3 Jy)
  (BP (G0 (E1 (AD 1)) (tgN 4)
  (sIf (Gp (m2 UZ (m2 YE (AD 2) (AD 4)) (mC (.int 1)))) (DB (AD 3) (AD 4) (AD 4)) sNx))
  (BP (G0 (E1 (AD 1)) (tgN 4)
  (sIf (PM (Qy (Gp (m2 UZ (m2 YE (AD 2) (AD 4)) (mC (.int 1))))) (Qy (Gp (CM 5 (G3 W 64) (AL (AD 0) (AL (AD 2) (AL (AD 3) (AL (AD 4) (AL Jy BJ))))))))) (DP (mC (.bl false))) sNx))
  (DP (mC (.bl true))))))
def XD(W:Wd):List D->Sto->Res D:=D9 5 (bE W)
def N7(W:Wd):MS:=
  (DP (JL (Ee (Ef 1 (E1 (AD 0)) (tgN 0) G5 (Yk (mB (m2 (eqD false) (AD 0) (AD 2))) (AD 3) (AD 0))))))
def N1(W:Wd):List D->Sto->Res D:=D9 3 (N7 W)
def RC(W:Wd):MS:=
  (BP (CY 2 (Ee (FC (AL (Hg BJ) BJ))))
  (BP (G0 (iR1 (AL (AD 1) BJ)) (tgN 3)
  (BP (CY 4 (Ee (FC BJ)))
  (BP (G0 (E1 (AD 2)) (tgN 5)
  (BP (CY 6 (Yk (Gp (AD 5)) (m2 GN (m2 ixA (AD 5) (aW (mC (.int 1)))) (mC (.int 1))) (mC (.int 0))))
  (G0 (iR2 (AL (AD 6) (AL (m2 GN (m2 GN (m2 Qj (AD 0) (AD 1)) (AD 3)) (mC (.int 1))) BJ))) (tgN 7)
  (Js (Tr (AD 4) (m2 GN (AD 5) (Hg (AL (AD 7) BJ))))))))
  (CY 2 (AD 4)))))
  (DP (AD 2))))
def Q5(W:Wd):List D->Sto->Res D:=D9 8 (RC W)
def IY(W:Wd):MS:=
  (BP (CY 2 (mC (.int 1)))
  (BP (G0 (iR1 (AL (AD 1) BJ)) (tgN 3)
  (CY 2 (m2 JT (m2 oJ (AD 2) (m2 Qj (AD 0) (AD 3))) (m2 GN (AD 3) (mC (.int 1))))))
  (DP (AD 2))))
def IW(W:Wd):List D->Sto->Res D:=D9 4 (IY W)
def Mo(W:Wd):MS:=
  (BP (sIf (Qy (mB (m3 leD leD (mC (.int 1)) (AD 1) (DY W.Web "places" (AD 0))))) (TV W.BadGuards (AL (mC (.str "a web has standings of 1 guard up to as many as places")) BJ)) sNx)
  (DP (CM 2 (IW W) (AL (DY W.Web "places" (AD 0)) (AL (AD 1) BJ)))))
def IX(W:Wd):List D->Sto->Res D:=D9 2 (Mo W)
def JD(W:Wd):MS:=
  (BP (sIf (mB (m2 gtD (CM 2 (IX W) (AL (AD 0) (AL (AD 1) BJ))) (mC (.int 400)))) (TV W.TooLarge (AL (jP (Tz (mC (.str "there are more than ")) (Tz (sd (mC (.int 400))) (Tz (mC (.str " standings")) oW)))) BJ)) sNx)
  (DP (CM 2 (Q5 W) (AL (DY W.Web "places" (AD 0)) (AL (AD 1) BJ)))))
def HF(W:Wd):List D->Sto->Res D:=D9 2 (JD W)
def FU(W:Wd):MS:=
  (BP (CY 2 (m2 ixA (DY W.Field "everything" (AD 0)) (AD 1)))
  (BP (CY 3 (mC (.int 0)))
  (BP (G0 (E1 (AD 2)) (tgN 4)
  (G0 (E1 (m2 ixA (DY W.Field "takes" (AD 0)) (AD 4))) (tgN 5)
  (sIf (mB (m2 (inA true) (AD 5) (AD 2))) (TW 3 (λa b=>Cw a b) (m2 Rp (mC (.int 1)) (m2 ixA (DY W.Field "numbers" (AD 0)) (JL (FB (CM 3 (N1 W) (AL (AD 2) (AL (AD 4) (AL (AD 5) BJ))))))))) sNx)))
  (DP (AD 3)))))
def DT(W:Wd):List D->Sto->Res D:=D9 6 (FU W)
def FV(W:Wd):MS:=
  (BP (CY 2 (m2 ixA (DY W.Field "everything" (AD 0)) (AD 1)))
  (BP (CY 3 (mC (.int 0)))
  (BP (G0 (Nv (DY W.Field "place_bits" (AD 0))) (M3 2 (Ek (tgN 4) (Ek (tgN 5) NW)))
  (sIf (Gp (CM 3 (XD W) (AL (DY W.Field "takes" (AD 0)) (AL (AD 2) (AL (AD 5) BJ))))) (TW 3 (λa b=>Cw a b) (m2 Rp (mC (.int 1)) (AD 4))) sNx))
  (DP (AD 3)))))
def DU(W:Wd):List D->Sto->Res D:=D9 6 (FV W)
def Mr(W:Wd):MS:=
  (BP (Jr W.Field "everything" (AD 0) (CM 2 (HF W) (AL (AD 1) (AL (AD 2) BJ))))
  (BP (Jr W.Field "kind" (AD 0) (AD 3))
  (BP (Jr W.Field "takes" (AD 0) (CM 1 (Mf W) (AL (AD 1) BJ)))
  (BP (Jr W.Field "numbers" (AD 0) Qz)
  (BP (Jr W.Field "having" (AD 0) (Ee (Ef 1 (iR1 (AL (DY W.Web "places" (AD 1)) BJ)) (tgN 0) G5 (mC (.int 0)))))
  (BP (G0 (Nv (DY W.Field "everything" (AD 0))) (M3 2 (Ek (tgN 4) (Ek (tgN 5) NW)))
  (BP (DB (DY W.Field "numbers" (AD 0)) (AD 5) (AD 4))
  (G0 (E1 (AD 5)) (tgN 6)
  (YK (λa b=>Cw a b) (DY W.Field "having" (AD 0)) (AD 6) (m2 Rp (mC (.int 1)) (AD 4))))))
  (BP (Jr W.Field "place_bits" (AD 0) (Ee (Ef 1 (E1 (DY W.Field "everything" (AD 0))) (tgN 0) G5 (CM 1 (Q6 W) (AL (AD 0) BJ)))))
  (Jr W.Field "known" (AD 0) Jy))))))))
def Ir(W:Wd):List D->Sto->Res D:=D9 7 (Mr W)
def LM(W:Wd)(ds:List D)(S:Sto)(k:Key):Int:=match ds,k with
 | .ref q :: _,.inl n=>lmI (if tt "kind" q S=some ("one" : Str)then DT W [.ref q,.int n] S else DU W [.ref q,.int n] S)
 | _,_=>0
def Ei(W:Wd):List D->Sto->Res D:=Yi "known" (LM W) (Ir W)
def LF(W:Wd):MS:=
  (BP (CY 2 (m2 ixA (DY W.Field "everything" (AD 0)) (AD 1)))
  (DP (Ee (Ef 1 (iR1 (AL (QA (DY W.Field "takes" (AD 0))) BJ)) (tgN 0) (mB (m2 (inA true) (AD 0) (AD 3))) (AD 0)))))
def K6(W:Wd):List D->Sto->Res D:=D9 3 (LF W)
def KF(W:Wd):MS:=
  (BP (sIf (mB (m2 (inA true) (AD 1) (DY W.Field "known" (AD 0)))) (DB (DY W.Field "known" (AD 0)) (AD 1) (Yk (mB (m2 (eqD false) (DY W.Field "kind" (AD 0)) (mC (.str "one")))) (Nn W.Field "linked_by_one" 2 (DT W) (AD 0) (AL (AD 1) BJ)) (Nn W.Field "linked_by_all" 2 (DU W) (AD 0) (AL (AD 1) BJ)))) sNx)
  (DP (m2 ixA (DY W.Field "known" (AD 0)) (AD 1))))
def JM(W:Wd):List D->Sto->Res D:=D9 2 (KF W)
def Hq(W:Wd):List D->Sto->Res D:=pV "known" (JM W)
def KG(W:Wd):MS:=
  (DP (m2 UZ (Nn W.Field "linked" 2 (Hq W) (AD 0) (AL (AD 1) BJ)) (m2 ixA (DY W.Field "having" (AD 0)) (AD 2))))
def KA(W:Wd):List D->Sto->Res D:=D9 3 (KG W)
def LB(W:Wd):MS:=
  (BP (CY 2 Jy)
  (BP (G0 (E1 (CM 1 (OT W) (AL (AD 1) BJ))) (tgN 3)
  (BP (CY 4 (Ee (Ef 1 (E1 (Nn W.Field "calls" 2 (K6 W) (AD 0) (AL (AD 3) BJ))) (tgN 0) (mB (m2 (eqD false) (m2 UZ (Nn W.Field "behind" 3 (KA W) (AD 1) (AL (AD 4) (AL (AD 0) BJ))) (AD 2)) (mC (.int 0)))) (AD 0))))
  (sIf (Gp (AD 4)) (DB (AD 2) (AD 3) (m2 ixA (AD 4) (mC (.int 0)))) sNx)))
  (DP (AD 2))))
def Iq(W:Wd):List D->Sto->Res D:=D9 5 (LB W)
def UU(W:Wd):MS:=
  (BP (CY 1 Jy)
  (BP (CY 2 (m2 Qj (m2 Rp (mC (.int 1)) (QA (DY W.Field "everything" (AD 0)))) (mC (.int 1))))
  (BP (CY 3 (mC (.int 1)))
  (BP (CY 4 (CM 2 (Iq W) (AL (AD 0) (AL (AD 2) BJ))))
  (BP (JJ (Gp (AD 4)) (BP (BP (sFz 4) (G0 (cc (AD 4)) (tgN 5)
  (BP (DB (AD 1) (AD 5) (Hg (AL (AD 3) (AL (m2 ixA (AD 4) (AD 5)) BJ))))
  (TW 2 (λa b=>Et a b) (m2 Rp (mC (.int 1)) (AD 5))))))
  (BP (TW 3 (λa b=>a+b) (mC (.int 1)))
  (CY 4 (CM 2 (Iq W) (AL (AD 0) (AL (AD 2) BJ)))))) wN)
  (DP (AD 1)))))))
def QK(W:Wd):List D->Sto->Res D:=D9 6 (UU W)
def KC(W:Wd):MS:=
  (DP (oP (Ee (Ef 1 (iR1 (AL (QA (DY W.Field "everything" (AD 0))) BJ)) (tgN 0) (mB (m2 (inA true) (AD 0) (AD 2))) (m2 Rp (mC (.int 1)) (AD 0))))))
def J9(W:Wd):List D->Sto->Res D:=D9 2 (KC W)
def OW(W:Wd):MS:=
  (BP (CY 3 (No W.Field 4 (Ei W) (AL (AD 0) (AL (AD 1) (AL (AD 2) BJ)))))
  (DP (Ee (Ef 1 (E1 (CM 1 (OT W) (AL (CM 2 (J9 W) (AL (AD 3) (AL (CM 1 (QK W) (AL (AD 3) BJ)) BJ))) BJ))) (tgN 0) G5 (m2 ixA (DY W.Field "everything" (AD 4)) (AD 0))))))
def HG(W:Wd):List D->Sto->Res D:=D9 4 (OW W)
def SV(W:Wd):MS:=
  (BP (CY 3 (No W.Field 4 (Ei W) (AL (AD 0) (AL (AD 1) (AL (AD 2) BJ)))))
  (BP (CY 4 (CM 1 (QK W) (AL (AD 3) BJ)))
  (DP (Ee (Ef 1 (E1 (FB (AD 4))) (tgN 0) G5 (m2 GN (Hg (AL (m2 ixA (DY W.Field "everything" (AD 4)) (AD 0)) BJ)) (m2 ixA (AD 5) (AD 0))))))))
def Kh(W:Wd):List D->Sto->Res D:=D9 5 (SV W)
def KD(W:Wd):MS:=
  (BP (sIf (mB (m2 ltD (AD 1) (QA (AD 0)))) (DP (m2 ixA (AD 0) (AD 1))) sNx)
  (DP (mC (.int 0))))
def ED(W:Wd):List D->Sto->Res D:=D9 2 (KD W)
def Mp(W:Wd):MS:=
  (BP (CY 1 (Ee (FC BJ)))
  (BP (G0 (iR1 (AL (AD 0) BJ)) (tgN 2)
  (G0 (iR2 (AL (m2 GN (AD 2) (mC (.int 1))) (AL (AD 0) BJ))) (tgN 3)
  (Js (Tr (AD 1) (Hg (AL (AD 2) (AL (AD 3) BJ)))))))
  (DP (AD 1))))
def Jc(W:Wd):List D->Sto->Res D:=D9 4 (Mp W)
def Ht(W:Wd):MS:=
  (BP (sIf (mB (m2 (eqD false) (AD 1) (mC (.int 1)))) (DP (Ee (Ef 1 (iR1 (AL (m2 Qj (AD 0) (mC (.int 1))) BJ)) (tgN 0) G5 (Hg (AL (AD 0) (AL (m2 GN (AD 0) (mC (.int 1))) BJ)))))) sNx)
  (BP (sIf (mB (m2 (eqD false) (AD 1) (mC (.int 2)))) (DP (m2 GN (Ee (Ef 1 (iR1 (AL (m2 Qj (AD 0) (mC (.int 1))) BJ)) (tgN 0) G5 (Hg (AL (AD 0) (AL (m2 GN (AD 0) (mC (.int 1))) BJ))))) (Ee (FC (AL (Hg (AL (mC (.int 0)) (AL (m2 Qj (AD 0) (mC (.int 1))) BJ))) BJ))))) sNx)
  (BP (sIf (mB (m2 (eqD false) (AD 1) (mC (.int 3)))) (DP (CM 1 (Jc W) (AL (AD 0) BJ))) sNx)
  (BP (sIf (mB (m2 (eqD false) (AD 1) (mC (.int 4)))) (DP (Ee (Ef 1 (iR2 (AL (mC (.int 1)) (AL (AD 0) BJ))) (tgN 0) G5 (Hg (AL (mC (.int 0)) (AL (AD 0) BJ)))))) sNx)
  (DP (Ee (FC BJ)))))))
def Ho(W:Wd):List D->Sto->Res D:=D9 2 (Ht W)
def OA(W:Wd):MS:=
  (BP (CY 3 (CM 1 (Jc W) (AL (AD 2) BJ)))
  (BP (CY 4 Qz)
  (BP (G0 (E1 (CM 2 (Ho W) (AL (AD 2) (AL (m2 Nk (m2 JT (CM 2 (ED W) (AL (AD 0) (AL (mC (.int 0)) BJ))) (mC (.int 7))) (mC (.int 6))) BJ)))) (tgN 5)
  (DB (AD 4) (AD 5) (mC (.bl true))))
  (BP (G0 (iR2 (AL (AD 1) (AL (mQ P9 (AL (QA (AD 0)) (AL (mC (.int 63)) BJ))) BJ))) (tgN 6)
  (BP (CY 5 (m2 ixA (AD 3) (m2 Nk (m2 ixA (AD 0) (AD 6)) (QA (AD 3)))))
  (DB (AD 4) (AD 5) (jO (m2 (inA true) (AD 5) (AD 4)) (cP (m2 ixA (AD 4) (AD 5)))))))
  (DP (Ee (Ef 1 (E1 (AD 3)) (tgN 0) (PM (mB (m2 (inA false) (AD 0) (AD 5))) (Gp (m2 ixA (AD 5) (AD 0)))) (AD 0))))))))
def N2(W:Wd):List D->Sto->Res D:=D9 7 (OA W)
def LD(W:Wd):MS:=
  (BP (sIf (mB (m2 (eqD false) (m2 Nk (m2 JT (CM 2 (ED W) (AL (AD 0) (AL (mC (.int 0)) BJ))) (mC (.int 42))) (mC (.int 2))) (mC (.int 0)))) (DP (Ee (mN cT (Uz (AD 1))))) sNx)
  (DP (Ee (Ef 1 (cb (AD 1)) (tgN 0) G5 (Hg (AL (m2 ixA (AD 0) (mC (.int 1))) (AL (m2 ixA (AD 0) (mC (.int 0))) BJ)))))))
def K5(W:Wd):List D->Sto->Res D:=D9 2 (LD W)
def OB(W:Wd):MS:=
  (BP (CY 2 (Ee (FC (AL (Hg BJ) BJ))))
  (BP (G0 (iR1 (AL (AD 1) BJ)) (tgN 3)
  (BP (CY 4 (Ee (FC BJ)))
  (BP (G0 (E1 (AD 2)) (tgN 5)
  (BP (CY 6 (mC (.int 0)))
  (BP (sIf (mB (m2 (eqD true) (AD 5) (Hg BJ))) (CY 6 (m2 GN (m2 ixA (AD 5) (aW (mC (.int 1)))) (mC (.int 1)))) sNx)
  (Js (QB (AD 4) (Ee (Ef 1 (iR2 (AL (AD 6) (AL (m2 GN (m2 GN (m2 Qj (AD 0) (AD 1)) (AD 3)) (mC (.int 1))) BJ))) (tgN 0) G5 (m2 GN (AD 6) (Hg (AL (AD 0) BJ))))))))))
  (CY 2 (AD 4)))))
  (DP (AD 2))))
def N3(W:Wd):List D->Sto->Res D:=D9 7 (OB W)
def Mq(W:Wd):MS:=
  (BP (CY 2 (mC (.int 1)))
  (BP (G0 (iR1 (AL (AD 1) BJ)) (tgN 3)
  (CY 2 (m2 JT (m2 oJ (AD 2) (m2 Qj (AD 0) (AD 3))) (m2 GN (AD 3) (mC (.int 1))))))
  (DP (AD 2))))
def Mg(W:Wd):List D->Sto->Res D:=D9 4 (Mq W)
def N9(W:Wd):MS:=
  (BP (CY 4 (mC .non))
  (BP (eM W.excs 5 (sIf (mB (m2 (eqD false) (AD 3) (mC (.int 0)))) (CY 4 (CM 3 (HG W) (AL (AD 0) (AL (AD 1) (AL (AD 2) BJ))))) (CY 4 (CM 3 (Kh W) (AL (AD 0) (AL (AD 1) (AL (AD 2) BJ)))))) (CY 4 (Hg (AL (L2.mIs isN (HP W) (AD 5)) (AL (L2.mIs isN (Iy W) (AD 5)) (AL (L2.mIs isV (Gz W) (AD 5)) BJ))))))
  (DP (AD 4))))
def Dg(W:Wd):List D->Sto->Res D:=D9 6 (N9 W)
def LC(W:Wd):MS:=
  (BP (CY 3 (CM 4 (Dg W) (AL (AD 0) (AL (AD 1) (AL (AD 2) (AL (mC (.int 0)) BJ))))))
  (BP (CY 4 (CM 4 (Dg W) (AL (AD 0) (AL (AD 1) (AL (AD 2) (AL (mC (.int 1)) BJ))))))
  (BP (CY 5 (FB (m2 GN (AD 3) (Ee (Ef 1 (E1 (AD 4)) (tgN 0) G5 (m2 ixA (AD 0) (mC (.int 0))))))))
  (BP (sIf (mOr (mB (m2 (eqD true) (AD 5) (CM 2 (N3 W) (AL (DY W.Web "places" (AD 0)) (AL (AD 1) BJ))))) (mOr (mB (m2 (eqD true) (FB (AD 3)) (AD 3))) (mB (m2 (eqD true) (Wx (AD 4)) (AD 4))))) (DP (mC (.bl false))) sNx)
  (BP (sIf (mB (m2 (eqD false) (AD 1) (DY W.Web "places" (AD 0)))) (DP (Ts (m2 (eqD false) (QA (AD 3)) (mC (.int 1))) (m2 (eqD false) (AD 4) (Ee (FC BJ))))) sNx)
  (BP (sIf (mB (m2 (eqD false) (DY W.Web "ties" (AD 0)) (Hg BJ))) (DP (Ts (m2 (eqD false) (AD 3) (Ee (FC BJ))) (mQ pS (Uz (Ee (Ef 1 (E1 (AD 4)) (tgN 0) G5 (m2 (eqD false) (m2 ixA (AD 0) (mC (.int 1))) (mC (.int 1))))))))) sNx)
  (DP (mC (.bl true)))))))))
def K0(W:Wd):List D->Sto->Res D:=D9 6 (LC W)
def kt(W:Wd):MS:=
  (BP (CY 1 (CM 2 (ED W) (AL (AD 0) (AL (mC (.int 0)) BJ))))
  (BP (CY 2 (m2 GN (m2 GN (mC (.int 2)) (m2 Nk (AD 1) (mC (.int 5)))) (jQ (m2 (eqD false) (m2 Nk (m2 JT (AD 1) (mC (.int 84))) (mC (.int 8))) (mC (.int 1))))))
  (BP (CY 3 (CM 3 (N2 W) (AL (AD 0) (AL (mC (.int 3)) (AL (AD 2) BJ)))))
  (BP (sIf (mB (m2 (eqD false) (m2 Nk (m2 JT (AD 1) (mC (.int 7))) (mC (.int 6))) (mC (.int 5)))) (CY 2 (m2 GN (mC (.int 11)) (m2 Nk (m2 JT (AD 1) (mC (.int 84))) (mC (.int 50))))) sNx)
  (BP (CY 4 (No W.Web 3 (Mh W) (AL (AD 2) (AL (CM 2 (K5 W) (AL (AD 0) (AL (AD 3) BJ))) BJ))))
  (BP (CY 5 (CM 2 (ED W) (AL (AD 0) (AL (mC (.int 1)) BJ))))
  (BP (CY 6 (m2 ixA (Ee (FC (AL (mC (.str "one")) (AL (mC (.str "all")) BJ)))) (m2 Nk (CM 2 (ED W) (AL (AD 0) (AL (mC (.int 2)) BJ))) (mC (.int 2)))))
  (BP (CY 7 (m2 GN (mC (.int 1)) (m2 Nk (m2 JT (AD 5) (mC (.int 9))) (mQ P9 (AL (AD 2) (AL (m2 ixA (Ee (FC (AL (mC (.int 3)) (AL (mC (.int 5)) BJ)))) (jQ (m2 ltD (AD 2) (mC (.int 6))))) BJ))))))
  (BP (sIf (mB (m2 (eqD false) (m2 Nk (AD 5) (mC (.int 9))) (mC (.int 7)))) (CY 7 (m2 ixA (Ee (FC (AL (mC (.int 0)) (AL (m2 Qj (aW (mC (.int 1))) (m2 JT (AD 5) (mC (.int 9)))) (AL (m2 GN (AD 2) (mC (.int 1))) (AL (m2 GN (m2 GN (AD 2) (mC (.int 1))) (m2 JT (AD 5) (mC (.int 9)))) BJ)))))) (m2 Nk (m2 JT (AD 5) (mC (.int 9))) (mC (.int 4))))) sNx)
  (BP (sIf (PM (mB (m2 gtD (m2 Nk (AD 5) (mC (.int 9))) (mC (.int 4)))) (mB (m2 gtD (AD 2) (mC (.int 10))))) (CY 7 (m2 GN (mC (.int 1)) (m2 Nk (m2 JT (AD 5) (mC (.int 9))) (AD 2)))) sNx)
  (BP (sIf (mOr (mB (m2 ltD (AD 7) (mC (.int 1)))) (mB (m2 gtD (AD 7) (AD 2)))) (CY 8 (Hg (AL (mC (.bl true)) (AL (mC (.bl false)) (AL (mC (.bl true)) BJ))))) (sIf (mB (m2 gtD (CM 2 (Mg W) (AL (AD 2) (AL (AD 7) BJ))) (mC (.int 400)))) (CY 8 (Hg (AL (mC (.bl false)) (AL (mC (.bl true)) (AL (mC (.bl true)) BJ))))) (sIf (PM (mB (m2 gtD (AD 2) (mC (.int 10)))) (PM (mB (m2 gtD (AD 7) (mC (.int 1)))) (mOr (mB (m2 gtD (AD 2) (mC (.int 12)))) (mB (m2 (eqD false) (AD 6) (mC (.str "all"))))))) (DP (mC (.bl true))) (DP (CM 3 (K0 W) (AL (AD 4) (AL (AD 7) (AL (AD 6) BJ))))))))
  (DP (Ts (m2 (eqD false) (CM 4 (Dg W) (AL (AD 4) (AL (AD 7) (AL (AD 6) (AL (mC (.int 0)) BJ))))) (AD 8)) (m2 (eqD false) (CM 4 (Dg W) (AL (AD 4) (AL (AD 7) (AL (AD 6) (AL (mC (.int 1)) BJ))))) (AD 8)))))))))))))))
def cp(W:Wd):List D->Sto->Res D:=D9 9 (kt W)
set_option genInjectivity false in
structure Txt(K:AE)(mg:Str->Option AI)(W:Wd) where
 d_checked_ties:Dfn K mg "checked_ties" "checked_ties" Jn ["places", "ties"]
 d_near_sets_of:Dfn K mg "near_sets_of" "near_sets_of" Jl ["places", "ties"]
 d_Web_init:Mtd K "__init__" "Web.__init__" O9 ["self", "places", "ties"]
 d_refuse_no_place:Dfn K mg "refuse_no_place" "refuse_no_place" HR ["web", "place"]
 d_near:Dfn K mg "near" "near" aH ["web", "place"]
 d_takes_of:Dfn K mg "takes_of" "takes_of" O7 ["web"]
 d_bits_of:Dfn K mg "bits_of" "bits_of" Qr ["some"]
 d_members:Dfn K mg "members" "members" Qp ["bits"]
 d_settle:Dfn K mg "settle" "settle" TR ["takes", "bits", "holders", "guard", "seen"]
 d_fits:Dfn K mg "fits" "fits" aI ["takes", "guards", "bits"]
 d_with_step:Dfn K mg "with_step" "with_step" Na ["standing", "guard", "place"]
 d_sets_of:Dfn K mg "sets_of" "sets_of" Qo ["places", "size"]
 d_ways_to_choose:Dfn K mg "ways_to_choose" "ways_to_choose" IN ["places", "size"]
 d_how_many:Dfn K mg "how_many" "how_many" O8 ["web", "guards"]
 d_standings:Dfn K mg "standings" "standings" Nb ["web", "guards"]
 d_Field_linked_by_one:Mtd K "linked_by_one" "Field.linked_by_one" FS ["self", "number"]
 d_Field_linked_by_all:Mtd K "linked_by_all" "Field.linked_by_all" FT ["self", "number"]
 d_Field_init:Mtd K "__init__" "Field.__init__" MD ["self", "web", "guards", "kind"]
 d_Field_calls:Mtd K "calls" "Field.calls" Kt ["self", "number"]
 d_Field_linked:Mtd K "linked" "Field.linked" Jp ["self", "number"]
 d_Field_behind:Mtd K "behind" "Field.behind" Jq ["self", "number", "call"]
 d_falling_now:Dfn K mg "falling_now" "falling_now" Kq ["field", "left"]
 d_fallen:Dfn K mg "fallen" "fallen" TU ["field"]
 d_lasting_bits:Dfn K mg "lasting_bits" "lasting_bits" Jm ["field", "gone"]
 d_lasting:Dfn K mg "lasting" "lasting" Qq ["web", "guards", "kind"]
 d_falls:Dfn K mg "falls" "falls" Wf ["web", "guards", "kind"]
 d__law_cell_at:Dfn K mg "_law_cell_at" "_law_cell_at" Jo ["script", "k"]
 d__law_pairs:Dfn K mg "_law_pairs" "_law_pairs" MB ["places"]
 d__law_first_ties:Dfn K mg "_law_first_ties" "_law_first_ties" HS ["places", "style"]
 d__law_ties:Dfn K mg "_law_ties" "_law_ties" Nd ["script", "first", "places"]
 d__law_handed:Dfn K mg "_law_handed" "_law_handed" Ks ["script", "ties"]
 d__law_sets:Dfn K mg "_law_sets" "_law_sets" Nf ["places", "guards"]
 d__law_count:Dfn K mg "_law_count" "_law_count" MC ["many", "some"]
 d__law_told:Dfn K mg "_law_told" "_law_told" Nc ["web", "guards", "kind", "way"]
 d__law_shared:Dfn K mg "_law_shared" "_law_shared" Kr ["web", "guards", "kind"]
 d_law:Dfn K mg "law" "law" cE ["script"]
 c_Web:Own K mg "Web" W.Web d_Web_init.f
 n_Web_places:FW K W.Web "places"
 n_Web_ties:FW K W.Web "ties"
 n_Web_near_sets:FW K W.Web "near_sets"
 c_Field:Own K mg "Field" W.Field d_Field_init.f
 n_Field_everything:FW K W.Field "everything"
 n_Field_kind:FW K W.Field "kind"
 n_Field_takes:FW K W.Field "takes"
 n_Field_numbers:FW K W.Field "numbers"
 n_Field_having:FW K W.Field "having"
 n_Field_place_bits:FW K W.Field "place_bits"
 n_Field_known:FW K W.Field "known"
 m_Field_linked_by_one:XV K W.Field "linked_by_one" d_Field_linked_by_one.f
 m_Field_linked_by_all:XV K W.Field "linked_by_all" d_Field_linked_by_all.f
 m_Field_calls:XV K W.Field "calls" d_Field_calls.f
 m_Field_linked:XV K W.Field "linked" d_Field_linked.f
 m_Field_behind:XV K W.Field "behind" d_Field_behind.f
 xm_GuardError:mg "GuardError" = some (.ref W.GuardError)
 x_TooLarge:Xcl K mg "TooLarge" W.TooLarge
 x_BadGuards:Xcl K mg "BadGuards" W.BadGuards
 nd:W.excs.Nodup
 caught_GuardError:∀c∈W.excs,bQ K c W.GuardError
 is_BadGuards:∀C b,HP W C=some b->XIs K C/\CW K (.ref C) (.ref W.BadGuards)=some b
 i_BadGuards:(Ej K W.BadGuards).isSome=true/\Jh K (.ref W.BadGuards)=some (.type "type")
 is_TooLarge:∀C b,Iy W C=some b->XIs K C/\CW K (.ref C) (.ref W.TooLarge)=some b
 i_TooLarge:(Ej K W.TooLarge).isSome=true/\Jh K (.ref W.TooLarge)=some (.type "type")
 is_ValueError:∀C b,Gz W C=some b->XIs K C/\CW K (.ref C) (.type "ValueError")=some b
 b_ValueError:mg "ValueError" = none
 b_all:mg "all" = none
 b_enumerate:mg "enumerate" = none
 b_int:mg "int" = none
 b_isinstance:mg "isinstance" = none
 b_len:mg "len" = none
 b_list:mg "list" = none
 b_max:mg "max" = none
 b_min:mg "min" = none
 b_range:mg "range" = none
 b_reversed:mg "reversed" = none
 b_sorted:mg "sorted" = none
 b_sum:mg "sum" = none
 b_tuple:mg "tuple" = none
 g_MOST_PLACES:∃tk,mg "MOST_PLACES" = some (.int 60 tk)
 g_MOST_STANDINGS:∃tk,mg "MOST_STANDINGS" = some (.int 400 tk)
section
variable{P:Bf}{w:CH}{K:AE}{mg:Str->Option AI}{base:DA}{W:Wd}
theorem Rs:Bk ["places", "ties", "found", "one", "other", "tie"] ["places", "ties"] (BD Jn):=Fg
theorem Ry(T:Txt K mg W):DF P w K mg base (CXG P w) 1 T.d_checked_ties.f T.d_checked_ties.fd ["places", "ties"] (spM K 2 (Hn W)):=by
 refine B9 (k:=0) T.d_checked_ties.F Rs rfl λ_ _ _ _ _ _ o O l m s A=>?_
 exact(AS (CI 2 m UG)
  (AS (Dr (BI O).own rfl (D2 (AA (pv 1))) (W6 rfl (JB (Cf 3 m) (JB (Cf 4 m) SQ)))
  (AS (CI 5 m (FD (AJ (W9 rfl rfl T.b_min (AJ (AA (pv 3)) (AJ (AA (pv 4)) Ao))) (AJ (oj rfl rfl T.b_max (AJ (AA (pv 3)) (AJ (AA (pv 4)) Ao))) Ao))))
  (AS (Dv (Cp (Gm l) (Df l (AA (pv 5)) ge_int) (Df l (AA (pv 5)) ge_int) (CT _)) (Ab Nx) Ce)
  (AS (Dv (W3 (Yr (Cp YZ (Df l (AA (pv 5)) ge_int) ge_int (CT _)) (W2 (Cp vf (Df l (AA (pv 5)) ge_int) (AA (pv 0)) (CT _))))) (Ab Nx) Ce)
  (AS (Dv (qH l (AA (pv 5)) (AA (pv 2))) (Ab Nx) Ce)
  (Ab (Hj (Ay (CN (by decide:1<=64) _) l) (AA (pv 2)) (AA (pv 5)) JC rfl)))))))
  (Ab (By (Ld rfl T.b_tuple (IU rfl rfl T.b_sorted (AA (pv 2))))))))
theorem Rq:Bk ["places", "ties", "rows", "one", "other"] ["places", "ties"] (BD Jl):=Fg
theorem Rw(T:Txt K mg W):DF P w K mg base (CXG P w) 1 T.d_near_sets_of.f T.d_near_sets_of.fd ["places", "ties"] (spM K 2 (Hm W)):=by
 refine B9 (k:=0) T.d_near_sets_of.F Rq rfl λ_ _ _ _ _ _ o O m l s A=>?_
 exact(AS (W4 (i:=2) (own:=["place"]) (N':=["place", "·1", "·2", "·3", "·4", "·5"]) rfl rfl l rfl (by first | exact Ud rfl | exact RI rfl) (Do (by kernel_rfl)) (Eb rfl T.b_range (AJ (AA (pv 0)) Ao)) (λ_ _ _ _ _ _=>(Cf 0 (by decide +kernel:(["place", "·1", "·2", "·3", "·4", "·5"]:List Str).Nodup))) (λ_ _ _ _ _ _=>EC) (λ_ _ _ _ _ _=>(Cz (Hk Ao))))
  (AS (Dr (BI O).own rfl (D2 (AA (pv 1))) (W6 rfl (JB (Cf 3 l) (JB (Cf 4 l) SQ)))
  (AS (Md (Lg (Df m (AA (pv 2)) (AA (pv 3))) (AA (pv 4))))
  (Ab (Md (Lg (Df m (AA (pv 2)) (AA (pv 4))) (AA (pv 3)))))))
  (Ab (By (Ld rfl T.b_tuple (Cz (Eh (own:=["row"]) (N':=["row", "·1", "·2", "·3", "·4", "·5"]) rfl (Do (by kernel_rfl)) (D2 (AA (pv 2))) (λ_ _ _ _ _ _=>(Cf 0 (by decide +kernel:(["row", "·1", "·2", "·3", "·4", "·5"]:List Str).Nodup))) (λ_ _ _ _ _ _=>EC) (λ_ _ _ _ _ _=>(Ld rfl T.b_tuple (IU rfl rfl T.b_sorted (AA (pv 0))))))))))))
theorem YJ:Bk ["self", "places", "ties"] ["self", "places", "ties"] (BD O9):=Fg
theorem YX(T:Txt K mg W):DF P w K mg base (CXG P w) 2 T.d_Web_init.f T.d_Web_init.fd ["self", "places", "ties"] (spM K 3 (Mh W)):=by
 refine B9 (k:=1) T.d_Web_init.F YJ rfl λ_ _ _ _ _ _ l O o s A B=>?_
 exact(AS (Dv (UC (UD Ya Ya ge_int (AA (pv 1)) (UF rfl T.g_MOST_PLACES.choose_spec))) (Ab Nx) Ce)
  (AS (Kx T.c_Web.cl T.n_Web_places (AA (pv 0)) (AA (pv 1)) rfl)
  (AS (Kx T.c_Web.cl T.n_Web_ties (AA (pv 0)) (Bq (Ry T) (BI O).pass (l.mono (by decide)) rfl T.d_checked_ties.m T.d_checked_ties.kp T.d_checked_ties.b (AJ (AA (pv 1)) (AJ (AA (pv 2)) Ao))) rfl)
  (Ab (Kx T.c_Web.cl T.n_Web_near_sets (AA (pv 0)) (Bq (Rw T) (BI O).pass (l.mono (by decide)) rfl T.d_near_sets_of.m T.d_near_sets_of.kp T.d_near_sets_of.b (AJ (AA (pv 1)) (AJ (C0 T.c_Web.cl T.n_Web_ties (AA (pv 0)) rfl) Ao))) rfl)))))
theorem O4:Bk ["web", "place"] ["web", "place"] (BD HR):=Fg
theorem PH(T:Txt K mg W):DF P w K mg base (CXG P w) 1 T.d_refuse_no_place.f T.d_refuse_no_place.fd ["web", "place"] (spM K 2 (Hl W)):=by
 refine B9 (k:=0) T.d_refuse_no_place.F O4 rfl λ_ _ _ _ _ _ l O m o s A=>?_
 exact(Ab (Dv (UC (UD Ya YZ ge_int (AA (pv 1)) (C0 T.c_Web.cl T.n_Web_places (AA (pv 0)) rfl))) (Ab Nx) Ce))
theorem nB:Bk ["web", "place"] ["web", "place"] (BD aH):=Fg
theorem oC(T:Txt K mg W):DF P w K mg base (CXG P w) 2 T.d_near.f T.d_near.fd ["web", "place"] (spM K 2 (au W)):=by
 refine B9 (k:=1) T.d_near.F nB rfl λ_ _ _ _ _ _ l O o s A B=>?_
 exact(AS (Md (Bq (PH T) (BI O).pass (l.mono (by decide)) rfl T.d_refuse_no_place.m T.d_refuse_no_place.kp T.d_refuse_no_place.b (AJ (AA (pv 0)) (AJ (AA (pv 1)) Ao))))
  (Ab (By (Df o (C0 T.c_Web.cl T.n_Web_near_sets (AA (pv 0)) rfl) (AA (pv 1))))))
theorem YH:Bk ["web"] ["web"] (BD O7):=Fg
theorem YV(T:Txt K mg W):DF P w K mg base (CXG P w) 3 T.d_takes_of.f T.d_takes_of.fd ["web"] (spM K 1 (Mf W)):=by
 refine B9 (k:=2) T.d_takes_of.F YH rfl λ_ _ _ _ _ _ l O m o s A=>?_
 exact(Ab (By (Cz (Eh (own:=["place"]) (N':=["place", "web"]) rfl (Do (by kernel_rfl)) (Eb rfl T.b_range (AJ (C0 T.c_Web.cl T.n_Web_places (AA (pv 0)) rfl) Ao)) (λ_ _ _ _ _ _=>(Cf 0 (by decide +kernel:(["place", "web"]:List Str).Nodup))) (λ_ _ _ _ _ _=>EC) (λ_ _ _ _ _ _=>(Ld rfl T.b_tuple (IU rfl rfl T.b_sorted (BC Dq (FD (AJ (AA (pv 0)) Ao)) (gcl T.d_near (oC T) l (AJ (AA (pv 1)) (AJ (AA (pv 0)) Ao)))))))))))
theorem aG:Bk ["some", "bits", "place"] ["some"] (BD Qr):=Fg
theorem aN(T:Txt K mg W):DF P w K mg base (CXG P w) 1 T.d_bits_of.f T.d_bits_of.fd ["some"] (spM K 1 (Q6 W)):=by
 refine B9 (k:=0) T.d_bits_of.F aG rfl λ_ _ _ _ _ _ m O o l s A=>?_
 exact(AS (CI 1 l ge_int)
  (AS (Dr (BI O).own rfl (D2 (AA (pv 0))) (Cf 2 l)
  (Ab (Vq 1 l cZ (BC PK ge_int (AA (pv 2))))))
  (Ab (By (AA (pv 1))))))
theorem aE:Bk ["bits", "told", "left"] ["bits"] (BD Qp):=Fg
theorem Te(T:Txt K mg W):DF P w K mg base (CXG P w) 1 T.d_members.f T.d_members.fd ["bits"] (spM K 1 (OT W)):=by
 refine B9 (k:=0) T.d_members.F aE rfl λ_ _ _ _ _ _ m O o l s A=>?_
 exact(AS (CI 1 l (Cz (Hk Ao)))
  (AS (CI 2 l (AA (pv 0)))
  (AS (Ys wN (BI O).own (GM (AA (pv 2))) (AS (Md (Lg (AA (pv 1)) (BC Jx (ot (BC Qw (AA (pv 2)) (W8 (AA (pv 2))))) ge_int)))
  (Ab (Vq 2 l tD (BC Jx (AA (pv 2)) ge_int)))))
  (Ab (By (AA (pv 1)))))))
theorem eI:Bk ["takes", "bits", "holders", "guard", "seen", "wanted", "place"] ["takes", "bits", "holders", "guard", "seen"] (BD TR):=Fg
theorem Vg(T:Txt K mg W):∀n:Nat,DF P w K mg base (CXG P w) (0+n) T.d_settle.f T.d_settle.fd ["takes", "bits", "holders", "guard", "seen"] (spM K 5 (G3 W n))
 | 0=>tj
 | n+1=>by
  refine B9 (k:=0+n) T.d_settle.F eI rfl λ_ _ _ _ _ _ s O l o A B=>?_
  exact(AS (W4 (i:=5) (own:=["place"]) (N':=["place", "·1", "bits", "·3", "·4", "seen", "·6", "·7"]) rfl rfl o rfl (by first | exact Ud rfl | exact RI rfl) (Do (by kernel_rfl)) (D2 (Df l (AA (pv 0)) (AA (pv 3)))) (λ_ _ _ _ _ _=>(Cf 0 (by decide +kernel:(["place", "·1", "bits", "·3", "·4", "seen", "·6", "·7"]:List Str).Nodup))) (λ_ _ _ _ _ _=>(Ny (W3 (Q3 (GM (BC Qw (BC aO (AA (pv 2)) (AA (pv 0))) ge_int)) (QI (Jz l (AA (pv 0)) (AA (pv 5)))))))) (λ_ _ _ _ _ _=>(AA (pv 0))))
  (AS (Dr (BI O).own rfl (D2 (AA (pv 5))) (Cf 6 o)
  (Ab (Dv (Jz l (AA (pv 6)) (AA (pv 2))) (AS (Hj (Ay (CN (by decide:1<=64) _) l) (AA (pv 2)) (AA (pv 6)) (AA (pv 3)) rfl)
  (Ab (By JC))) Ce)))
  (AS (Dr (BI O).own rfl (D2 (AA (pv 5))) (Cf 6 o)
  (Ab (Dv (Jz l (AA (pv 6)) (AA (pv 4))) (AS (Hj (Ay (CN (by decide:1<=64) _) l) (AA (pv 4)) (AA (pv 6)) JC rfl)
  (Ab (Dv (GM (Bq (Vg T n) (BI O).pass (s.mono (AO _)) rfl T.d_settle.m T.d_settle.kp T.d_settle.b (AJ (AA (pv 0)) (AJ (AA (pv 1)) (AJ (AA (pv 2)) (AJ (Df l (AA (pv 2)) (AA (pv 6))) (AJ (AA (pv 4)) Ao))))))) (AS (Hj (Ay (CN (by decide:1<=64) _) l) (AA (pv 2)) (AA (pv 6)) (AA (pv 3)) rfl)
  (Ab (By JC))) Ce))) Ce)))
  (Ab (By JC)))))
theorem nC:Bk ["takes", "guards", "bits", "holders", "guard"] ["takes", "guards", "bits"] (BD aI):=Fg
theorem oE(T:Txt K mg W):DF P w K mg base (CXG P w) 66 T.d_fits.f T.d_fits.fd ["takes", "guards", "bits"] (spM K 3 (XD W)):=by
 refine B9 (k:=65) T.d_fits.F nC rfl λ_ _ _ _ _ _ o O s l A B=>?_
 exact(AS (CI 3 l Nz)
  (AS (Dr (BI O).own rfl (D2 (AA (pv 1))) (Cf 4 l)
  (Ab (Dv (GM (BC Qw (BC aO (AA (pv 2)) (AA (pv 4))) ge_int)) (Ab (Hj (Ay (CN (by decide:1<=64) _) s) (AA (pv 3)) (AA (pv 4)) (AA (pv 4)) rfl)) Ce)))
  (AS (Dr (BI O).own rfl (D2 (AA (pv 1))) (Cf 4 l)
  (Ab (Dv (W3 (Q3 (UC (GM (BC Qw (BC aO (AA (pv 2)) (AA (pv 4))) ge_int))) (QI (UC (GM (Bq (Vg T 64) (BI O).pass (o.mono (by decide)) rfl T.d_settle.m T.d_settle.kp T.d_settle.b (AJ (AA (pv 0)) (AJ (AA (pv 2)) (AJ (AA (pv 3)) (AJ (AA (pv 4)) (AJ Nz Ao))))))))))) (Ab (By JC)) Ce)))
  (Ab (By JC)))))
theorem WZ:Bk ["standing", "guard", "place"] ["standing", "guard", "place"] (BD Na):=Fg
theorem Wp(T:Txt K mg W):DF P w K mg base (CXG P w) 1 T.d_with_step.f T.d_with_step.fd ["standing", "guard", "place"] (spM K 3 (N1 W)):=by
 refine B9 (k:=0) T.d_with_step.F WZ rfl λ_ _ _ _ _ _ m O l o s A=>?_
 exact(Ab (By (Ld rfl T.b_tuple (Cz (Eh (own:=["other"]) (N':=["other", "·1", "guard", "place"]) rfl (Do (by kernel_rfl)) (D2 (AA (pv 0))) (λ_ _ _ _ _ _=>(Cf 0 (by decide +kernel:(["other", "·1", "guard", "place"]:List Str).Nodup))) (λ_ _ _ _ _ _=>EC) (λ_ _ _ _ _ _=>(UE (Cp (Gm l) (AA (pv 0)) (AA (pv 2)) (CT _)) (AA (pv 3)) (AA (pv 0)))))))))
theorem aD:Bk ["places", "size", "told", "step", "longer", "some", "least", "place"] ["places", "size"] (BD Qo):=Fg
theorem aL(T:Txt K mg W):DF P w K mg base (CXG P w) 1 T.d_sets_of.f T.d_sets_of.fd ["places", "size"] (spM K 2 (Q5 W)):=by
 refine B9 (k:=0) T.d_sets_of.F aD rfl λ_ _ _ _ _ _ o O m l s A=>?_
 exact(AS (CI 2 l (Cz (Hk (AJ (FD Ao) Ao))))
  (AS (Dr (BI O).own rfl (Eb rfl T.b_range (AJ (AA (pv 1)) Ao)) (Cf 3 l)
  (AS (CI 4 l (Cz (Hk Ao)))
  (AS (Dr (BI O).own rfl (D2 (AA (pv 2))) (Cf 5 l)
  (AS (CI 6 l (UE (GM (AA (pv 5))) (BC Dq (Df m (AA (pv 5)) (W8 ge_int)) ge_int) ge_int))
  (Ab (Dr (BI O).own rfl (Lc rfl T.b_range (AJ (AA (pv 6)) (AJ (BC Dq (BC Dq (BC Jx (AA (pv 0)) (AA (pv 1))) (AA (pv 3))) ge_int) Ao))) (Cf 7 l)
  (Ab (Md (Lg (AA (pv 4)) (BC Dq (AA (pv 5)) (FD (AJ (AA (pv 7)) Ao))))))))))
  (Ab (CI 2 l (AA (pv 4)))))))
  (Ab (By (AA (pv 2))))))
theorem P1:Bk ["places", "size", "ways", "step"] ["places", "size"] (BD IN):=Fg
theorem P7(T:Txt K mg W):DF P w K mg base (CXG P w) 1 T.d_ways_to_choose.f T.d_ways_to_choose.fd ["places", "size"] (spM K 2 (IW W)):=by
 refine B9 (k:=0) T.d_ways_to_choose.F P1 rfl λ_ _ _ _ _ _ m O o l s A=>?_
 exact(AS (CI 2 l ge_int)
  (AS (Dr (BI O).own rfl (Eb rfl T.b_range (AJ (AA (pv 1)) Ao)) (Cf 3 l)
  (Ab (CI 2 l (BC G7 (BC i8 (AA (pv 2)) (BC Jx (AA (pv 0)) (AA (pv 3)))) (BC Dq (AA (pv 3)) ge_int)))))
  (Ab (By (AA (pv 2))))))
theorem YI:Bk ["web", "guards"] ["web", "guards"] (BD O8):=Fg
theorem YW(T:Txt K mg W):DF P w K mg base (CXG P w) 2 T.d_how_many.f T.d_how_many.fd ["web", "guards"] (spM K 2 (IX W)):=by
 refine B9 (k:=1) T.d_how_many.F YI rfl λ_ _ _ _ _ _ l O o s A B=>?_
 exact(AS (Dv (UC (UD Ya Ya ge_int (AA (pv 1)) (C0 T.c_Web.cl T.n_Web_places (AA (pv 0)) rfl))) (Ab (Yt (BI O) rfl T.x_BadGuards.xc rfl T.x_BadGuards.m (AJ PP Ao))) Ce)
  (Ab (By (Bq (P7 T) (BI O).pass (l.mono (by decide)) rfl T.d_ways_to_choose.m T.d_ways_to_choose.kp T.d_ways_to_choose.b (AJ (C0 T.c_Web.cl T.n_Web_places (AA (pv 0)) rfl) (AJ (AA (pv 1)) Ao))))))
theorem Wa:Bk ["web", "guards"] ["web", "guards"] (BD Nb):=Fg
theorem Wq(T:Txt K mg W):DF P w K mg base (CXG P w) 3 T.d_standings.f T.d_standings.fd ["web", "guards"] (spM K 2 (HF W)):=by
 refine B9 (k:=2) T.d_standings.F Wa rfl λ_ _ _ _ _ _ l O o s A B=>?_
 exact(AS (Dv (Cp Rb (Bq (YW T) (BI O).pass (l.mono (by decide)) rfl T.d_how_many.m T.d_how_many.kp T.d_how_many.b (AJ (AA (pv 0)) (AJ (AA (pv 1)) Ao))) (UF rfl T.g_MOST_STANDINGS.choose_spec) (CT _)) (Ab (Yt (BI O) rfl T.x_TooLarge.xc rfl T.x_TooLarge.m (AJ (oo (W5 PP (W5 (tW (UF rfl T.g_MOST_STANDINGS.choose_spec)) (W5 PP tO)))) Ao))) Ce)
  (Ab (By (Bq (aL T) (BI O).pass (l.mono (by decide)) rfl T.d_sets_of.m T.d_sets_of.kp T.d_sets_of.b (AJ (C0 T.c_Web.cl T.n_Web_places (AA (pv 0)) rfl) (AJ (AA (pv 1)) Ao))))))
theorem L9:Bk ["self", "number", "standing", "told", "guard", "place"] ["self", "number"] (BD FS):=Fg
theorem MY(T:Txt K mg W):DF P w K mg base (CXG P w) 2 T.d_Field_linked_by_one.f T.d_Field_linked_by_one.fd ["self", "number"] (spM K 2 (DT W)):=by
 refine B9 (k:=1) T.d_Field_linked_by_one.F L9 rfl λ_ _ _ _ _ _ s O o l A B=>?_
 exact(AS (CI 2 l (Df o (C0 T.c_Field.cl T.n_Field_everything (AA (pv 0)) rfl) (AA (pv 1))))
  (AS (CI 3 l ge_int)
  (AS (Dr (BI O).own rfl (D2 (AA (pv 2))) (Cf 4 l)
  (Ab (Dr (BI O).own rfl (D2 (Df o (C0 T.c_Field.cl T.n_Field_takes (AA (pv 0)) rfl) (AA (pv 4)))) (Cf 5 l)
  (Ab (Dv (Jz o (AA (pv 5)) (AA (pv 2))) (Ab (Vq 3 l cZ (BC PK ge_int (Df o (C0 T.c_Field.cl T.n_Field_numbers (AA (pv 0)) rfl) (Ld rfl T.b_tuple (IU rfl rfl T.b_sorted (Bq (Wp T) (BI O).pass (s.mono (by decide)) rfl T.d_with_step.m T.d_with_step.kp T.d_with_step.b (AJ (AA (pv 2)) (AJ (AA (pv 4)) (AJ (AA (pv 5)) Ao)))))))))) Ce)))))
  (Ab (By (AA (pv 3)))))))
theorem MA:Bk ["self", "number", "standing", "told", "other", "bits"] ["self", "number"] (BD FT):=Fg
theorem MZ(T:Txt K mg W):DF P w K mg base (CXG P w) 67 T.d_Field_linked_by_all.f T.d_Field_linked_by_all.fd ["self", "number"] (spM K 2 (DU W)):=by
 refine B9 (k:=66) T.d_Field_linked_by_all.F MA rfl λ_ _ _ _ _ _ o O s l A B=>?_
 exact(AS (CI 2 l (Df s (C0 T.c_Field.cl T.n_Field_everything (AA (pv 0)) rfl) (AA (pv 1))))
  (AS (CI 3 l ge_int)
  (AS (Dr (BI O).own rfl (cf rfl T.b_enumerate (C0 T.c_Field.cl T.n_Field_place_bits (AA (pv 0)) rfl)) (W6 rfl (JB (Cf 4 l) (JB (Cf 5 l) SQ)))
  (Ab (Dv (GM (Bq (oE T) (BI O).pass (o.mono (by decide)) rfl T.d_fits.m T.d_fits.kp T.d_fits.b (AJ (C0 T.c_Field.cl T.n_Field_takes (AA (pv 0)) rfl) (AJ (AA (pv 2)) (AJ (AA (pv 5)) Ao))))) (Ab (Vq 3 l cZ (BC PK ge_int (AA (pv 4))))) Ce)))
  (Ab (By (AA (pv 3)))))))
theorem Uw:Bk ["self", "web", "guards", "kind", "number", "standing", "place"] ["self", "web", "guards", "kind"] (BD MD):=Fg
theorem Tn(T:Txt K mg W):DF P w K mg base (CXG P w) 68 T.d_Field_init.f T.d_Field_init.fd ["self", "web", "guards", "kind"] (spM K 4 (Ir W)):=by
 refine B9 (k:=67) T.d_Field_init.F Uw rfl λ_ _ _ _ _ _ l O s o A B=>?_
 exact(AS (Kx T.c_Field.cl T.n_Field_everything (AA (pv 0)) (Bq (Wq T) (BI O).pass (l.mono (by decide)) rfl T.d_standings.m T.d_standings.kp T.d_standings.b (AJ (AA (pv 1)) (AJ (AA (pv 2)) Ao))) rfl)
  (AS (Kx T.c_Field.cl T.n_Field_kind (AA (pv 0)) (AA (pv 3)) rfl)
  (AS (Kx T.c_Field.cl T.n_Field_takes (AA (pv 0)) (Bq (YV T) (BI O).pass (l.mono (by decide)) rfl T.d_takes_of.m T.d_takes_of.kp T.d_takes_of.b (AJ (AA (pv 1)) Ao)) rfl)
  (AS (Kx T.c_Field.cl T.n_Field_numbers (AA (pv 0)) UG rfl)
  (AS (Kx T.c_Field.cl T.n_Field_having (AA (pv 0)) (Cz (Eh (own:=["place"]) (N':=["place", "·1", "·2", "·3", "·4", "·5", "·6", "·7"]) rfl (Do (by kernel_rfl)) (Eb rfl T.b_range (AJ (C0 T.c_Web.cl T.n_Web_places (AA (pv 1)) rfl) Ao)) (λ_ _ _ _ _ _=>(Cf 0 (by decide +kernel:(["place", "·1", "·2", "·3", "·4", "·5", "·6", "·7"]:List Str).Nodup))) (λ_ _ _ _ _ _=>EC) (λ_ _ _ _ _ _=>ge_int))) rfl)
  (AS (Dr (BI O).own rfl (cf rfl T.b_enumerate (C0 T.c_Field.cl T.n_Field_everything (AA (pv 0)) rfl)) (W6 rfl (JB (Cf 4 o) (JB (Cf 5 o) SQ)))
  (AS (Hj (Ay (CN (by decide:1<=64) _) s) (C0 T.c_Field.cl T.n_Field_numbers (AA (pv 0)) rfl) (AA (pv 5)) (AA (pv 4)) rfl)
  (Ab (Dr (BI O).own rfl (D2 (AA (pv 5))) (Cf 6 o)
  (Ab (oY (C0 T.c_Field.cl T.n_Field_having (AA (pv 0)) rfl) (AA (pv 6)) (BC PK ge_int (AA (pv 4))) cZ))))))
  (AS (Kx T.c_Field.cl T.n_Field_place_bits (AA (pv 0)) (Cz (Eh (own:=["standing"]) (N':=["standing", "·1", "·2", "·3", "·4", "·5", "·6", "·7"]) rfl (Do (by kernel_rfl)) (D2 (C0 T.c_Field.cl T.n_Field_everything (AA (pv 0)) rfl)) (λ_ _ _ _ _ _=>(Cf 0 (by decide +kernel:(["standing", "·1", "·2", "·3", "·4", "·5", "·6", "·7"]:List Str).Nodup))) (λ_ _ _ _ _ _=>EC) (λ_ _ _ _ _ _=>(gcl T.d_bits_of (aN T) l (AJ (AA (pv 0)) Ao))))) rfl)
  (Ab (Kx T.c_Field.cl T.n_Field_known (AA (pv 0)) Nz rfl)))))))))
theorem Oo(T:Txt K mg W):DF P w K mg base (CXG P w) 68 T.d_Field_init.f T.d_Field_init.fd ["self", "web", "guards", "kind"] (spM K 4 (Ei W)):=kE (Tn T)
theorem TQ:Bk ["self", "number", "standing"] ["self", "number"] (BD Kt):=Fg
theorem Tj(T:Txt K mg W):DF P w K mg base (CXG P w) 1 T.d_Field_calls.f T.d_Field_calls.fd ["self", "number"] (spM K 2 (K6 W)):=by
 refine B9 (k:=0) T.d_Field_calls.F TQ rfl λ_ _ _ _ _ _ o O l m s A=>?_
 exact(AS (CI 2 m (Df l (C0 T.c_Field.cl T.n_Field_everything (AA (pv 0)) rfl) (AA (pv 1))))
  (Ab (By (Cz (Eh (own:=["place"]) (N':=["place", "·1", "·2", "standing"]) rfl (Do (by kernel_rfl)) (Eb rfl T.b_range (AJ (PQ rfl T.b_len (C0 T.c_Field.cl T.n_Field_takes (AA (pv 0)) rfl)) Ao)) (λ_ _ _ _ _ _=>(Cf 0 (by decide +kernel:(["place", "·1", "·2", "standing"]:List Str).Nodup))) (λ_ _ _ _ _ _=>(Ny (Jz l (AA (pv 0)) (AA (pv 3))))) (λ_ _ _ _ _ _=>(AA (pv 0))))))))
theorem Ru:Bk ["self", "number"] ["self", "number"] (BD Jp):=Fg
theorem Qu(T:Txt K mg W):DF P w K mg base (CXG P w) 68 T.d_Field_linked.f T.d_Field_linked.fd ["self", "number"] (spM K 2 (JM W)):=by
 refine B9 (k:=67) T.d_Field_linked.F Ru rfl λ_ _ _ _ _ _ m O l o s A=>?_
 exact(AS (Dv (Jz l (AA (pv 1)) (C0 T.c_Field.cl T.n_Field_known (AA (pv 0)) rfl)) (Ab (Hj (Ay (CN (by decide:1<=64) _) l) (C0 T.c_Field.cl T.n_Field_known (AA (pv 0)) rfl) (AA (pv 1)) (UE (Cp (Gm l) (C0 T.c_Field.cl T.n_Field_kind (AA (pv 0)) rfl) PP (CT _)) (QJ (AA (pv 0)) T.c_Field.cl T.m_Field_linked_by_one (MY T) (BI O).pass (m.mono (by decide)) T.d_Field_linked_by_one.b (AJ (AA (pv 1)) Ao)) (QJ (AA (pv 0)) T.c_Field.cl T.m_Field_linked_by_all (MZ T) (BI O).pass (m.mono (by decide)) T.d_Field_linked_by_all.b (AJ (AA (pv 1)) Ao))) rfl)) Ce)
  (Ab (By (Df l (C0 T.c_Field.cl T.n_Field_known (AA (pv 0)) rfl) (AA (pv 1))))))
theorem Rz(T:Txt K mg W):DF P w K mg base (CXG P w) 68 T.d_Field_linked.f T.d_Field_linked.fd ["self", "number"] (spM K 2 (Hq W)):=tq (Qu T)
theorem Rv:Bk ["self", "number", "call"] ["self", "number", "call"] (BD Jq):=Fg
theorem R3(T:Txt K mg W):DF P w K mg base (CXG P w) 69 T.d_Field_behind.f T.d_Field_behind.fd ["self", "number", "call"] (spM K 3 (KA W)):=by
 refine B9 (k:=68) T.d_Field_behind.F Rv rfl λ_ _ _ _ _ _ l O m o s A=>?_
 exact(Ab (By (BC Qw (QJ (AA (pv 0)) T.c_Field.cl T.m_Field_linked (Rz T) (BI O).pass (l.mono (by decide)) T.d_Field_linked.b (AJ (AA (pv 1)) Ao)) (Df m (C0 T.c_Field.cl T.n_Field_having (AA (pv 0)) rfl) (AA (pv 2))))))
theorem TK:Bk ["field", "left", "told", "number", "lost"] ["field", "left"] (BD Kq):=Fg
theorem Nj(T:Txt K mg W):DF P w K mg base (CXG P w) 70 T.d_falling_now.f T.d_falling_now.fd ["field", "left"] (spM K 2 (Iq W)):=by
 refine B9 (k:=69) T.d_falling_now.F TK rfl λ_ _ _ _ _ _ l O o s A B=>?_
 exact(AS (CI 2 s Nz)
  (AS (Dr (BI O).own rfl (D2 (Bq (Te T) (BI O).pass (l.mono (by decide)) rfl T.d_members.m T.d_members.kp T.d_members.b (AJ (AA (pv 1)) Ao))) (Cf 3 s)
  (AS (W4 (i:=4) (own:=["call"]) (N':=["call", "field", "left", "·3", "number", "·5"]) rfl rfl s rfl (by first | exact Ud rfl | exact RI rfl) (Do (by kernel_rfl)) (D2 (QJ (AA (pv 0)) T.c_Field.cl T.m_Field_calls (Tj T) (BI O).pass (l.mono (by decide)) T.d_Field_calls.b (AJ (AA (pv 3)) Ao))) (λ_ _ _ _ _ _=>(Cf 0 (by decide +kernel:(["call", "field", "left", "·3", "number", "·5"]:List Str).Nodup))) (λ_ _ _ _ _ _=>(Ny (Cp (Gm o) (BC Qw (QJ (AA (pv 1)) T.c_Field.cl T.m_Field_behind (R3 T) (good_none rfl).pass (l.mono (by decide)) T.d_Field_behind.b (AJ (AA (pv 4)) (AJ (AA (pv 0)) Ao))) (AA (pv 2))) ge_int (CT _)))) (λ_ _ _ _ _ _=>(AA (pv 0))))
  (Ab (Dv (GM (AA (pv 4))) (Ab (Hj (Ay (CN (by decide:1<=64) _) o) (AA (pv 2)) (AA (pv 3)) (Df o (AA (pv 4)) ge_int) rfl)) Ce))))
  (Ab (By (AA (pv 2))))))
theorem eJ:Bk ["field", "told", "left", "stage", "falling", "number"] ["field"] (BD TU):=Fg
theorem Vh(T:Txt K mg W):DF P w K mg base (CXG P w) 71 T.d_fallen.f T.d_fallen.fd ["field"] (spM K 1 (QK W)):=by
 refine B9 (k:=70) T.d_fallen.F eJ rfl λ_ _ _ _ _ _ o O s l A B=>?_
 exact(AS (CI 1 l Nz)
  (AS (CI 2 l (BC Jx (BC PK ge_int (PQ rfl T.b_len (C0 T.c_Field.cl T.n_Field_everything (AA (pv 0)) rfl))) ge_int))
  (AS (CI 3 l ge_int)
  (AS (CI 4 l (Bq (Nj T) (BI O).pass (o.mono (by decide)) rfl T.d_falling_now.m T.d_falling_now.kp T.d_falling_now.b (AJ (AA (pv 0)) (AJ (AA (pv 2)) Ao))))
  (AS (Ys wN (BI O).own (GM (AA (pv 4))) (AS (wJ (i:=4) (Dr (BI O).own rfl (og (AA (pv 4))) (Cf 5 l)
  (AS (Hj (Ay (CN (by decide:1<=64) _) s) (AA (pv 1)) (AA (pv 5)) (FD (AJ (AA (pv 3)) (AJ (Df s (AA (pv 4)) (AA (pv 5))) Ao))) rfl)
  (Ab (Vq 2 l sy (BC PK ge_int (AA (pv 5))))))))
  (AS (Vq 3 l tE ge_int)
  (Ab (CI 4 l (Bq (Nj T) (BI O).pass (o.mono (by decide)) rfl T.d_falling_now.m T.d_falling_now.kp T.d_falling_now.b (AJ (AA (pv 0)) (AJ (AA (pv 2)) Ao))))))))
  (Ab (By (AA (pv 1)))))))))
theorem Rr:Bk ["field", "gone"] ["field", "gone"] (BD Jm):=Fg
theorem Rx(T:Txt K mg W):DF P w K mg base (CXG P w) 1 T.d_lasting_bits.f T.d_lasting_bits.fd ["field", "gone"] (spM K 2 (J9 W)):=by
 refine B9 (k:=0) T.d_lasting_bits.F Rr rfl λ_ _ _ _ _ _ m O l o s A=>?_
 exact(Ab (By (tT rfl rfl T.b_sum (Cz (Eh (own:=["number"]) (N':=["number", "·1", "gone"]) rfl (Do (by kernel_rfl)) (Eb rfl T.b_range (AJ (PQ rfl T.b_len (C0 T.c_Field.cl T.n_Field_everything (AA (pv 0)) rfl)) Ao)) (λ_ _ _ _ _ _=>(Cf 0 (by decide +kernel:(["number", "·1", "gone"]:List Str).Nodup))) (λ_ _ _ _ _ _=>(Ny (Jz l (AA (pv 0)) (AA (pv 2))))) (λ_ _ _ _ _ _=>(BC PK ge_int (AA (pv 0)))))))))
theorem aF:Bk ["web", "guards", "kind", "field"] ["web", "guards", "kind"] (BD Qq):=Fg
theorem aM(T:Txt K mg W):DF P w K mg base (CXG P w) 72 T.d_lasting.f T.d_lasting.fd ["web", "guards", "kind"] (spM K 3 (HG W)):=by
 refine B9 (k:=71) T.d_lasting.F aF rfl λ_ _ _ _ _ _ l O o s A B=>?_
 exact(AS (CI 3 s (XA T.c_Field.mk' (Oo T) (BI O).pass (l.mono (by decide)) rfl T.c_Field.m T.d_Field_init.b (AJ (AA (pv 0)) (AJ (AA (pv 1)) (AJ (AA (pv 2)) Ao)))))
  (Ab (By (Cz (Eh (own:=["number"]) (N':=["number", "·1", "·2", "·3", "field"]) rfl (Do (by kernel_rfl)) (D2 (Bq (Te T) (BI O).pass (l.mono (by decide)) rfl T.d_members.m T.d_members.kp T.d_members.b (AJ (Bq (Rx T) (BI O).pass (l.mono (by decide)) rfl T.d_lasting_bits.m T.d_lasting_bits.kp T.d_lasting_bits.b (AJ (AA (pv 3)) (AJ (Bq (Vh T) (BI O).pass (l.mono (by decide)) rfl T.d_fallen.m T.d_fallen.kp T.d_fallen.b (AJ (AA (pv 3)) Ao)) Ao))) Ao))) (λ_ _ _ _ _ _=>(Cf 0 (by decide +kernel:(["number", "·1", "·2", "·3", "field"]:List Str).Nodup))) (λ_ _ _ _ _ _=>EC) (λ_ _ _ _ _ _=>(Df o (C0 T.c_Field.cl T.n_Field_everything (AA (pv 4)) rfl) (AA (pv 0)))))))))
theorem iW:Bk ["web", "guards", "kind", "field", "gone"] ["web", "guards", "kind"] (BD Wf):=Fg
theorem i7(T:Txt K mg W):DF P w K mg base (CXG P w) 72 T.d_falls.f T.d_falls.fd ["web", "guards", "kind"] (spM K 3 (Kh W)):=by
 refine B9 (k:=71) T.d_falls.F iW rfl λ_ _ _ _ _ _ l O o s A B=>?_
 exact(AS (CI 3 s (XA T.c_Field.mk' (Oo T) (BI O).pass (l.mono (by decide)) rfl T.c_Field.m T.d_Field_init.b (AJ (AA (pv 0)) (AJ (AA (pv 1)) (AJ (AA (pv 2)) Ao)))))
  (AS (CI 4 s (Bq (Vh T) (BI O).pass (l.mono (by decide)) rfl T.d_fallen.m T.d_fallen.kp T.d_fallen.b (AJ (AA (pv 3)) Ao)))
  (Ab (By (Cz (Eh (own:=["number"]) (N':=["number", "·1", "·2", "·3", "field", "gone"]) rfl (Do (by kernel_rfl)) (D2 (IU rfl rfl T.b_sorted (AA (pv 4)))) (λ_ _ _ _ _ _=>(Cf 0 (by decide +kernel:(["number", "·1", "·2", "·3", "field", "gone"]:List Str).Nodup))) (λ_ _ _ _ _ _=>EC) (λ_ _ _ _ _ _=>(BC Dq (FD (AJ (Df o (C0 T.c_Field.cl T.n_Field_everything (AA (pv 4)) rfl) (AA (pv 0))) Ao)) (Df o (AA (pv 5)) (AA (pv 0)))))))))))
theorem Rt:Bk ["script", "k"] ["script", "k"] (BD Jo):=Fg
theorem FI(T:Txt K mg W):DF P w K mg base (CXG P w) 1 T.d__law_cell_at.f T.d__law_cell_at.fd ["script", "k"] (spM K 2 (ED W)):=by
 refine B9 (k:=0) T.d__law_cell_at.F Rt rfl λ_ _ _ _ _ _ m O l o s A=>?_
 exact(AS (Dv (Cp YZ (AA (pv 1)) (PQ rfl T.b_len (AA (pv 0))) (CT _)) (Ab (By (Df l (AA (pv 0)) (AA (pv 1))))) Ce)
  (Ab (By ge_int)))
theorem Uu:Bk ["places", "found", "one", "other"] ["places"] (BD MB):=Fg
theorem On(T:Txt K mg W):DF P w K mg base (CXG P w) 1 T.d__law_pairs.f T.d__law_pairs.fd ["places"] (spM K 1 (Jc W)):=by
 refine B9 (k:=0) T.d__law_pairs.F Uu rfl λ_ _ _ _ _ _ m O o l s A=>?_
 exact(AS (CI 1 l (Cz (Hk Ao)))
  (AS (Dr (BI O).own rfl (Eb rfl T.b_range (AJ (AA (pv 0)) Ao)) (Cf 2 l)
  (Ab (Dr (BI O).own rfl (Lc rfl T.b_range (AJ (BC Dq (AA (pv 2)) ge_int) (AJ (AA (pv 0)) Ao))) (Cf 3 l)
  (Ab (Md (Lg (AA (pv 1)) (FD (AJ (AA (pv 2)) (AJ (AA (pv 3)) Ao)))))))))
  (Ab (By (AA (pv 1))))))
theorem O5:Bk ["places", "style"] ["places", "style"] (BD HS):=Fg
theorem PJ(T:Txt K mg W):DF P w K mg base (CXG P w) 2 T.d__law_first_ties.f T.d__law_first_ties.fd ["places", "style"] (spM K 2 (Ho W)):=by
 refine B9 (k:=1) T.d__law_first_ties.F O5 rfl λ_ _ _ _ _ _ o O l s A B=>?_
 exact(AS (Dv (Cp (Gm l) (AA (pv 1)) ge_int (CT _)) (Ab (By (Cz (Eh (own:=["k"]) (N':=["k", "·1", "·2"]) rfl (Do (by kernel_rfl)) (Eb rfl T.b_range (AJ (BC Jx (AA (pv 0)) ge_int) Ao)) (λ_ _ _ _ _ _=>(Cf 0 (by decide +kernel:(["k", "·1", "·2"]:List Str).Nodup))) (λ_ _ _ _ _ _=>EC) (λ_ _ _ _ _ _=>(FD (AJ (AA (pv 0)) (AJ (BC Dq (AA (pv 0)) ge_int) Ao)))))))) Ce)
  (AS (Dv (Cp (Gm l) (AA (pv 1)) ge_int (CT _)) (Ab (By (BC Dq (Cz (Eh (own:=["k"]) (N':=["k", "·1", "·2"]) rfl (Do (by kernel_rfl)) (Eb rfl T.b_range (AJ (BC Jx (AA (pv 0)) ge_int) Ao)) (λ_ _ _ _ _ _=>(Cf 0 (by decide +kernel:(["k", "·1", "·2"]:List Str).Nodup))) (λ_ _ _ _ _ _=>EC) (λ_ _ _ _ _ _=>(FD (AJ (AA (pv 0)) (AJ (BC Dq (AA (pv 0)) ge_int) Ao)))))) (Cz (Hk (AJ (FD (AJ ge_int (AJ (BC Jx (AA (pv 0)) ge_int) Ao))) Ao)))))) Ce)
  (AS (Dv (Cp (Gm l) (AA (pv 1)) ge_int (CT _)) (Ab (By (Bq (On T) (BI O).pass (o.mono (by decide)) rfl T.d__law_pairs.m T.d__law_pairs.kp T.d__law_pairs.b (AJ (AA (pv 0)) Ao)))) Ce)
  (AS (Dv (Cp (Gm l) (AA (pv 1)) ge_int (CT _)) (Ab (By (Cz (Eh (own:=["k"]) (N':=["k", "·1", "·2"]) rfl (Do (by kernel_rfl)) (Lc rfl T.b_range (AJ ge_int (AJ (AA (pv 0)) Ao))) (λ_ _ _ _ _ _=>(Cf 0 (by decide +kernel:(["k", "·1", "·2"]:List Str).Nodup))) (λ_ _ _ _ _ _=>EC) (λ_ _ _ _ _ _=>(FD (AJ ge_int (AJ (AA (pv 0)) Ao)))))))) Ce)
  (Ab (By (Cz (Hk Ao))))))))
theorem Wc:Bk ["script", "first", "places", "pairs", "there", "tie", "k"] ["script", "first", "places"] (BD Nd):=Fg
theorem Wr(T:Txt K mg W):DF P w K mg base (CXG P w) 3 T.d__law_ties.f T.d__law_ties.fd ["script", "first", "places"] (spM K 3 (N2 W)):=by
 refine B9 (k:=2) T.d__law_ties.F Wc rfl λ_ _ _ _ _ _ s O l o A B=>?_
 exact(AS (CI 3 o (Bq (On T) (BI O).pass (s.mono (by decide)) rfl T.d__law_pairs.m T.d__law_pairs.kp T.d__law_pairs.b (AJ (AA (pv 2)) Ao)))
  (AS (CI 4 o UG)
  (AS (Dr (BI O).own rfl (D2 (Bq (PJ T) (BI O).pass (s.mono (by decide)) rfl T.d__law_first_ties.m T.d__law_first_ties.kp T.d__law_first_ties.b (AJ (AA (pv 2)) (AJ (BC IQ (BC G7 (Bq (FI T) (BI O).pass (s.mono (by decide)) rfl T.d__law_cell_at.m T.d__law_cell_at.kp T.d__law_cell_at.b (AJ (AA (pv 0)) (AJ ge_int Ao))) ge_int) ge_int) Ao)))) (Cf 5 o)
  (Ab (Hj (Ay (CN (by decide:1<=64) _) l) (AA (pv 4)) (AA (pv 5)) JC rfl)))
  (AS (Dr (BI O).own rfl (Lc rfl T.b_range (AJ (AA (pv 1)) (AJ (W9 rfl rfl T.b_min (AJ (PQ rfl T.b_len (AA (pv 0))) (AJ ge_int Ao))) Ao))) (Cf 6 o)
  (AS (CI 5 o (Df l (AA (pv 3)) (BC IQ (Df l (AA (pv 0)) (AA (pv 6))) (PQ rfl T.b_len (AA (pv 3))))))
  (Ab (Hj (Ay (CN (by decide:1<=64) _) l) (AA (pv 4)) (AA (pv 5)) (L2.wK (j4 l (AA (pv 5)) (AA (pv 4))) (W7 (tU (Df l (AA (pv 4)) (AA (pv 5)))))) rfl))))
  (Ab (By (Cz (Eh (own:=["tie"]) (N':=["tie", "·1", "·2", "·3", "·4", "there", "·6", "·7"]) rfl (Do (by kernel_rfl)) (D2 (AA (pv 3))) (λ_ _ _ _ _ _=>(Cf 0 (by decide +kernel:(["tie", "·1", "·2", "·3", "·4", "there", "·6", "·7"]:List Str).Nodup))) (λ_ _ _ _ _ _=>(Ny (W3 (Q3 (qH l (AA (pv 0)) (AA (pv 5))) (QI (GM (Df l (AA (pv 5)) (AA (pv 0))))))))) (λ_ _ _ _ _ _=>(AA (pv 0)))))))))))
theorem TN:Bk ["script", "ties"] ["script", "ties"] (BD Ks):=Fg
theorem Ti(T:Txt K mg W):DF P w K mg base (CXG P w) 2 T.d__law_handed.f T.d__law_handed.fd ["script", "ties"] (spM K 2 (K5 W)):=by
 refine B9 (k:=1) T.d__law_handed.F TN rfl λ_ _ _ _ _ _ o O l s A B=>?_
 exact(AS (Dv (Cp (Gm l) (BC IQ (BC G7 (Bq (FI T) (BI O).pass (o.mono (by decide)) rfl T.d__law_cell_at.m T.d__law_cell_at.kp T.d__law_cell_at.b (AJ (AA (pv 0)) (AJ ge_int Ao))) ge_int) ge_int) ge_int (CT _)) (Ab (By (om rfl T.b_list (AA (pv 1))))) Ce)
  (Ab (By (Cz (Eh (own:=["tie"]) (N':=["tie", "·1", "·2"]) rfl (Do (by kernel_rfl)) (tQ rfl T.b_reversed (AA (pv 1))) (λ_ _ _ _ _ _=>(Cf 0 (by decide +kernel:(["tie", "·1", "·2"]:List Str).Nodup))) (λ_ _ _ _ _ _=>EC) (λ_ _ _ _ _ _=>(FD (AJ (Df l (AA (pv 0)) ge_int) (AJ (Df l (AA (pv 0)) ge_int) Ao)))))))))
theorem We:Bk ["places", "guards", "rows", "k", "longer", "row", "least"] ["places", "guards"] (BD Nf):=Fg
theorem Ws(T:Txt K mg W):DF P w K mg base (CXG P w) 1 T.d__law_sets.f T.d__law_sets.fd ["places", "guards"] (spM K 2 (N3 W)):=by
 refine B9 (k:=0) T.d__law_sets.F We rfl λ_ _ _ _ _ _ o O m l s A=>?_
 exact(AS (CI 2 l (Cz (Hk (AJ (FD Ao) Ao))))
  (AS (Dr (BI O).own rfl (Eb rfl T.b_range (AJ (AA (pv 1)) Ao)) (Cf 3 l)
  (AS (CI 4 l (Cz (Hk Ao)))
  (AS (Dr (BI O).own rfl (D2 (AA (pv 2))) (Cf 5 l)
  (AS (CI 6 l ge_int)
  (AS (Dv (Cp (cL m) (AA (pv 5)) (FD Ao) (CT _)) (Ab (CI 6 l (BC Dq (Df m (AA (pv 5)) (W8 ge_int)) ge_int))) Ce)
  (Ab (Md (fI (AA (pv 4)) (Cz (Eh (own:=["place"]) (N':=["place", "·1", "·2", "·3", "·4", "·5", "row", "·7"]) rfl (Do (by kernel_rfl)) (Lc rfl T.b_range (AJ (AA (pv 6)) (AJ (BC Dq (BC Dq (BC Jx (AA (pv 0)) (AA (pv 1))) (AA (pv 3))) ge_int) Ao))) (λ_ _ _ _ _ _=>(Cf 0 (by decide +kernel:(["place", "·1", "·2", "·3", "·4", "·5", "row", "·7"]:List Str).Nodup))) (λ_ _ _ _ _ _=>EC) (λ_ _ _ _ _ _=>(BC Dq (AA (pv 6)) (FD (AJ (AA (pv 0)) Ao))))))))))))
  (Ab (CI 2 l (AA (pv 4)))))))
  (Ab (By (AA (pv 2))))))
theorem Uv:Bk ["many", "some", "found", "k"] ["many", "some"] (BD MC):=Fg
theorem Ux(T:Txt K mg W):DF P w K mg base (CXG P w) 1 T.d__law_count.f T.d__law_count.fd ["many", "some"] (spM K 2 (Mg W)):=by
 refine B9 (k:=0) T.d__law_count.F Uv rfl λ_ _ _ _ _ _ m O o l s A=>?_
 exact(AS (CI 2 l ge_int)
  (AS (Dr (BI O).own rfl (Eb rfl T.b_range (AJ (AA (pv 1)) Ao)) (Cf 3 l)
  (Ab (CI 2 l (BC G7 (BC i8 (AA (pv 2)) (BC Jx (AA (pv 0)) (AA (pv 3)))) (BC Dq (AA (pv 3)) ge_int)))))
  (Ab (By (AA (pv 2))))))
theorem Wb:Bk ["web", "guards", "kind", "way", "found", "e"] ["web", "guards", "kind", "way"] (BD Nc):=Fg
theorem Jb(T:Txt K mg W):DF P w K mg base (CXG P w) 73 T.d__law_told.f T.d__law_told.fd ["web", "guards", "kind", "way"] (spM K 4 (Dg W)):=by
 refine B9 (k:=72) T.d__law_told.F Wb rfl λ_ _ _ _ _ _ s O A l C B=>?_
 exact(AS (CI 4 l tV)
  (AS (tK (i:=5) O l rfl rfl rfl T.xm_GuardError T.caught_GuardError (λo B=>(Ab (Dv (Cp (Gm A) (AA (pv 3)) ge_int (CT _)) (Ab (CI 4 l (Bq (aM T) (BI O).pass (s.mono (by decide)) rfl T.d_lasting.m T.d_lasting.kp T.d_lasting.b (AJ (AA (pv 0)) (AJ (AA (pv 1)) (AJ (AA (pv 2)) Ao)))))) (Ab (CI 4 l (Bq (i7 T) (BI O).pass (s.mono (by decide)) rfl T.d_falls.m T.d_falls.kp T.d_falls.b (AJ (AA (pv 0)) (AJ (AA (pv 1)) (AJ (AA (pv 2)) Ao))))))))) (λo E=>(Ab (CI 4 l (FD (AJ (j6 (c:=.ref W.BadGuards) (cv:=.ref W.BadGuards) (λ_ r=>r) (jk (cY T.i_BadGuards.1 T.i_BadGuards.2)) T.is_BadGuards rfl T.b_isinstance (AA (pv 5)) (Wm rfl T.x_BadGuards.m rfl)) (AJ (j6 (c:=.ref W.TooLarge) (cv:=.ref W.TooLarge) (λ_ r=>r) (jk (cY T.i_TooLarge.1 T.i_TooLarge.2)) T.is_TooLarge rfl T.b_isinstance (AA (pv 5)) (Wm rfl T.x_TooLarge.m rfl)) (AJ (j6 (c:=.ty "ValueError") (cv:=.type "ValueError") (λ_ r=>r) sx T.is_ValueError rfl T.b_isinstance (AA (pv 5)) (nq rfl T.b_ValueError PyProof.Rows.Boot.«ValueError» rfl)) Ao))))))))
  (Ab (By (AA (pv 4))))))
theorem TM:Bk ["web", "guards", "kind", "stay", "gone", "both"] ["web", "guards", "kind"] (BD Kr):=Fg
theorem Tf(T:Txt K mg W):DF P w K mg base (CXG P w) 74 T.d__law_shared.f T.d__law_shared.fd ["web", "guards", "kind"] (spM K 3 (K0 W)):=by
 refine B9 (k:=73) T.d__law_shared.F TM rfl λ_ _ _ _ _ _ o O l s A B=>?_
 exact(AS (CI 3 s (Bq (Jb T) (BI O).pass (o.mono (by decide)) rfl T.d__law_told.m T.d__law_told.kp T.d__law_told.b (AJ (AA (pv 0)) (AJ (AA (pv 1)) (AJ (AA (pv 2)) (AJ ge_int Ao))))))
  (AS (CI 4 s (Bq (Jb T) (BI O).pass (o.mono (by decide)) rfl T.d__law_told.m T.d__law_told.kp T.d__law_told.b (AJ (AA (pv 0)) (AJ (AA (pv 1)) (AJ (AA (pv 2)) (AJ ge_int Ao))))))
  (AS (CI 5 s (IU rfl rfl T.b_sorted (BC Dq (AA (pv 3)) (Cz (Eh (own:=["row"]) (N':=["row", "·1", "·2", "·3", "·4", "·5", "·6"]) rfl (Do (by kernel_rfl)) (D2 (AA (pv 4))) (λ_ _ _ _ _ _=>(Cf 0 (by decide +kernel:(["row", "·1", "·2", "·3", "·4", "·5", "·6"]:List Str).Nodup))) (λ_ _ _ _ _ _=>EC) (λ_ _ _ _ _ _=>(Df l (AA (pv 0)) ge_int)))))))
  (AS (Dv (W3 (Yr (Cp (cL l) (AA (pv 5)) (Bq (Ws T) (BI O).pass (o.mono (by decide)) rfl T.d__law_sets.m T.d__law_sets.kp T.d__law_sets.b (AJ (C0 T.c_Web.cl T.n_Web_places (AA (pv 0)) rfl) (AJ (AA (pv 1)) Ao))) (CT _)) (Yr (Cp (cL l) (IU rfl rfl T.b_sorted (AA (pv 3))) (AA (pv 3)) (CT _)) (W2 (Cp (cL l) (jz rfl l rfl T.b_sorted (AA (pv 4))) (AA (pv 4)) (CT _)))))) (Ab (By JC)) Ce)
  (AS (Dv (Cp (Gm l) (AA (pv 1)) (C0 T.c_Web.cl T.n_Web_places (AA (pv 0)) rfl) (CT _)) (Ab (By (L2.ap (Me (Gm l) (PQ rfl T.b_len (AA (pv 3))) ge_int (CT _)) (W7 (Me (Gm l) (AA (pv 4)) (Cz (Hk Ao)) (CT _)))))) Ce)
  (AS (Dv (Cp (Gm l) (C0 T.c_Web.cl T.n_Web_ties (AA (pv 0)) rfl) (FD Ao) (CT _)) (Ab (By (L2.ap (Me (Gm l) (AA (pv 3)) (Cz (Hk Ao)) (CT _)) (W7 (tX rfl rfl T.b_all (Cz (Eh (own:=["row"]) (N':=["row", "·1", "·2", "·3", "·4", "·5", "·6"]) rfl (Do (by kernel_rfl)) (D2 (AA (pv 4))) (λ_ _ _ _ _ _=>(Cf 0 (by decide +kernel:(["row", "·1", "·2", "·3", "·4", "·5", "·6"]:List Str).Nodup))) (λ_ _ _ _ _ _=>EC) (λ_ _ _ _ _ _=>(Me (Gm l) (Df l (AA (pv 0)) ge_int) ge_int (CT _)))))))))) Ce)
  (Ab (By JC))))))))
theorem rL:Bk ["script", "head", "places", "ties", "web", "cell", "kind", "guards", "due"] ["script"] (BD cE):=Fg
theorem sW(T:Txt K mg W):DF P w K mg base (CXG P w) 75 T.d_law.f T.d_law.fd ["script"] (spM K 1 (cp W)):=by
 refine B9 (k:=74) T.d_law.F rL rfl λ_ _ _ _ _ _ o O s l A B=>?_
 exact(AS (CI 1 l (Bq (FI T) (BI O).pass (o.mono (by decide)) rfl T.d__law_cell_at.m T.d__law_cell_at.kp T.d__law_cell_at.b (AJ (AA (pv 0)) (AJ ge_int Ao))))
  (AS (CI 2 l (BC Dq (BC Dq ge_int (BC IQ (AA (pv 1)) ge_int)) (ci rfl T.b_int (Me (Gm s) (BC IQ (BC G7 (AA (pv 1)) ge_int) ge_int) ge_int (CT _)))))
  (AS (CI 3 l (Bq (Wr T) (BI O).pass (o.mono (by decide)) rfl T.d__law_ties.m T.d__law_ties.kp T.d__law_ties.b (AJ (AA (pv 0)) (AJ ge_int (AJ (AA (pv 2)) Ao)))))
  (AS (Dv (Cp (Gm s) (BC IQ (BC G7 (AA (pv 1)) ge_int) ge_int) ge_int (CT _)) (Ab (CI 2 l (BC Dq ge_int (BC IQ (BC G7 (AA (pv 1)) ge_int) ge_int)))) Ce)
  (AS (CI 4 l (XA T.c_Web.mk' (YX T) (BI O).pass (o.mono (by decide)) rfl T.c_Web.m T.d_Web_init.b (AJ (AA (pv 2)) (AJ (Bq (Ti T) (BI O).pass (o.mono (by decide)) rfl T.d__law_handed.m T.d__law_handed.kp T.d__law_handed.b (AJ (AA (pv 0)) (AJ (AA (pv 3)) Ao))) Ao))))
  (AS (CI 5 l (Bq (FI T) (BI O).pass (o.mono (by decide)) rfl T.d__law_cell_at.m T.d__law_cell_at.kp T.d__law_cell_at.b (AJ (AA (pv 0)) (AJ ge_int Ao))))
  (AS (CI 6 l (Df s (Cz (Hk (AJ PP (AJ PP Ao)))) (BC IQ (Bq (FI T) (BI O).pass (o.mono (by decide)) rfl T.d__law_cell_at.m T.d__law_cell_at.kp T.d__law_cell_at.b (AJ (AA (pv 0)) (AJ ge_int Ao))) ge_int)))
  (AS (CI 7 l (BC Dq ge_int (BC IQ (BC G7 (AA (pv 5)) ge_int) (W9 rfl rfl T.b_min (AJ (AA (pv 2)) (AJ (Df s (Cz (Hk (AJ ge_int (AJ ge_int Ao)))) (ci rfl T.b_int (Me YZ (AA (pv 2)) ge_int (CT _)))) Ao))))))
  (AS (Dv (Cp (Gm s) (BC IQ (AA (pv 5)) ge_int) ge_int (CT _)) (Ab (CI 7 l (Df s (Cz (Hk (AJ ge_int (AJ (BC Jx (W8 ge_int) (BC G7 (AA (pv 5)) ge_int)) (AJ (BC Dq (AA (pv 2)) ge_int) (AJ (BC Dq (BC Dq (AA (pv 2)) ge_int) (BC G7 (AA (pv 5)) ge_int)) Ao)))))) (BC IQ (BC G7 (AA (pv 5)) ge_int) ge_int)))) Ce)
  (AS (Dv (W3 (Q3 (Cp Rb (BC IQ (AA (pv 5)) ge_int) ge_int (CT _)) (QI (Cp Rb (AA (pv 2)) ge_int (CT _))))) (Ab (CI 7 l (BC Dq ge_int (BC IQ (BC G7 (AA (pv 5)) ge_int) (AA (pv 2)))))) Ce)
  (AS (Dv (W3 (Yr (Cp YZ (AA (pv 7)) ge_int (CT _)) (W2 (Cp Rb (AA (pv 7)) (AA (pv 2)) (CT _))))) (Ab (CI 8 l (FD (AJ JC (AJ JC (AJ JC Ao)))))) (Ab (Dv (Cp Rb (Bq (Ux T) (BI O).pass (o.mono (by decide)) rfl T.d__law_count.m T.d__law_count.kp T.d__law_count.b (AJ (AA (pv 2)) (AJ (AA (pv 7)) Ao))) ge_int (CT _)) (Ab (CI 8 l (FD (AJ JC (AJ JC (AJ JC Ao)))))) (Ab (Dv (W3 (Q3 (Cp Rb (AA (pv 2)) ge_int (CT _)) (Q3 (Cp Rb (AA (pv 7)) ge_int (CT _)) (QI (W3 (Yr (Cp Rb (AA (pv 2)) ge_int (CT _)) (W2 (Cp (Gm s) (AA (pv 6)) PP (CT _))))))))) (Ab (By JC)) (Ab (By (Bq (Tf T) (BI O).pass (o.mono (by decide)) rfl T.d__law_shared.m T.d__law_shared.kp T.d__law_shared.b (AJ (AA (pv 4)) (AJ (AA (pv 7)) (AJ (AA (pv 6)) Ao)))))))))))
  (Ab (By (L2.ap (Me (Gm s) (Bq (Jb T) (BI O).pass (o.mono (by decide)) rfl T.d__law_told.m T.d__law_told.kp T.d__law_told.b (AJ (AA (pv 4)) (AJ (AA (pv 7)) (AJ (AA (pv 6)) (AJ ge_int Ao))))) (AA (pv 8)) (CT _)) (W7 (Me (Gm s) (Bq (Jb T) (BI O).pass (o.mono (by decide)) rfl T.d__law_told.m T.d__law_told.kp T.d__law_told.b (AJ (AA (pv 4)) (AJ (AA (pv 7)) (AJ (AA (pv 6)) (AJ ge_int Ao))))) (AA (pv 8)) (CT _)))))))))))))))))
end
open L2
open Srt (ltL)
def pairD(x:Int×Int):D:=.tup [.int x.1,.int x.2]
noncomputable def nrm(x:Int×Int):Int×Int:=(if x.2 < x.1 then x.2 else x.1,if x.2 > x.1 then x.2 else x.1)
def Wh(x:Int×Int):ZLi:=[x.1,x.2]
def QH(x:Int×Int):List Key:=[.inl x.1,.inl x.2]
theorem Yo{x y:Int×Int}(h:QH x=QH y):x=y:=by
 unfold QH at h;simp at h;exact Prod.ext h.1 h.2
theorem PO:∀ns:ZLi,JS (ns.map D.int)=some ns
 | []=>rfl
 | n :: ns=>by
  rw[As];unfold JS;rw[PO ns];rfl
theorem TX:∀l:List ZLi,(∀r∈l,r≠[])->Om (l.map Ng)=some l
 | [],_=>rfl
 | [] :: l,h=>zX rfl (h [] AW)
 | (n :: o) :: l,h=>by
  rw[As];unfold Ng Om;rw[PO,show FX (λr:ZLi=>D.tup (r.map D.int)) l=l.map Ng from rfl,TX l λr m=>h r (AQ _ m)]
theorem aA(l:List ZLi)(h:∀r∈l,r≠[]):M4 (l.map Ng)=some ((KY l).map Ng):=by
 unfold M4
 cases l with
 | nil=>simp[JS,KY]
 | cons r l=>
  have:JS ((r :: l).map Ng)=none:=rfl;rw[this,TX _ h]
theorem aB(ns:ZLi):M4 (ns.map D.int)=some ((D3 ns).map D.int):=by
 unfold M4;rw[PO]
def Nl(ps:List ZPi):List (List Key×D):=ps.map λx=>(QH (nrm x),.bl true)
theorem jL(ps:List ZPi)(x:Int×Int):(An (Nl ps) (QH (nrm x))).isSome=decide (nrm x∈ps.map nrm):=by
 unfold An Nl
 induction ps with
 | nil=>rfl
 | cons y ps l=>
  rw[As,Cc]
  by_cases e:QH (nrm y)=QH (nrm x)
  ·rw[wX e]
   simp[Yo e]
  ·rw[wY e]
   have m:nrm x≠nrm y:=λz=>e (by rw[z])
   simp only[As,Ai,m,false_or];exact l
theorem jK(ps:List ZPi)(x:Int×Int)(h:nrm x∉ps.map nrm):CK (Nl ps) (QH (nrm x)) (.bl true)=Nl (ps++[x]):=by
 unfold CK;rw[qY]
 ·simp[Nl]
 ·intro z
  obtain⟨y,l,e⟩:=Gs.mp z;obtain⟨a,m,rfl⟩:=BV.mp l;exact h (by rw[<-Yo (of_decide_eq_true e)];exact Ji m)
theorem wB{S:Sto}{n:Nat}{l:List (List Key×D)}{x:Int×Int}(h:S[n]?=some (.dT l))(neg:Bool):inA neg (pairD x) (.ref n) S=.ok (.bl (if neg then !(An l (QH x)).isSome else(An l (QH x)).isSome)) S:=by
 show Jw (inD neg (pairD x) (.ref n) S) (Od neg (pairD x) (.ref n) S)=_
 have e:inD neg (pairD x) (.ref n) S=.bad:=by
  unfold inD GD;dsimp only;rw[h]
 have m:NC (.ref n) (pairD x) S=some (An l (QH x)):=by
  unfold NC pairD;dsimp only;rw[h];rfl
 rw[e];show Od neg (pairD x) (.ref n) S=_;unfold Od;rw[m]
theorem kY{mo mi mv:ME}{e:Lo}{S:Sto}{d:Nat}{l:List (List Key×D)}{x:Int×Int}{v:D}(m:mv e S=.ok v S)(ho:mo e S=.ok (.ref d) S)(hi:mi e S=.ok (pairD x) S)(h:S[d]?=some (.dT l))(o:l.length < sizeLine) :
  DB mo mi mv e S=.ok (.nx e) (S.set d (.dT (CK l (QH x) v))):=by
 unfold DB;rw[m];dsimp only[Res.lift];rw[ho];dsimp only[Res.lift];rw[hi];dsimp only[Res.lift]
 have:RB (.ref d) (pairD x) v S=some (S.set d (.dT (CK l (QH x) v))):=by
  unfold RB pairD;dsimp only;rw[h];show(if l.length < sizeLine then some (S.set d (.dT (CK l (QH x) v)))else none)=_;rw[qX o]
 rw[this]
theorem ix0(x:Int×Int)(S:Sto):ixA (pairD x) (.int 0) S=.ok (.int x.1) S:=rfl
theorem ix1(x:Int×Int)(S:Sto):ixA (pairD x) (.int 1) S=.ok (.int x.2) S:=rfl
def Fit(p:Int)(x:Int×Int):Prop:=(nrm x).1≠(nrm x).2/\0<=(nrm x).1/\(nrm x).2 < p
abbrev uF(W:Wd):MS:=BP (CY 5 (Hg (AL (mQ P9 (AL (AD 3) (AL (AD 4) BJ))) (AL (mQ Vm (AL (AD 3) (AL (AD 4) BJ))) BJ))))
  (BP (sIf (mB (m2 (eqD false) (m2 ixA (AD 5) (mC (.int 0))) (m2 ixA (AD 5) (mC (.int 1))))) Wg sNx)
  (BP (sIf (mOr (mB (m2 ltD (m2 ixA (AD 5) (mC (.int 0))) (mC (.int 0)))) (mB (m2 geD (m2 ixA (AD 5) (mC (.int 1))) (AD 0)))) Wg sNx)
  (BP (sIf (mB (m2 (inA false) (AD 5) (AD 2))) Wg sNx)
  (DB (AD 2) (AD 5) (mC (.bl true))))))
theorem Wu{t:MT}{a:MS}{e:Lo}{S:Sto}(h:t e S=.ok false S):sIf t a sNx e S=.ok (.nx e) S:=(Gn (a:=a) (b:=sNx) h).trans rfl
theorem iH{W:Wd}{p:Int}{t:D}{n:Nat}{S:Sto}{x:Int×Int}{z5:Option D}{ps:List ZPi}(l:S[n]?=some (.dT (Nl ps)))(o:ps.length<=100000)(s:Fit p x)(m:nrm x∉ps.map nrm) :
  uF W [sI p,some t,sR n,sI x.1,sI x.2,z5] S=oN [sI p,some t,sR n,sI x.1,sI x.2,some (pairD (nrm x))] (S.set n (.dT (Nl (ps++[x])))):=by
 have A:CY 5 (Hg (AL (mQ P9 (AL (AD 3) (AL (AD 4) BJ))) (AL (mQ Vm (AL (AD 3) (AL (AD 4) BJ))) BJ))) [sI p,some t,sR n,sI x.1,sI x.2,z5] S =
   oN [sI p,some t,sR n,sI x.1,sI x.2,some (pairD (nrm x))] S:=
  Jk (i:=5) (S9 (ds:=[.int (nrm x).1,.int (nrm x).2]) (CU (nG (ds:=[.int x.1,.int x.2]) (S1:=S) rfl rfl) (CU (nG (ds:=[.int x.1,.int x.2]) (S1:=S) rfl rfl) rfl)) (by simp))
 obtain⟨B,C,E⟩:=s;refine(CC A).trans ((CC (Wu (VM (EN (EN rfl rfl (ix0 _ _)) (EN rfl rfl (ix1 _ _)) (t7 (wY B)))))).trans ((CC (Wu ((i5 (VM (EN (EN rfl rfl (ix0 _ _)) rfl (sg (wY (by omega)))))).trans (VM (EN (EN rfl rfl (ix1 _ _)) rfl (tY (wY (by omega)))))))).trans ((CC (Wu (VM (EN rfl rfl ?_)))).trans ?_)))
 ·rw[wB l,jL,wY m]
  rfl
 ·rw[kY (x:=nrm x) rfl rfl rfl l (by unfold Nl;rw[AF];exact Ay o (by decide)),jK _ _ m]
theorem fE{m:ME}{e:Lo}{S S1:Sto}{d:D}{xs:List D}(h:m e S=.ok d S1)(l:GB d S1=some xs):E1 m e S=.ok (GB d) S1:=by
 unfold E1;rw[h];dsimp only[Res.bind];rw[l]
def GR(p:Int)(ps:List ZPi):Prop:=(∀x∈ps,Fit p x)/\(ps.map nrm).Nodup
theorem GR.snoc{p:Int}{ps:List ZPi}{x:Int×Int}:GR p (ps++[x])↔GR p ps/\Fit p x/\nrm x∉ps.map nrm:=by
 unfold GR;rw[Bv,Fx]
 constructor
 ·rintro⟨m,o,A,s⟩
  exact⟨⟨λy l=>m y (by simp[l]),o⟩,m x (by simp),λz=>s _ z _ (by simp) rfl⟩
 ·rintro⟨⟨m,o⟩,A,s⟩
  refine⟨λy l=>?_,o,by simp,λa B b hb e=>?_⟩
  ·rcases Av.mp l with l | l
   ·exact m y l
   ·rw[AU.mp l];exact A
  ·simp at hb
   subst hb;subst e;exact s B
theorem GR.take{p:Int}{ps:List ZPi}(h:GR p ps)(i:Nat):GR p (ps.take i):=by
 refine⟨λx l=>h.1 x (List.mem_of_mem_take l),?_⟩;rw[List.map_take];exact h.2.sublist (gZ _ _)
theorem take_snoc{m:Type}{l:List m}{i:Nat}{x:m}(h:l[i]?=some x):l.take (i+1)=l.take i++[x]:=by
 rw[Fv,h];rfl
theorem XM(W:Wd){p:Int}{d:D}{S:Sto}{ps:List ZPi}(C:∀l,Keeps S l->GB d l=some (ps.map pairD))(J:ps.length<=100000)(G:GR p ps) :
  ∃o s z5,G0 (E1 (AD 1)) (M3 2 (Ek (tgN 3) (Ek (tgN 4) NW))) (uF W) [sI p,some d,sR S.length,none,none,none] (S++[.dT []])=oN [sI p,some d,sR S.length,o,s,z5] (S++[.dT (Nl ps)]):=by
 rw[Ky (fE (m:=AD 1) (d:=d) (S1:=S++[.dT []]) rfl (C _ (Keeps.app _ _)))]
 obtain⟨f,l,h,o,s,z5,rfl,rfl⟩:=N0 (v:=GB d) (g:=M3 2 (Ek (tgN 3) (Ek (tgN 4) NW))) (b:=uF W) (xs:=ps.map pairD) (e:=[sI p,some d,sR S.length,none,none,none]) (S:=S++[.dT []]) (λi e l=>(∃o s z5,e=[sI p,some d,sR S.length,o,s,z5])/\l=S++[.dT (Nl (ps.take i))]) (λf l=>∃o s z5,f=.nx [sI p,some d,sR S.length,o,s,z5]/\l=S++[.dT (Nl ps)]) ⟨⟨none,none,none,rfl⟩,by simp[Nl]⟩ (by rintro i e l ⟨_,rfl⟩;exact C _ (Keeps.app _ _))
  (by
   rintro i y e l A ⟨⟨o,s,z5,rfl⟩,rfl⟩;rw[Ac]at A
   cases B:ps[i]? with
   | none=>rw[B]at A;cases A
   | some x=>
    rw[B]at A;cases A;have L:=(AG.mp B).1;have E:=G.take (i+1);rw[take_snoc B]at E;obtain⟨_,H,I⟩:=GR.snoc.mp E;refine⟨[sI p,some d,sR S.length,sI x.1,sI x.2,z5],_,rfl,_,_,iH (W:=W) (p:=p) (t:=d) (z5:=z5) (x:=x) (E2 S (.dT (Nl (ps.take i)))) (by rw[JF];omega) H I,⟨_,_,_,rfl⟩,?_⟩;rw[take_snoc B]
    simp)
  (by
   rintro e l ⟨⟨o,s,z5,rfl⟩,rfl⟩;rw[AF,Mz]
   exact⟨_,_,_,rfl,rfl⟩)
 exact⟨o,s,z5,h⟩
def Ly(ps:List ZPi):List ZLi:=KY (ps.map λx=>Wh (nrm x))
theorem XN(W:Wd){p:Int}{d:D}{S:Sto}{ps:List ZPi}(l:∀S',Keeps S S'->GB d S'=some (ps.map pairD))(o:ps.length<=100000)(s:GR p ps) :
  ∃S',Hn W [.int p,d] S=.ok (.tup ((Ly ps).map Ng)) S'/\Keeps S S':=by
 obtain⟨A,B,C,E⟩:=XM W l o s
 ·have G:Kw (.ref S.length) (S++[.dT (Nl ps)])=some ((ps.map λx=>Wh (nrm x)).map Ng):=by
   unfold Kw;dsimp only;rw[E2];dsimp only;unfold Nl;rw[BF,BF];rfl
  have H:=LR (m:=AD 2) (e:=[sI p,some d,sR S.length,A,B,C]) (S:=S++[.dT (Nl ps)]) rfl G (aA _ (by intro r I;obtain⟨x,_,rfl⟩:=BV.mp I;simp[Wh]));refine⟨S++[.dT (Nl ps)]++[.lst ((Ly ps).map Ng)],L2.Ku ?_,(Keeps.app S _).trans (Keeps.app _ _)⟩;refine Ic (CC (e:=[sI p,some d,none,none,none,none]) (e1:=[sI p,some d,sR S.length,none,none,none]) (S:=S) (S1:=S++[.dT []]) rfl) ?_;refine Ic (CC E) ?_;exact Kv (Py H (HQ (E2 _ _)))
open L2
noncomputable def DL(ts:List ZPi)(x:Nat):ZLi:=ts.flatMap λt=>(if t.1=(x:Int)then[t.2]else[])++(if t.2=(x:Int)then[t.1]else[])
theorem Yd(ts:List ZPi)(t:Int×Int)(x:Nat):DL (ts++[t]) x=DL ts x++((if t.1=(x:Int)then[t.2]else[])++(if t.2=(x:Int)then[t.1]else[])):=by
 unfold DL;rw[List.flatMap_append];simp
def HU(p:Nat)(F:Nat->ZLi):Sto:=(B1 p).map λx=>Ob.lst ((F x).map D.int)
def GF(k p:Nat):List D:=(B1 p).map λx=>D.ref (k+x)
def stN(S:Sto)(p:Nat)(F:Nat->ZLi):Sto:=S++HU p F++[.lst (GF S.length p)]
theorem Jt(p:Nat)(F:Nat->ZLi):(HU p F).length=p:=by simp[HU]
theorem WW(S:Sto)(p:Nat)(F:Nat->ZLi):(stN S p F).length=S.length+p+1:=by simp[stN,Jt];lia
theorem Qk(S:Sto)(p:Nat)(F:Nat->ZLi):Keeps S (stN S p F):=(Keeps.app S _).trans (Keeps.app _ _)
theorem NX(S:Sto)(p:Nat)(F:Nat->ZLi):(stN S p F)[S.length+p]?=some (.lst (GF S.length p)):=by
 have:S.length+p=(S++HU p F).length:=by simp[Jt]
 unfold stN;rw[this];exact E2 _ _
theorem L6(S:Sto){p a:Nat}(F:Nat->ZLi)(h:a < p):(stN S p F)[S.length+a]?=some (.lst ((F a).map D.int)):=by
 unfold stN;rw[Bw,Bd (by lia),Au (by rw[Jt];lia),show S.length+a - S.length=a by lia];unfold HU;rw[Ac,Cu h];rfl
theorem cD(S:Sto){p a:Nat}(F:Nat->ZLi)(l:ZLi)(h:a < p):(stN S p F).set (S.length+a) (.lst (l.map D.int))=stN S p (λx=>if x=a then l else F x):=by
 apply Fy
 intro j
 by_cases e:S.length+a=j
 ·subst e
  rw[At (by rw[WW];lia),L6 _ _ h,qX rfl]
 ·rw[Aa e]
  by_cases m:j < S.length
  ·rw[(Qk S p F).2 j m,(Qk S p _).2 j m]
  by_cases o:j - S.length < p
  ·have s:j=S.length+(j - S.length):=by lia
   rw[s,L6 S F o,L6 S _ o,qY (by lia)]
  by_cases A:j=S.length+p
  ·subst A
   rw[NX,NX]
  ·rw[Bo (by rw[WW];lia),Bo (by rw[WW];lia)]
theorem cV{S:Sto}{p a:Nat}(F:Nat->ZLi)(h:a < p):ixA (.ref (S.length+p)) (.int a) (stN S p F)=.ok (.ref (S.length+a)) (stN S p F):=by
 show Jw (ixD _ _ _) _=_;have l:GD (.ref (S.length+p)) (stN S p F)=some (GF S.length p):=HQ (NX S p F)
 have m:atI (GF S.length p) (a:Int)=some (.ref (S.length+a)):=by
  unfold atI ixN;rw[show(GF S.length p).length=p by simp[GF],qX (by lia),qX (by lia)];simp only[AC,Az];unfold GF;rw[Ac,Cu h];rfl
 have:ixD (.ref (S.length+p)) (.int a) (stN S p F)=.ok (.ref (S.length+a)) (stN S p F):=by
  unfold ixD;rw[l];dsimp only;rw[m]
 rw[this];rfl
theorem iM(S:Sto):∀p:Nat,S++HU (p+1) (λ_=>[])=S++HU p (λ_=>[])++[.lst []]:=λp=>by
 unfold HU;rw[HJ,Bv,Bw];rfl
theorem eO{p:Nat}(G:p<=60){mp:ME}{e:Lo}{S:Sto}(C:mp e S=.ok (.int p) S) :
  Ef 1 (iR1 (AL mp BJ)) (tgN 0) G5 (Ee (FC BJ)) e S=.ok (GF S.length p) (S++HU p λ_=>[]):=by
 have s:iR1 (AL mp BJ) e S=.ok (ID (Ju 0 p)) S:=by
  have:=jm (ml:=AL mp BJ) (e:=e) (S:=S) (S1:=S) (j:=p) (CU C rfl) (by lia) (by lia);simpa using this
 obtain⟨r,S1,A,o,⟨z,_⟩,rfl,rfl⟩:=dA (v:=ID (Ju 0 p)) (g:=tgN 0) (c:=G5) (m:=Ee (FC BJ)) (xs:=Ju 0 p) (e:=none :: e) (S:=S)
  (λi o B l=>(∃z,o=z :: e)/\B=S++HU i (λ_=>[])/\l=GF S.length i)
  ⟨⟨none,rfl⟩,by simp[HU],rfl⟩ (λ_ _ _ _ _=>rfl)
  (by
   rintro i d o B l E ⟨⟨z,rfl⟩,rfl,rfl⟩;obtain⟨s,rfl⟩:=ic E;refine⟨by simp[GF];exact Ay (m:=60) (by lia) (by decide),some (.int (0+i)) :: e,_,rfl,true,_,rfl,.inl ⟨rfl,.ref (S++HU i λ_=>[]).length,_,rfl,⟨_,rfl⟩,(iM S i).symm,?_⟩⟩;unfold GF;rw[HJ,Bv,Ak,Jt]
   rfl)
 rw[eR]at A;exact(XI s).trans A
abbrev dF:MS:=BP (Js (Tr (m2 ixA (AD 2) (AD 3)) (AD 4))) (Js (Tr (m2 ixA (AD 2) (AD 4)) (AD 3)))
def In(p:Nat)(t:Int×Int):Prop:=0<=t.1/\t.1 < p/\0<=t.2/\t.2 < p/\t.1≠t.2
theorem eN{p:Nat}{S:Sto}{F:Nat->ZLi}{t:Int×Int}{m d1:D}(o:In p t)(I:∀x,(F x).length < 200000) :
  dF [some m,some d1,sR (S.length+p),sI t.1,sI t.2] (stN S p F)=.ok (.nx [some m,some d1,sR (S.length+p),sI t.1,sI t.2])
   (stN S p λx=>F x++((if t.1=(x:Int)then[t.2]else[])++(if t.2=(x:Int)then[t.1]else[]))):=by
 obtain⟨a,A⟩:∃a:Nat,t.1=a:=⟨t.1.toNat,by have:=o.1;lia⟩
 obtain⟨b,hb⟩:∃b:Nat,t.2=b:=⟨t.2.toNat,by have:=o.2.2.1;lia⟩
 obtain⟨_,B,_,O,J⟩:=o
 have L:a≠b:=λe=>J (by rw[A,hb,e])
 rw[A,hb]
 have C:∀x,((F x).map D.int).length < sizeLine:=λx=>by rw[AF];exact ui (I x) (by decide)
 have E:=bG (mo:=m2 ixA (AD 2) (AD 3)) (ma:=AD 4) (e:=[some m,some d1,sR (S.length+p),sI a,sI b]) (S:=stN S p F) (S1:=stN S p F) (S2:=stN S p F) (n:=S.length+a) (y:=.int b) (EN rfl rfl (cV F (by lia))) (L6 S F (by lia)) rfl (L6 S F (by lia)) (C a);rw[show(F a).map D.int++[D.int b]=(F a++[(b:Int)]).map D.int by simp,cD S F _ (by lia)]at E
 have l:(stN S p λx=>if x=a then F a++[(b:Int)]else F x)[S.length+b]?=some (.lst ((F b).map D.int)):=by
  rw[L6 S _ (by lia),qY (CF L)]
 have G:=bG (mo:=m2 ixA (AD 2) (AD 4)) (ma:=AD 3) (e:=[some m,some d1,sR (S.length+p),sI a,sI b]) (S:=stN S p λx=>if x=a then F a++[(b:Int)]else F x) (S1:=stN S p λx=>if x=a then F a++[(b:Int)]else F x) (S2:=stN S p λx=>if x=a then F a++[(b:Int)]else F x) (n:=S.length+b) (y:=.int a) (EN rfl rfl (cV _ (by lia))) l rfl l (C b);rw[show(F b).map D.int++[D.int a]=(F b++[(a:Int)]).map D.int by simp,cD S _ _ (by lia)]at G;unfold dF;rw[CC (QN E),QN G]
 congr 2
 funext x
 by_cases s:x=b
 ·subst s
  have:¬((a:Int)=(x:Int)):=by lia
  simp[this]
 ·by_cases H:x=a
  ·subst H
   have:¬((b:Int)=(x:Int)):=by lia
   simp[s,this]
  ·have N:¬((a:Int)=(x:Int)):=by lia
   have B:¬((b:Int)=(x:Int)):=by lia
   simp[s,H,N,B]
theorem aR(ts:List ZPi)(x:Nat):(DL ts x).length<=2 * ts.length:=by
 unfold DL
 induction ts with
 | nil=>simp
 | cons t ts l=>
  rw[RL,Ak,Aj]
  have:((if t.1=(x:Int)then[t.2]else[])++(if t.2=(x:Int)then[t.1]else[])).length<=2:=by split <;> split <;> simp
  lia
def Qm(p:Nat)(ts:List ZPi):List D:=(B1 p).map λx=>.tup ((D3 (DL ts x)).map D.int)
theorem oH(W:Wd){p:Nat}(L:p<=60){ts:List ZPi}(N:∀t∈ts,In p t)(O:ts.length<=90000)(S:Sto) :
  ∃S',Hm W [.int p,.tup (ts.map pairD)] S=.ok (.tup (Qm p ts)) S'/\Keeps S S':=by
 have H:=Jk (i:=2) (aQ (eO L (mp:=AD 0) (e:=[sI p,some (.tup (ts.map pairD)),none,none,none]) (S:=S) rfl));have P:(S++HU p λ_=>[])++[.lst (GF S.length p)]=stN S p (DL []):=rfl
 have Q:(S++HU p λ_=>[]).length=S.length+p:=by simp[Jt]
 rw[P,Q]at H
 obtain⟨f,S1,R,⟨l,o,rfl⟩,rfl⟩:=N0 (v:=ID (ts.map pairD)) (g:=M3 2 (Ek (tgN 3) (Ek (tgN 4) NW))) (b:=dF) (xs:=ts.map pairD) (e:=[sI p,some (.tup (ts.map pairD)),sR (S.length+p),none,none]) (S:=stN S p (DL []))
  (λi e S'=>(∃l o,e=[sI p,some (.tup (ts.map pairD)),sR (S.length+p),l,o])/\S'=stN S p (DL (ts.take i)))
  (λf S'=>(∃l o,f=.nx [sI p,some (.tup (ts.map pairD)),sR (S.length+p),l,o])/\S'=stN S p (DL ts))
  ⟨⟨none,none,rfl⟩,rfl⟩ (λ_ _ _ _=>rfl)
  (by
   rintro i y e S' A ⟨⟨l,o,rfl⟩,rfl⟩;rw[Ac]at A
   cases B:ts[i]? with
   | none=>rw[B]at A;cases A
   | some t=>
    rw[B]at A;cases A;refine⟨[sI p,some (.tup (ts.map pairD)),sR (S.length+p),sI t.1,sI t.2],_,rfl,_,_,eN (N t (Bt B)) (λx=>?_),⟨_,_,rfl⟩,?_⟩
    ·have:=aR (ts.take i) x
     rw[JF]at this;exact Ay (Aw this (Nat.mul_le_mul_left 2 (Aw (Nat.min_le_right _ _) O))) (by decide)
    ·rw[take_snoc B,show DL (ts.take i++[t])=_ from funext λx=>Yd _ _ x])
  (by
   rintro e S' ⟨⟨l,o,rfl⟩,rfl⟩;rw[AF,Mz]
   exact⟨⟨_,_,rfl⟩,rfl⟩)
 have T:=(Ky (g:=M3 2 (Ek (tgN 3) (Ek (tgN 4) NW))) (b:=dF) (UB (m:=AD 1) (e:=[sI p,some (.tup (ts.map pairD)),sR (S.length+p),none,none]) (S:=stN S p (DL [])) (S1:=stN S p (DL [])) (xs:=ts.map pairD) rfl)).trans R
 obtain⟨r,U,X,C,⟨z,_⟩,K,rfl⟩:=dA (v:=GB (.ref (S.length+p))) (g:=tgN 0) (c:=G5) (m:=JL (FB (AD 0))) (xs:=GF S.length p) (e:=[none,sI p,some (.tup (ts.map pairD)),sR (S.length+p),l,o]) (S:=stN S p (DL ts))
  (λi C S' s=>(∃z,C=[z,sI p,some (.tup (ts.map pairD)),sR (S.length+p),l,o])/\Keeps (stN S p (DL ts)) S'/\s=(B1 i).map λx=>.tup ((D3 (DL ts x)).map D.int))
  ⟨⟨none,rfl⟩,.refl _,rfl⟩ (λi C S' s h=>Ea (h.2.1.at (NX S p _)))
  (by
   rintro i d C S' s E ⟨⟨z,rfl⟩,K,rfl⟩
   have I:i < p:=by
    have:=(AG.mp E).1;simpa[GF]using this
   unfold GF at E;rw[Ac,Cu I]at E;cases E;have G:Kw (.ref (S.length+i)) S'=some ((DL ts i).map D.int):=T9 (K.at (L6 S _ I));have Y:=LR (m:=AD 0) (e:=[sR (S.length+i),sI p,some (.tup (ts.map pairD)),sR (S.length+p),l,o]) (S:=S') (S1:=S') rfl G (aB _);refine⟨by simp;exact Ay (m:=60) (by lia) (by decide),[sR (S.length+i),sI p,some (.tup (ts.map pairD)),sR (S.length+p),l,o],_,rfl,true,_,rfl,.inl ⟨rfl,_,_,Py Y (HQ (E2 _ _)),⟨_,rfl⟩,K.trans (Keeps.app _ _),?_⟩⟩;rw[HJ,Bv]
   rfl)
 have J:=(XI (n:=1) (g:=tgN 0) (c:=G5) (m:=JL (FB (AD 0))) (Nu (m:=AD 2) (e:=[sI p,some (.tup (ts.map pairD)),sR (S.length+p),l,o]) (S:=stN S p (DL ts)) (S1:=stN S p (DL ts)) rfl (NX S p _))).trans X;rw[show(GF S.length p).length=p by simp[GF]]at J;refine⟨U++[.lst (Qm p ts)],L2.Ku ?_,((Qk S p _).trans K).trans (Keeps.app _ _)⟩;unfold N8;refine Ic (CC H) ?_;refine Ic (CC T) ?_;exact Kv (Py (aQ J) (HQ (E2 _ _)))
open L2
open Srt (ltL)
def toP(r:ZLi):Int×Int:=(r.getD 0 0,r.getD 1 0)
def Ix(ps:List ZPi):List ZPi:=(Ly ps).map toP
theorem TC{ps:List ZPi}{r:ZLi}(h:r∈Ly ps):∃x∈ps,r=Wh (nrm x):=by
 have:=(HA _).mem_iff.mp h;obtain⟨x,l,rfl⟩:=BV.mp this;exact⟨x,l,rfl⟩
theorem dm(ps:List ZPi):(Ix ps).map Wh=Ly ps:=by
 unfold Ix;rw[BF]
 conv=>rhs;rw[<-Sb (Ly ps)]
 refine Ct λr l=>?_
 obtain⟨x,_,rfl⟩:=TC l;rfl
theorem Z6(ps:List ZPi):(Ly ps).map Ng=(Ix ps).map pairD:=by
 rw[<-dm,BF];rfl
theorem iF{ps:List ZPi}{t:Int×Int}(h:t∈Ix ps):∃x∈ps,t=nrm x:=by
 obtain⟨r,l,rfl⟩:=BV.mp h;obtain⟨x,m,rfl⟩:=TC l;exact⟨x,m,rfl⟩
theorem Qi(ps:List ZPi):(Ix ps).Perm (ps.map nrm):=by
 unfold Ix Ly;have:=(HA (ps.map λx=>Wh (nrm x))).map toP;refine this.trans ?_;rw[BF];exact bZ rfl
theorem sX(x:Int×Int):(nrm x).1<=(nrm x).2:=by
 unfold nrm;dsimp only
 split <;> split <;> lia
theorem Fit.in{p:Nat}{x:Int×Int}(h:Fit p x):In p (nrm x):=by
 obtain⟨l,m,o⟩:=h;have:=sX x;exact⟨m,by lia,by lia,o,l⟩
theorem vi:¬(("places" : Str) = "ties"):=by decide +kernel
theorem vj:¬(("places" : Str) = "near_sets"):=by decide +kernel
theorem vh:¬(("ties" : Str) = "near_sets"):=by decide +kernel
theorem put2(a b:D):KO "ties" b [(("places" : Str),a)]=([("places",a),("ties",b)]:List (Str×D)):=by
 show(if ("places" : Str) = "ties" then _ else _)=_;rw[qY vi];rfl
theorem put3(a b c:D):KO "near_sets" c [(("places" : Str),a),("ties",b)]=([("places",a),("ties",b),("near_sets",c)]:List (Str×D)):=by
 show(if ("places" : Str) = "near_sets" then _ else _)=_;rw[qY vj]
 have:KO "near_sets" c [(("ties" : Str),b)]=([("ties",b),("near_sets",c)]:List (Str×D)):=by
  show(if ("ties" : Str) = "near_sets" then _ else _)=_;rw[qY vh];rfl
 rw[this]
theorem vw(a b c:D):([("places",a),("ties",b),("near_sets",c)]:List (Str×D)).lookup ("places" : Str)=some a:=by
 rw[BX,show(("places" : Str)=="places")=true by decide +kernel]
theorem vu(a b c:D):([("places",a),("ties",b),("near_sets",c)]:List (Str×D)).lookup ("ties" : Str)=some b:=by
 rw[BX,show(("ties" : Str)=="places")=false by decide +kernel];dsimp only;rw[BX,show(("ties" : Str)=="ties")=true by decide +kernel]
theorem vt(a b c:D):([("places",a),("ties",b),("near_sets",c)]:List (Str×D)).lookup ("near_sets" : Str)=some c:=by
 rw[BX,show(("near_sets" : Str)=="places")=false by decide +kernel];dsimp only;rw[BX,show(("near_sets" : Str)=="ties")=false by decide +kernel];dsimp only;rw[BX,show(("near_sets" : Str)=="near_sets")=true by decide +kernel]
theorem sh(a b:D):([("places",a),("ties",b)]:List (Str×D)).lookup ("ties" : Str)=some b:=by
 rw[BX,show(("ties" : Str)=="places")=false by decide +kernel];dsimp only;rw[BX,show(("ties" : Str)=="ties")=true by decide +kernel]
open L2 L4
def D4(W:Wd)(w:Nat×List ZPi):Ob:=.ins W.Web [("places",.int w.1),("ties",.tup (w.2.map pairD)),("near_sets",.tup (Qm w.1 w.2))]
def Qx(p:Nat)(ts:List ZPi):List ZLi:=(B1 p).map λx=>D3 (DL ts x)
theorem jI(p:Nat)(ts:List ZPi):D.tup (Qm p ts)=eT (eT D.int) (Qx p ts):=by
 unfold Qm Qx eT;rw[BF];rfl
open Classical in
def gj(x:Int)(l:List ZPi):Option (Nat×List ZPi):=if 1<=x/\x<=60/\GR x l/\l.length<=90000 then some (x.toNat,Ix l)else none
section
variable{W:Wd}{A:List Sl}{a b m:ME}{p:Option (Nat×List ZPi)}
theorem WM{l:Type}{f:Str}{enc:l->D}{g:Nat×List ZPi->l}(h:VE A m (rO (D4 W)) p)(o:∀w,([("places",D.int w.1),("ties",.tup (w.2.map pairD)),("near_sets",.tup (Qm w.1 w.2))]:List (Str×D)).lookup f=some (enc (g w))):VE A (DY W.Web f m) (rV enc) (p.bind λw=>some (g w)):=λv s B e F S C=>by
 obtain⟨w,E,G⟩:=BA s;cases G;obtain⟨d,H,I,J,n,rfl,L⟩:=h w E B e F S C;exact⟨_,H,Kz I L (o w),J,rfl⟩
theorem Ga(h:VE A m (rO (D4 W)) p):VE A (DY W.Web "places" m) (rV D.int) (p.bind λw=>some (w.1:Int)):=WM h λw=>vw _ _ _
theorem mH(h:VE A m (rO (D4 W)) p):VE A (DY W.Web "ties" m) (rV (eT (eP D.int D.int))) (p.bind λw=>some w.2):=WM h λw=>vu _ _ _
theorem mI(h:VE A m (rO (D4 W)) p):VE A (DY W.Web "near_sets" m) (rV (eT (eT D.int))) (p.bind λw=>some (Qx w.1 w.2)):=WM h λw=>by rw[<-jI];exact vt _ _ _
theorem qV(W:Wd){p:Nat}(h1:1<=p)(U:p<=60){d:D}{S:Sto}{ps:List ZPi}(X:∀l,Keeps S l->GB d l=some (ps.map pairD))(O:ps.length<=90000)(P:GR p ps){e:Lo}{ml:ML}{S0:Sto}(Y:ml e S0=.ok [.int p,d] S) :
  ∃l,No W.Web 3 (Mh W) ml e S0=.ok (.ref S.length) l/\Keeps S l/\l[S.length]?=some (D4 W (p,Ix ps)):=by
 have Z:Qy (mB (m3 leD leD (mC (.int 1)) (AD 1) (mC (.int 60)))) [sR S.length,sI p,some d] (S++[.ins W.Web []])=.ok false (S++[.ins W.Web []]):=
  PL (b:=true) (VM (qD (S3:=S++[.ins W.Web []]) rfl rfl (jX (wX (by lia))) rfl (jX (wX (by lia)))))
 have ω:(S++[Ob.ins W.Web []])[S.length]?=some (.ins W.Web []):=E2 _ _;have e1:=SF (C:=W.Web) (f:="places") (mo:=AD 0) (mv:=AD 1) (e:=[sR S.length,sI p,some d]) (S:=S++[.ins W.Web []]) (v:=.int p) rfl rfl ω (by decide);have B:Keeps S ((S++[Ob.ins W.Web []]).set S.length (.ins W.Web (KO "places" (.int p) []))):=(Keeps.app S _).set (AO _) _;generalize E:(S++[Ob.ins W.Web []]).set S.length (.ins W.Web (KO "places" (.int p) []))=S1 at e1 B
 have Q:S1[S.length]?=some (.ins W.Web [("places",.int p)]):=by rw[<-E];exact At (by simp)
 obtain⟨G,R,K2⟩:=XN W (p:=p) (d:=d) (S:=S1) (ps:=ps) (λl k=>X l (B.trans k)) (Aw O (by decide)) P;rw[Z6]at R;have H:=SF (C:=W.Web) (f:="ties") (mo:=AD 0) (mv:=CM 2 (Hn W) (AL (AD 1) (AL (AD 2) BJ))) (e:=[sR S.length,sI p,some d]) (S:=S1) ((Hr rfl rfl).trans R) rfl (K2.at Q) (by simp);have I:Keeps S (G.set S.length (.ins W.Web (KO "ties" (.tup ((Ix ps).map pairD)) [("places",.int p)]))):=(B.trans K2).set (AO _) _;rw[put2]at H I;have o:S.length < G.length:=(AG.mp (K2.at Q)).1;generalize J:G.set S.length (.ins W.Web [("places",.int p),("ties",.tup ((Ix ps).map pairD))])=S3 at H I
 have L:S3[S.length]?=some (.ins W.Web [("places",.int p),("ties",.tup ((Ix ps).map pairD))]):=by rw[<-J];exact At o
 obtain⟨S4,c4,N⟩:=oH W U (ts:=Ix ps) (λt ht=>by
  obtain⟨x,hx,rfl⟩:=iF ht
  exact(P.1 x hx).in) (by rw[(Qi ps).length_eq,AF];exact O) S3
 have T:=SF (C:=W.Web) (f:="near_sets") (mo:=AD 0) (mv:=CM 2 (Hm W) (AL (AD 1) (AL (DY W.Web "ties" (AD 0)) BJ))) (e:=[sR S.length,sI p,some d]) (S:=S3)
  ((Hr (CU (S1:=S3) rfl (CU (Kz rfl L (sh _ _)) rfl)) rfl).trans c4) rfl (N.at L) (by simp)
 have s:S.length < S4.length:=(AG.mp (N.at L)).1;rw[put3]at T;refine⟨_,cO Y rfl (L2.aJ (e:=[sR S.length,sI p,some d]) ?_),(I.trans N).set (AO _) _,At s⟩;unfold UW;refine Ic (CC (e:=[sR S.length,sI p,some d]) (e1:=[sR S.length,sI p,some d]) (S1:=S++[.ins W.Web []]) (Ic (Gn Z) rfl)) ?_;rw[CC e1,CC H];exact T
theorem qf{C:Option Int}{pl:Option (List ZPi)}(I:VE A a (rV D.int) C)(hb:VE A b (rO (oL (eP D.int D.int))) pl):VE A (No W.Web 3 (Mh W) (AL a (AL b BJ))) (rN (D4 W)) (C.bind λx=>pl.bind λl=>gj x l):=λv s S0 e F S E=>by
 obtain⟨x,J,s⟩:=BA s;obtain⟨l,L,o⟩:=BA s;obtain⟨d1,N,O,B,rfl⟩:=I x J S0 e F S E;obtain⟨d2,P,Q,G,n,rfl,R⟩:=hb l L S0 e _ N (E.grow B);unfold gj at o;split at o
 ·rename_i T
  cases o;obtain⟨c1,c2,U,X⟩:=T;have H:((x.toNat:Nat):Int)=x:=BH (by lia);obtain⟨Y,Z,h6,h7⟩:=qV W (p:=x.toNat) (d:=.ref n) (S:=P) (ps:=l) (by lia) (by lia) (λS' k=>Ea (k.at R)) X (by rw[H];exact U) (ml:=AL a (AL b BJ)) (e:=e) (S0:=S) (by rw[H];exact CU O (CU Q rfl));exact⟨_,Y,Z,(B.trans G).trans h6,_,rfl,(B.trans G).1,h7⟩
 ·cases o
end
def K2(h s:Nat)(S l:Sto):Prop:=S.length<=l.length/\∀j,j < S.length->j≠h->j≠s->l[j]?=S[j]?
theorem K2.trans(a:K2 h s S S1)(b:K2 h s S1 S2):K2 h s S S2:=⟨Aw a.1 b.1,λj q l m=>(b.2 j (AV q a.1) l m).trans (a.2 j q l m)⟩
theorem K2.of{h s:Nat}{S S1:Sto}(a:Keeps S S1):K2 h s S S1:=⟨a.1,λj q _ _=>a.2 j q⟩
theorem K2.seth(a:K2 h s S S1)(o:Ob):K2 h s S (S1.set h o):=⟨by rw[Dw];exact a.1,λj q l m=>by rw[Aa (CF l)];exact a.2 j q l m⟩
theorem K2.sets(a:K2 h s S S1)(o:Ob):K2 h s S (S1.set s o):=⟨by rw[Dw];exact a.1,λj q m l=>by rw[Aa (CF l)];exact a.2 j q m l⟩
theorem K2.at(a:K2 h s S S1)(l:S[j]?=some o)(m:j≠h)(A:j≠s):S1[j]?=some o:=by rw[a.2 j (Bc l) m A];exact l
def Tk(l:List ZLi)(g:Int):ZLi:=(atI l g).getD []
theorem uA{m}{enc}{l}{S}{n}(o:S[n]?=some (oDK enc l))(s:l.length < 1000000)(k:Int)(v:m):RB (.ref n) (.int k) (enc v) S=some (S.set n (oDK enc (CK l k v))):=by
 unfold RB;dsimp only;rw[o];show(if (l.map _).length < sizeLine then some (S.set n (.dK (CK (l.map λx=>(DZ x.1,enc x.2)) (DZ k) (enc v))))else none)=_;rw[qX (by rw[AF];exact aZ s),P5 SO];rfl
theorem SS{m:Type}{enc:m->D}{l:List (Int×m)}{mo mi mv:ME}{e:Lo}{S:Sto}{n:Nat}{k:Int}{v:m}(o:mv e S=.ok (enc v) S)(ho:mo e S=.ok (.ref n) S)(hi:mi e S=.ok (.int k) S)(s:S[n]?=some (oDK enc l))(A:l.length < 1000000):DB mo mi mv e S=.ok (.nx e) (S.set n (oDK enc (CK l k v))):=by
 unfold DB;rw[o];dsimp only[Res.lift];rw[ho];dsimp only;rw[hi];dsimp only;rw[uA s A]
theorem MP{m o:Type}[DecidableEq m]{l s:List (m×o)}{k:m}{v:o}(h:JK l k v=some s):l.length < 1000000/\s=CK l k v:=by
 unfold JK at h;split at h
 ·rename_i c;cases h;exact⟨c,rfl⟩
 ·cases h
theorem db(m:S[tN]?=some (oL (eT D.int) B))(s:S[hN]?=some (oDK D.int H))(A:S[sN]?=some (oDK D.bl Q))(C:hN≠sN) :
  ∃F,Vs [] [.z (oL (eT D.int) B),.v (D.int bits),.w 2 (oDK D.int H),.v (D.int g),.w 4 (oDK D.bl Q),.u,.u] [sR tN,sI bits,sR hN,sI g,sR sN,none,none] F S:=by
 have E:tN≠hN:=λc=>by rw[c,s]at m;cases m
 have G:tN≠sN:=λc=>by rw[c,A]at m;cases m
 refine⟨λn=>if n=hN then .ow 2 else if n=sN then .ow 4 else match S[n]? with | some o=>.fz o | none=>.no,⟨Dp _,λj h=>(nomatch h)⟩,λn o q=>?_,λn i q=>?_,λn I=>?_,λi a l=>?_⟩
 ·split at q
  ·cases q
  ·split at q
   ·cases q
   ·cases w:S[n]? with
    | none=>rw[w]at q;cases q
    | some J=>rw[w]at q;cases q;rfl
 ·refine⟨Dp _,?_⟩
  split at q
  ·rename_i c;rw[c];exact Bc s
  ·split at q
   ·rename_i c;rw[c];exact Bc A
   ·cases w:S[n]? with
    | none=>rw[w]at q;cases q
    | some J=>rw[w]at q;cases q
 ·show(if n=hN then Cel.ow 2 else if n=sN then .ow 4 else match S[n]? with | some o=>.fz o | none=>.no)=_
  rw[qY λc=>zX (Bc s) (by rw[<-c];lia),qY λc=>zX (Bc A) (by rw[<-c];lia),Bo I]
 ·match i,l with
  | 0,l=>cases l;exact⟨_,rfl,tN,rfl,by show(if tN=hN then Cel.ow 2 else if tN=sN then .ow 4 else match S[tN]? with | some o=>.fz o | none=>.no)=_;rw[qY E,qY G,m]⟩
  | 1,l=>cases l;exact⟨_,rfl,rfl⟩
  | 2,l=>cases l;exact⟨_,rfl,hN,rfl,qX rfl,s⟩
  | 3,l=>cases l;exact⟨_,rfl,rfl⟩
  | 4,l=>cases l;exact⟨_,rfl,sN,rfl,by show(if sN=hN then Cel.ow 2 else if sN=sN then .ow 4 else match S[sN]? with | some o=>.fz o | none=>.no)=_;rw[qY (CF C),qX rfl],A⟩
  | 5,l=>cases l;exact⟨_,rfl,trivial⟩
  | 6,l=>cases l;exact⟨_,rfl,trivial⟩
  | i+7,l=>cases l
abbrev p9:ME:=Ee (Ef 1 (E1 (m2 ixA (AD 0) (AD 3))) (tgN 0) (PM (Gp (m2 UZ (m2 YE (AD 2) (AD 0)) (mC (.int 1)))) (mB (m2 (inA true) (AD 0) (AD 5)))) (AD 0))
theorem ls{S:Sto}{tN hN s:Nat}{m:List ZLi}{bits g:Int}{H:HL}{Q:QL}(G:S[tN]?=some (oL (eT D.int) m))(I:S[hN]?=some (oDK D.int H))(J:S[s]?=some (oDK D.bl Q))(L:hN≠s)(E:0<=g/\g < m.length)(N:∀t∈m,t.length<=1000/\∀x∈t,0<=x) :
  ∃n o,p9 [sR tN,sI bits,sR hN,sI g,sR s,none,none] S=.ok (.ref n) o/\Keeps S o/\S.length<=n/\o[n]?=some (oL D.int ((Tk m g).filter λx=>hb bits x&&!(An Q x).isSome)):=by
 obtain⟨F,V⟩:=db (bits:=bits) (g:=g) G I J L;obtain⟨t,B,-⟩:=bF (l:=m) E.1 E.2;have O:=N t (dG B)
 have key:=Cy (DR (enc:=D.int) (eb:=D.int) (A:=[.z (oL (eT D.int) m),.v (D.int bits),.w 2 (oDK D.int H),.v (D.int g),.w 4 (oDK D.bl Q),.u,.u]) (VI.k (Sq (IM (DK (v:=m) (i:=0) rfl) (AM (v:=g) (i:=3) rfl))))
  (λx=>Sv (bw (SE (qk (AM (v:=bits) (i:=2) rfl) (AM (v:=x) (i:=0) rfl)) (Br (v:=1) rfl))) (Ff (Xv (AM (v:=x) (i:=0) rfl) (OJ (v:=Q) (i:=5) rfl)))) (λx=>AM (v:=x) (i:=0) rfl))
 simp only[AC]at key;rw[B]at key;simp only[AC]at key
 have P:En t (λx=>((mz bits x).bind λC=>some (Bi C 1)).bind (λx=>some (x != 0)) |>.bind λb=>if b=true then some (!(An Q x).isSome)else some false) (λx=>some x)=some (t.filter λx=>hb bits x&&!(An Q x).isSome):=Mn (by lia) λx R=>by
  rw[show mz bits x=some (bits / 2 ^ x.toNat)from qX (O.2 x R)];show(if (Bi (bits / 2 ^ x.toNat) 1 != 0)=true then _ else _)=_;show(if hb bits x=true then _ else _)=_
  cases hb bits x <;> rfl
 obtain⟨d,o,T,U,n,rfl,X,Y⟩:=key _ P [] _ F S V;refine⟨n,o,T,U,X,?_⟩;unfold Tk;rw[B];exact Y
theorem pA{w:ZLi}{p:Int->Bool}{i:Nat}{x:Int}(h:∀j,j < i->∀y,w[j]?=some y->p y=false)(l:w[i]?=some x)(m:p x=true):w.find? p=some x:=by
 rw[List.find?_eq_some_iff_getElem];obtain⟨o,e⟩:=AG.mp l;refine⟨m,i,o,e,λj s=>?_⟩;rw[h j s _ (Ap (by lia))];rfl
theorem oz{w:ZLi}{p:Int->Bool}(h:∀j,j < w.length->∀y,w[j]?=some y->p y=false):w.find? p=none:=by
 rw[KU];intro x o l;obtain⟨i,m,e⟩:=dU o;rw[h i m x (by rw[Ap m,e])]at l;cases l
abbrev e7(tN:Nat)(bits:Int)(hN:Nat)(g:Int)(l:Nat)(z5 m:Option D):Lo:=[sR tN,sI bits,sR hN,sI g,sR l,z5,m]
abbrev bS1:MS:=sIf (mB (m2 (inA true) (AD 6) (AD 2))) (BP (DB (AD 2) (AD 6) (AD 3)) (DP (mC (.bl true)))) sNx
abbrev bS2(l:List D->Sto->Res D):MS:=sIf (mB (m2 (inA true) (AD 6) (AD 4))) (BP (DB (AD 4) (AD 6) (mC (.bl true)))
  (sIf (Gp (CM 5 l (AL (AD 0) (AL (AD 1) (AL (AD 2) (AL (m2 ixA (AD 2) (AD 6)) (AL (AD 4) BJ))))))) (BP (DB (AD 2) (AD 6) (AD 3)) (DP (mC (.bl true)))) sNx)) sNx
theorem qF(m:S[n]?=some (oDK enc l))(x:Int):inA true (.int x) (.ref n) S=.ok (.bl (!(An l x).isSome)) S:=by
 rw[UO (nA m) (cz m x)];simp
theorem wA(m:S[n]?=some (oDK enc l))(o:An l x=some v):ixA (.ref n) (.int x) S=.ok (enc v) S:=PU (nA m) (by rw[cz m x,o];rfl)
theorem eE(W:Wd){o:List ZLi}{bits:Int}(hT:∀t∈o,t.length<=1000/\∀x∈t,0<=x):∀(n:Nat) (H:HL) (g:Int) (Q:QL) (z:Bool×HL×QL),Ih (Tk o) bits n H g Q=some z->0<=g/\g < o.length->(∀x a,An H x=some a->0<=a/\a < o.length)->(∀x a,An z.2.1 x=some a->0<=a/\a < o.length) /\
  ∀(S:Sto) (tN hN sN:Nat),S[tN]?=some (oL (eT D.int) o)->S[hN]?=some (oDK D.int H)->S[sN]?=some (oDK D.bl Q)->hN≠sN->∃S',G3 W n [.ref tN,.int bits,.ref hN,.int g,.ref sN] S=.ok (.bl z.1) S'/\S'[hN]?=some (oDK D.int z.2.1)/\S'[sN]?=some (oDK D.bl z.2.2)/\K2 hN sN S S':=by
 intro n
 induction n with
 | zero=>intro H g Q z A;cases A
 | succ n ih=>
  intro H g Q z A hg X;unfold Ih at A
  have zc:∀(H:HL) (x:Int),(∀x a,An H x=some a->0<=a/\a < o.length)->∀y a,An (CK H x g) y=some a->0<=a/\a < o.length:=λH x X y a e=>by
   rw[DE]at e;split at e
   ·cases e;exact hg
   ·exact X y a e
  have lp:∀(r:ZLi) (s:HL) (l:QL),(∀x a,An s x=some a->0<=a/\a < o.length)->Op (Ih (Tk o) bits n) g r s l=some z->∀x a,An z.2.1 x=some a->0<=a/\a < o.length:=by
   intro r
   induction r with
   | nil=>intro s l Y e;cases e;exact Y
   | cons x r Z=>
    intro s l Y e;unfold Op at e;split at e
    ·exact Z s l Y e
    ·obtain⟨Q1,-,e⟩:=BA e
     obtain⟨P,e2,e⟩:=BA e;obtain⟨N,e3,e⟩:=BA e;have:=(ih s P Q1 N e3 (Y x P e2) Y).1;split at e
     ·obtain⟨H',G,e5⟩:=BA e
      cases e5;rw[(MP G).2];exact zc _ x this
     ·exact Z _ _ this e
  refine⟨?_,λS tN hN sN O hh hs xI=>?_⟩
  ·split at A
   ·obtain⟨H',G,e5⟩:=BA A
    cases e5;rw[(MP G).2];exact zc _ _ X
   ·exact lp _ _ _ X A
  ·have t1:tN≠hN:=λc=>by rw[c,hh]at O;cases O
   have t2:tN≠sN:=λc=>by rw[c,hs]at O;cases O
   obtain⟨wN,S1,w1,w2,w3,R⟩:=ls (bits:=bits) O hh hs xI hg hT;generalize (Tk o g).filter (λx=>hb bits x&&!(An Q x).isSome)=w at A R
   have wh:wN≠hN:=λc=>zX (Bc hh) (by lia)
   have ws:wN≠sN:=λc=>zX (Bc hs) (by lia)
   have s5:CY 5 p9 (Dy 7 [.ref tN,.int bits,.ref hN,.int g,.ref sN]) S=.ok (.nx (e7 tN bits hN g sN (some (.ref wN)) none)) S1:=Jk (i:=5) w1;have I:=w2.at hh;have zF:=w2.at hs;have ht1:=w2.at O;have k1:K2 hN sN S S1:=K2.of w2
   have it:∀m S',S'[wN]?=some (oL D.int w)->E1 (AD 5) (e7 tN bits hN g sN (some (.ref wN)) m) S'=.ok (GB (.ref wN)) S':=λm S' h=>Nu (n:=wN) rfl h
   obtain⟨f,S2,q1,q2⟩:=N0 (v:=GB (.ref wN)) (g:=tgN 6) (b:=bS1) (xs:=w.map D.int) (e:=e7 tN bits hN g sN (some (.ref wN)) none) (S:=S1)
    (λi e S'=>(∃m,e=e7 tN bits hN g sN (some (.ref wN)) m)/\S'=S1/\∀j,j < i->∀y,w[j]?=some y->(!(An H y).isSome)=false)
    (λf S'=>((∃m,f=.nx (e7 tN bits hN g sN (some (.ref wN)) m))/\S'=S1/\w.find? (λx=>!(An H x).isSome)=none)∨∃x,w.find? (λx=>!(An H x).isSome)=some x/\f=.rt (.bl true)/\S'=S1.set hN (oDK D.int (CK H x g)))
    ⟨⟨none,rfl⟩,rfl,λj hj=>zX hj (OF j)⟩ (by rintro i e S' ⟨_,rfl,_⟩;exact Ea R)
    (by
     rintro i d e S' B ⟨⟨m,rfl⟩,rfl,xn⟩;rw[Ac]at B
     cases L:w[i]? with
     | none=>rw[L]at B;cases B
     | some x=>
      rw[L]at B;cases B;refine⟨e7 tN bits hN g sN (some (.ref wN)) (some (.int x)),S',rfl,?_⟩;have E:mB (m2 (inA true) (AD 6) (AD 2)) (e7 tN bits hN g sN (some (.ref wN)) (some (.int x))) S'=.ok (!(An H x).isSome) S':=VM (EN rfl rfl (qF I x))
      cases c:(An H x).isSome with
      | true=>
       rw[c]at E;refine⟨_,S',(Gn E).trans rfl,⟨_,rfl⟩,rfl,λj hj y hy=>?_⟩
       by_cases q:j=i
       ·subst q;rw[L]at hy;cases hy;rw[c];rfl
       ·exact xn j (by lia) y hy
      | false=>
       rw[c]at E;have T:w.find? (λx=>!(An H x).isSome)=some x:=pA xn L (by rw[c];rfl);rw[T]at A;obtain⟨H',G,e5⟩:=BA A;obtain⟨hl,-⟩:=MP G;have dp:=SS (mo:=AD 2) (mi:=AD 6) (mv:=AD 3) (e:=e7 tN bits hN g sN (some (.ref wN)) (some (.int x))) (k:=x) (v:=g) rfl rfl rfl I hl
       exact⟨.rt (.bl true),_,(Gn E).trans ((qX rfl).trans ((CC dp).trans rfl)),.inr ⟨x,T,rfl,rfl⟩⟩)
    (by
     rintro e S' ⟨⟨m,rfl⟩,rfl,xn⟩;rw[AF]at xn
     exact .inl ⟨⟨m,rfl⟩,rfl,oz xn⟩)
   have run:∀{S':Sto} {d:D},Y7 W (G3 W n) (Dy 7 [.ref tN,.int bits,.ref hN,.int g,.ref sN]) S=.ok (.rt d) S'->G3 W (n+1) [.ref tN,.int bits,.ref hN,.int g,.ref sN] S=.ok d S':=λh=>L2.Ku h
   rcases q2 with⟨⟨m,rfl⟩,rfl,T⟩ | ⟨x,T,rfl,rfl⟩
   ·rw[T]at A
    dsimp only at A
    obtain⟨f,S3,p1,p2⟩:=N0 (v:=GB (.ref wN)) (g:=tgN 6) (b:=bS2 (G3 W n)) (xs:=w.map D.int) (e:=e7 tN bits hN g sN (some (.ref wN)) m) (S:=S2)
     (λi e S'=>(∃m,e=e7 tN bits hN g sN (some (.ref wN)) m)/\S'[wN]?=some (oL D.int w)/\K2 hN sN S S'/\∃s l,S'[hN]?=some (oDK D.int s)/\S'[sN]?=some (oDK D.bl l)/\(∀x a,An s x=some a->0<=a/\a < o.length)/\Op (Ih (Tk o) bits n) g (w.drop i) s l=some z)
     (λf S'=>K2 hN sN S S'/\S'[hN]?=some (oDK D.int z.2.1)/\S'[sN]?=some (oDK D.bl z.2.2)/\((f=.rt (.bl true)/\z.1=true)∨((∃m,f=.nx (e7 tN bits hN g sN (some (.ref wN)) m))/\z.1=false)))
     ⟨⟨m,rfl⟩,R,k1,H,Q,I,zF,X,A⟩ (by rintro i e S' ⟨_,h,_⟩;exact Ea h)
     (by
      rintro i d e S' B ⟨⟨m,rfl⟩,a1,a2,s,l,a3,U,a5,C⟩;rw[Ac]at B
      cases L:w[i]? with
      | none=>rw[L]at B;cases B
      | some x=>
       rw[L]at B;cases B;obtain⟨hi,ex⟩:=AG.mp L;rw[DV hi,ex]at C;unfold Op at C;refine⟨e7 tN bits hN g sN (some (.ref wN)) (some (.int x)),S',rfl,?_⟩;have E:mB (m2 (inA true) (AD 6) (AD 4)) (e7 tN bits hN g sN (some (.ref wN)) (some (.int x))) S'=.ok (!(An l x).isSome) S':=VM (EN rfl rfl (qF U x))
       cases c:(An l x).isSome with
       | true=>
        rw[c]at E;rw[qX c]at C;exact⟨_,S',(Gn E).trans rfl,⟨_,rfl⟩,a1,a2,s,l,a3,U,a5,C⟩
       | false=>
        rw[c]at E;rw[qY (by rw[c];exact AH)]at C;obtain⟨Q1,b1,a7⟩:=BA C;obtain⟨P,b2,a8⟩:=BA a7;obtain⟨N,b3,a9⟩:=BA a8;obtain⟨hl,rfl⟩:=MP b1
        clear C a7 a8
        have dp:=SS (enc:=D.bl) (mo:=AD 4) (mi:=AD 6) (mv:=mC (.bl true)) (e:=e7 tN bits hN g sN (some (.ref wN)) (some (.int x))) (k:=x) (v:=true) rfl rfl rfl U hl;have hsl:=Bc U
        have c3:(S'.set sN (oDK D.bl (CK l x true)))[hN]?=some (oDK D.int s):=by rw[Aa (CF xI)];exact a3
        have c4:(S'.set sN (oDK D.bl (CK l x true)))[sN]?=some (oDK D.bl (CK l x true)):=At hsl
        have c5:(S'.set sN (oDK D.bl (CK l x true)))[tN]?=some (oL (eT D.int) o):=by rw[Aa (CF t2)];exact a2.at O t1 t2
        have c1:(S'.set sN (oDK D.bl (CK l x true)))[wN]?=some (oL D.int w):=by rw[Aa (CF ws)];exact a1
        have c2:=a2.sets (oDK D.bl (CK l x true));generalize S'.set sN (oDK D.bl (CK l x true))=S4 at dp c1 c2 c3 c4 c5;obtain⟨r1,r2⟩:=ih s P (CK l x true) N b3 (a5 x P b2) a5;obtain⟨S5,r3,r4,r5,r6⟩:=r2 S4 tN hN sN c5 c3 c4 xI;have arg:AL (AD 0) (AL (AD 1) (AL (AD 2) (AL (m2 ixA (AD 2) (AD 6)) (AL (AD 4) BJ)))) (e7 tN bits hN g sN (some (.ref wN)) (some (.int x))) S4=.ok [.ref tN,.int bits,.ref hN,.int P,.ref sN] S4:=CU rfl (CU rfl (CU rfl (CU (EN (x:=.ref hN) (y:=.int x) rfl rfl (wA c3 b2)) (CU rfl rfl))))
        have zW:Gp (CM 5 (G3 W n) (AL (AD 0) (AL (AD 1) (AL (AD 2) (AL (m2 ixA (AD 2) (AD 6)) (AL (AD 4) BJ)))))) (e7 tN bits hN g sN (some (.ref wN)) (some (.int x))) S4=.ok N.1 S5:=by
         unfold Gp;rw[(Hr (n:=5) arg rfl).trans r3];rfl
        have d1:=r6.at c1 wh ws;have d2:=c2.trans r6
        cases J:N.1 with
        | true=>
         rw[J]at zW;rw[qX J]at a9;obtain⟨H',G,e5⟩:=BA a9;obtain⟨yU,rfl⟩:=MP G;cases e5;have dp2:=SS (mo:=AD 2) (mi:=AD 6) (mv:=AD 3) (e:=e7 tN bits hN g sN (some (.ref wN)) (some (.int x))) (k:=x) (v:=g) rfl rfl rfl r4 yU;refine⟨.rt (.bl true),_,(Gn E).trans ((qX rfl).trans ((CC dp).trans ((Gn zW).trans ((qX rfl).trans ((CC dp2).trans rfl))))),d2.seth _,At (Bc r4),?_,.inl ⟨rfl,rfl⟩⟩;rw[Aa xI];exact r5
        | false=>
         rw[J]at zW;rw[qY (by rw[J];exact AH)]at a9
         exact⟨_,S5,(Gn E).trans ((qX rfl).trans ((CC dp).trans ((Gn zW).trans rfl))),⟨_,rfl⟩,d1,d2,N.2.1,N.2.2,r4,r5,r1,a9⟩)
     (by
      rintro e S' ⟨⟨m,rfl⟩,a1,a2,s,l,a3,U,a5,C⟩;rw[AF,NI (AO _)]at C;unfold Op at C;cases C
      exact⟨a2,a3,U,.inr ⟨⟨m,rfl⟩,rfl⟩⟩)
    obtain⟨p3,p4,p5,p6⟩:=p2;have l1:=(Ky (g:=tgN 6) (b:=bS1) (it none S2 R)).trans q1;have l2:=(Ky (g:=tgN 6) (b:=bS2 (G3 W n)) (it m S2 R)).trans p1
    rcases p6 with⟨rfl,p6⟩ | ⟨⟨z7,rfl⟩,p6⟩
    ·rw[p6]
     exact⟨S3,run ((CC s5).trans ((CC l1).trans (WX l2))),p4,p5,p3⟩
    ·rw[p6]
     exact⟨S3,run ((CC s5).trans ((CC l1).trans ((CC l2).trans rfl))),p4,p5,p3⟩
   ·rw[T]at A
    obtain⟨H',G,e5⟩:=BA A;obtain⟨hl,rfl⟩:=MP G;cases e5;have l1:=(Ky (g:=tgN 6) (b:=bS1) (it none S1 R)).trans q1;refine⟨_,run ((CC s5).trans (WX l1)),At (Bc I),?_,k1.seth _⟩;rw[Aa xI];exact zF
abbrev e5(tN:Nat)(gs:ZLi)(bits:Int)(hN:Nat)(z:Option D):Lo:=[sR tN,some (eT D.int gs),sI bits,sR hN,z]
abbrev se:MT:=Gp (m2 UZ (m2 YE (AD 2) (AD 4)) (mC (.int 1)))
theorem uz(h:m e S=.ok (.bl b) S1):Gp m e S=.ok b S1:=by
 unfold Gp;rw[h];rfl
theorem uy(h:m e S=.ok (.int i) S1):Gp m e S=.ok (i != 0) S1:=by
 unfold Gp;rw[h];rfl
theorem kn(h:0<=g):se (e5 tN gs bits hN (some (.int g))) S=.ok (hb bits g) S:=by
 have l:m2 YE (AD 2) (AD 4) (e5 tN gs bits hN (some (.int g))) S=.ok (.int (bits / 2 ^ g.toNat)) S:=EN rfl rfl (qX h);exact uy (EN (f:=UZ) (mb:=mC (.int 1)) (y:=.int 1) l rfl rfl)
abbrev bF1:MS:=sIf se (DB (AD 3) (AD 4) (AD 4)) sNx
abbrev vm(W:Wd)(n:Nat):ME:=CM 5 (G3 W n) (AL (AD 0) (AL (AD 2) (AL (AD 3) (AL (AD 4) (AL Jy BJ)))))
abbrev bF2(W:Wd)(n:Nat):MS:=sIf (PM (Qy se) (Qy (Gp (vm W n)))) (DP (mC (.bl false))) sNx
theorem oy(W:Wd)(hT:∀t∈H,t.length<=1000/\∀x∈t,0<=x)(U:∀g∈gs,0<=g/\g < H.length)(X:Vr (Tk H) bits 64 gs=some b)(Y:S[tN]?=some (oL (eT D.int) H)) :
  ∃S',XD W [.ref tN,eT D.int gs,.int bits] S=.ok (.bl b) S'/\Keeps S S':=by
 unfold Vr at X;obtain⟨L,hs,hr⟩:=BA X;have O:CY 3 Jy (Dy 5 [.ref tN,eT D.int gs,.int bits]) S=.ok (.nx (e5 tN gs bits S.length none)) (S++[.dK []]):=rfl;have Z:(S++[Ob.dK []])[S.length]?=some (oDK D.int []):=E2 _ _;have k0:=Keeps.app S [.dK []];have tl:=Bc Y;generalize S++[Ob.dK []]=S0 at O Z k0
 obtain⟨f,S1,q1,⟨P,rfl⟩,q2,q3,q4⟩:=N0 (v:=ID (gs.map D.int)) (g:=tgN 4) (b:=bF1) (xs:=gs.map D.int) (e:=e5 tN gs bits S.length none) (S:=S0)
  (λi e S'=>(∃z,e=e5 tN gs bits S.length z)/\Keeps S S'/\∃m,S'[S.length]?=some (oDK D.int m)/\(∀x a,An m x=some a->0<=a/\a < H.length)/\TF bits (gs.drop i) m=some L)
  (λf S'=>(∃z,f=.nx (e5 tN gs bits S.length z))/\Keeps S S'/\S'[S.length]?=some (oDK D.int L)/\∀x a,An L x=some a->0<=a/\a < H.length)
  ⟨⟨none,rfl⟩,k0,[],Z,λx a e=>(nomatch e),hs⟩ (λ_ _ _ _=>rfl)
  (by
   rintro i d e S' s ⟨⟨z,rfl⟩,o,m,B,G,l⟩;rw[Ac]at s
   cases E:gs[i]? with
   | none=>rw[E]at s;cases s
   | some g=>
    rw[E]at s;cases s;have A:=U g (Bt E);obtain⟨Q,ex⟩:=AG.mp E;rw[DV Q,ex]at l;unfold TF at l;refine⟨e5 tN gs bits S.length (some (.int g)),S',rfl,?_⟩;have C:=kn (tN:=tN) (hN:=S.length) (gs:=gs) (bits:=bits) (S:=S') A.1
    cases c:hb bits g with
    | true=>
     rw[c]at C;rw[qX c]at l;obtain⟨H',R,I⟩:=BA l;obtain⟨hl,rfl⟩:=MP R;have dp:=SS (mo:=AD 3) (mi:=AD 4) (mv:=AD 4) (e:=e5 tN gs bits S.length (some (.int g))) (k:=g) (v:=g) rfl rfl rfl B hl;refine⟨_,_,(Gn C).trans ((qX rfl).trans dp),⟨_,rfl⟩,o.set (AO _) _,_,At (Bc B),λx a e=>?_,I⟩;rw[DE]at e;split at e
     ·cases e;exact A
     ·exact G x a e
    | false=>
     rw[c]at C;rw[qY (by rw[c];exact AH)]at l
     exact⟨_,S',(Gn C).trans rfl,⟨_,rfl⟩,o,m,B,G,l⟩)
  (by
   rintro e S' ⟨⟨z,rfl⟩,o,m,B,G,l⟩;rw[AF,NI (AO _)]at l;cases l
   exact⟨⟨z,rfl⟩,o,B,G⟩)
 obtain⟨f,S2,p1,p2,p3⟩:=N0 (v:=ID (gs.map D.int)) (g:=tgN 4) (b:=bF2 W 64) (xs:=gs.map D.int) (e:=e5 tN gs bits S.length P) (S:=S1)
  (λi e S'=>(∃z,e=e5 tN gs bits S.length z)/\Keeps S S'/\∃m,S'[S.length]?=some (oDK D.int m)/\(∀x a,An m x=some a->0<=a/\a < H.length)/\TY (Tk H) bits 64 (gs.drop i) m=some b)
  (λf S'=>Keeps S S'/\((f=.rt (.bl false)/\b=false)∨((∃z,f=.nx (e5 tN gs bits S.length z))/\b=true)))
  ⟨⟨P,rfl⟩,q2,L,q3,q4,hr⟩ (λ_ _ _ _=>rfl)
  (by
   rintro i d e S' s ⟨⟨z,rfl⟩,o,m,B,G,l⟩;rw[Ac]at s
   cases E:gs[i]? with
   | none=>rw[E]at s;cases s
   | some g=>
    rw[E]at s;cases s;have A:=U g (Bt E);obtain⟨Q,ex⟩:=AG.mp E;rw[DV Q,ex]at l;unfold TY at l;refine⟨e5 tN gs bits S.length (some (.int g)),S',rfl,?_⟩;have C:=kn (tN:=tN) (hN:=S.length) (gs:=gs) (bits:=bits) (S:=S') A.1
    cases c:hb bits g with
    | true=>
     rw[c]at C;rw[qX c]at l;exact⟨_,S',(Gn (dJ (PL C))).trans rfl,⟨_,rfl⟩,o,m,B,G,l⟩
    | false=>
     rw[c]at C;rw[qY (by rw[c];exact AH)]at l;obtain⟨w,R,I⟩:=BA l
     clear l
     have hl:=Bc B;have b0:(S'++[Ob.dK []])[S'.length]?=some (oDK D.bl []):=E2 _ _;have J:=Keeps.app S' [.dK []];have arg:AL (AD 0) (AL (AD 2) (AL (AD 3) (AL (AD 4) (AL Jy BJ)))) (e5 tN gs bits S.length (some (.int g))) S'=.ok [.ref tN,.int bits,.ref S.length,.int g,.ref S'.length] (S'++[.dK []]):=rfl;generalize S'++[Ob.dK []]=S4 at b0 J arg;obtain⟨r1,r2⟩:=eE W (bits:=bits) hT 64 m g [] w R A G;obtain⟨S5,r3,r4,r5,r6⟩:=r2 S4 tN S.length S'.length (J.at (o.at Y)) (J.at B) b0 (by lia);have N:Gp (vm W 64) (e5 tN gs bits S.length (some (.int g))) S'=.ok w.1 S5:=uz ((Hr (n:=5) arg rfl).trans r3)
     have kS:Keeps S S5:=⟨Aw (Aw o.1 J.1) r6.1,λj T=>by
      have h4:j < S4.length:=AV T (Aw o.1 J.1)
      rw[r6.2 j h4 (by lia) (by have:=o.1;lia),J.2 j (AV T o.1),o.2 j T]⟩
     cases hw:w.1 with
     | true=>
      rw[hw]at N;rw[qX hw]at I;exact⟨_,S5,(Gn ((XT (PL C)).trans (PL N))).trans rfl,⟨_,rfl⟩,kS,w.2.1,r4,r1,I⟩
     | false=>
      rw[hw]at N;rw[qY (by rw[hw];exact AH)]at I;cases I
      exact⟨.rt (.bl false),S5,(Gn ((XT (PL C)).trans (PL N))).trans rfl,kS,.inl ⟨rfl,rfl⟩⟩)
  (by
   rintro e S' ⟨⟨z,rfl⟩,o,m,B,G,l⟩;rw[AF,NI (AO _)]at l;cases l
   exact⟨o,.inr ⟨⟨z,rfl⟩,rfl⟩⟩)
 have it:∀z S',E1 (AD 1) (e5 tN gs bits S.length z) S'=.ok (ID (gs.map D.int)) S':=λz S'=>UB (xs:=gs.map D.int) rfl
 have l1:=(Ky (g:=tgN 4) (b:=bF1) (it none S0)).trans q1;have l2:=(Ky (g:=tgN 4) (b:=bF2 W 64) (it P S1)).trans p1;refine⟨S2,L2.Ku (n:=5) (mb:=bE W) ?_,p2⟩;unfold bE
 rcases p3 with⟨rfl,rfl⟩ | ⟨⟨z,rfl⟩,rfl⟩
 ·exact(CC O).trans ((CC l1).trans (WX l2))
 ·exact(CC O).trans ((CC l1).trans ((CC l2).trans rfl))
open Classical in
def Tb(l:List ZLi)(gs:ZLi)(bits:Int):Option Bool:=if (∀t∈l,t.length<=1000/\∀x∈t,0<=x)/\∀g∈gs,0<=g/\g < l.length then Vr (Tk l) bits 64 gs else none
theorem qt(W:Wd)(m:List ZLi)(gs:ZLi)(bits:Int):VF (XD W) [.z (oL (eT D.int) m),.v (eT D.int gs),.v (D.int bits)] (rV D.bl) (Tb m gs bits):=λv l S s A=>by
 unfold Tb at l;split at l
 ·rename_i o
  match s,A with
  | [d1,d2,d3],⟨⟨n,B,C⟩,E,G,_⟩=>
   cases B;cases E;cases G;obtain⟨H,I,J⟩:=oy W o.1 o.2 l C;exact⟨_,H,I,J,rfl⟩
 ·cases l
structure Fp where
 ev:List ZLi
 kd:Str
 tk:List ZLi
 nu:List (ZLi×Int)
 hv:ZLi
 pb:ZLi
abbrev fdF(a b c h k m:Nat)(kd:Str):List (Str×D):=[("everything",.ref a),("kind",.str kd),("takes",.ref b),("numbers",.ref c),("having",.ref h),("place_bits",.ref k),("known",.ref m)]
def ZC(W:Wd)(f:Fp)(L:Nat->Option Ob)(q m:Nat):Prop:=∃a b c h k,L q=some (.ins W.Field (fdF a b c h k m f.kd))/\L a=some (oL (eT D.int) f.ev)/\L b=some (oL (eT D.int) f.tk)/\L c=some (oDR D.int f.nu)/\L h=some (oL D.int f.hv)/\L k=some (oL D.int f.pb)
def IZ(W:Wd)(f:Fp)(L:Nat->Option Ob)(d:D):Prop:=∃q m,d=.ref q/\ZC W f L q m
section
variable{W:Wd}{f:Fp}{P P':Pq}{C:AT}{x:Str}{d:D}{o:Ob}
theorem AtO.of(h:∀L d,P L d->P' L d)(z:AtO P' C x o):AtO P C x o:=λL d q=>z L d (h L d q)
theorem AtN.of(h:∀L d,P L d->P' L d)(z:AtN P' C x):AtN P C x:=λL d q=>z L d (h L d q)
theorem ou:AtV (IZ W f) W.Field "kind" (D.str f.kd):=λL d ⟨q,m,e,a,b,c,h,k,g,_⟩=>⟨q,_,e,g,rfl⟩
theorem Io:AtO (IZ W f) W.Field "everything" (oL (eT D.int) f.ev):=λL d ⟨q,m,e,a,b,c,h,k,g,l,_⟩=>⟨q,_,a,e,g,rfl,l⟩
theorem UH:AtO (IZ W f) W.Field "takes" (oL (eT D.int) f.tk):=λL d ⟨q,m,e,a,b,c,h,k,g,s,l,_⟩=>⟨q,_,b,e,g,rfl,l⟩
theorem aq:AtO (IZ W f) W.Field "numbers" (oDR D.int f.nu):=λL d ⟨q,m,e,a,b,c,h,k,g,s,A,l,_⟩=>⟨q,_,c,e,g,rfl,l⟩
theorem fL:AtO (IZ W f) W.Field "having" (oL D.int f.hv):=λL d ⟨q,m,e,a,b,c,h,k,g,s,A,B,l,_⟩=>⟨q,_,h,e,g,rfl,l⟩
theorem U6:AtO (IZ W f) W.Field "place_bits" (oL D.int f.pb):=λL d ⟨q,m,e,a,b,c,h,k,g,s,A,B,E,l⟩=>⟨q,_,k,e,g,rfl,l⟩
theorem kB(l:∀a b c h k m kd,(fdF a b c h k m kd).lookup x=none):AtN (IZ W f) W.Field x:=λL d ⟨q,m,e,a,b,c,h,k,g,_⟩=>⟨q,_,e,g,l ..⟩
end
def Fd(m:(Nat×List ZPi))(l:Int):Option (Fw Unit Unit):=
 ((if decide ((0:Int)<=l)=true then some (decide (l < (m.1:Int)))else some false).bind λo=>some (!o)).bind λs=>if s=true then none else some (.nx ())
def HZ(l:(Nat×List ZPi))(m:Int):Option Unit:=nw (Fd l m)
theorem Pu(W:Wd)(l:(Nat×List ZPi))(m:Int):VF (Hl W) [.z ((D4 W) l),.v (D.int m)] (rV eU) (HZ l m):=by
 refine qe (n:=2) (b:=Hs W) (p:=Fd l m) (B:=λ_=>[.z ((D4 W) l),.v (D.int m)]) ?_;show VS [.z ((D4 W) l),.v (D.int m)] _ _ _ _;unfold Hs Fd;exact(Gk (B:=(λ(_:Unit)=>[.z ((D4 W) l),.v (D.int m)])) (Zy (Ff (Ss Y4 wZ (Br rfl) (AM rfl) (Ga (DK rfl))))) Zq (HM (.refl _)))
def Wj(l:(Nat×List ZPi))(m:Int):Option (Fw ZLi Unit):=
 BO ((HZ l m).bind λ_=>some (.nx ())) λ_=>(atI (Qx l.1 l.2) m).bind λo=>some (.rt o)
def Wn(l:(Nat×List ZPi))(m:Int):Option ZLi:=Gg (Wj l m)
theorem qr(W:Wd)(l:(Nat×List ZPi))(m:Int):VF (au W) [.z ((D4 W) l),.v (D.int m)] (rV (eT D.int)) (Wn l m):=by
 refine Ex (n:=2) (b:=bD W) (p:=Wj l m) (B:=λ_=>[]) ?_;show VS [.z ((D4 W) l),.v (D.int m)] _ _ _ _;unfold bD Wj;exact(BG (lz (CJ (Pt (DK rfl) (C2 (AM rfl) CP)) (λo=>Pu W o.1 o.2.1) (λ_=>rfl) FH)) (λ_=>(E8 (Zw (mI (DK rfl)) (AM rfl)))))
def MK(s:(Nat×List ZPi)):Option (Fw (List ZLi) Unit):=
 (((some (s.1:Int)).bind PD).bind λl=>En l (λm=>some true) (λm=>(((some (m :: [])).bind IV).bind λA=>(Wn s m).bind λB=>Q7 A B).bind λC=>some (D3 C))).bind λo=>some (.rt o)
def MU(l:(Nat×List ZPi)):Option (List ZLi):=Gg (MK l)
theorem Zz(W:Wd)(m:(Nat×List ZPi)):VF (Mf W) [.z ((D4 W) m)] (rN (oL (eT D.int))) (MU m):=by
 refine Ex (n:=1) (b:=PX W) (p:=MK m) (B:=λ_=>[]) ?_;show VS [.z ((D4 W) m)] _ _ _ _;unfold PX MK;exact(GZ (Cy (DR (VI.k (Ew (Ga (DK rfl)))) (λo=>Gb) (λo=>(Qd (HN (VZ (WN (O2 (FZ (AM rfl) Eu)) (CJ (Pt (DK rfl) (C2 (AM rfl) CP)) (λl=>qr W l.1 l.2.1) (λ_=>rfl) FH)))))))))
def OP(m:ZLi):Option (Fw Int Unit):=
 BO (some (.nx (0:Int))) λo=>BO (Fh m o λ(s:Int) A=>EB (λB=>B) ((Ql (1:Int) A).bind λC=>some (.nx (Cw s C)))) λl=>some (.rt l)
def HC(l:ZLi):Option Int:=Gg (OP l)
theorem di(W:Wd)(l:ZLi):VF (Q6 W) [.v ((eT D.int) l)] (rV D.int) (HC l):=by
 refine Ex (n:=3) (b:=RE W) (p:=OP l) (B:=λ_=>[]) ?_;show VS [.v ((eT D.int) l),.u,.u] _ _ _ _;unfold RE OP;exact(BG (DX (Br rfl)) (λo=>(BG (F9 (s0:=o) (B:=(λ(m:Int)=>[.v ((eT D.int) l),.v (D.int m),.u])) (Sq (AM rfl)) Er (.refl _) (λA C=>(DJ (Qb rfl (Qe (Br rfl) (AM rfl))) (λE=>(.same (.same (.drop .nil))))))) (λs=>(E8 (AM rfl))))))
def ON(s:Int):Option (Fw ZLi Unit):=
 BO (((some []).bind IV).bind λA=>some (.nx A)) λB=>BO (some (.nx s)) λC=>BO (whF (λ(l:ZLi×Int)=>some (l.2 != 0)) (λ(l:ZLi×Int)=>BO ((bH l.1 ((Di (Bi l.2 (-l.2)):Int) - (1:Int))).bind λm=>some (.nx m)) λE=>EB (λo=>(E,o)) (some (.nx (Bi l.2 (l.2 - (1:Int)))))) wN (B,C)) λG=>some (.rt G.1)
def LW(l:Int):Option ZLi:=Gg (ON l)
theorem Vb(W:Wd)(l:Int):VF (OT W) [.v (D.int l)] (rN (oL D.int)) (LW l):=by
 refine Ex (n:=3) (b:=RD W) (p:=ON l) (B:=λ_=>[]) ?_;show VS [.v (D.int l),.u,.u] _ _ _ _;unfold RD ON;exact(BG (JW (Cy (Ev Eu))) (λo=>(BG (DX (AM rfl)) (λs=>(BG (Xo (s0:=(o,s)) (B:=(λ(m:ZLi×Int)=>[.v (D.int l),.w 1 ((oL D.int) m.1),.v (D.int m.2)])) (.refl _) (λA=>(bw (AM rfl))) (λA=>(BG (Zr rfl (Jj (mM (SE (AM rfl) (WL (AM rfl)))) (Br rfl)) rfl) (λE=>(DJ (Qb rfl (Jj (AM rfl) (Br rfl))) (λC=>(.refl _))))))) (λG=>(SD rfl)))))))
def Ka(m:ZLi)(o:Int)(s:Int):Option (Fw ZLi Unit):=
 (En m (λl=>some true) (λl=>if (decide (l=o))=true then some s else some l)).bind λA=>some (.rt A)
def Ke(l:ZLi)(m:Int)(o:Int):Option ZLi:=Gg (Ka l m o)
theorem X0(W:Wd)(l:ZLi)(m:Int)(o:Int):VF (N1 W) [.v ((eT D.int) l),.v (D.int m),.v (D.int o)] (rV (eT D.int)) (Ke l m o):=by
 refine Ex (n:=3) (b:=N7 W) (p:=Ka l m o) (B:=λ_=>[]) ?_;show VS [.v ((eT D.int) l),.v (D.int m),.v (D.int o)] _ _ _ _;unfold N7 Ka;exact(E8 (Qd (HN (Cy (DR (VI.k (Sq (AM rfl))) (λs=>Gb) (λs=>(Zx (Ff (IE Co IR (AM rfl) (AM rfl))) (AM rfl) (AM rfl) FH)))))))
def OM(L:Int)(J:Int):Option (Fw (List ZLi) Unit):=
 BO (((((some []).bind IV).bind λN=>some (N :: [])).bind IV).bind λO=>some (.nx O)) λP=>BO (((some J).bind PD).bind λl=>Fh l P λ(Q:(List ZLi)) R=>BO (((some []).bind IV).bind λS=>some (.nx S)) λT=>BO (Fh Q T λ(U:(List ZLi)) m=>BO ((if (!m.isEmpty)=true then(atI m (-(1:Int))).bind λX=>some (X+(1:Int))else some (0:Int)).bind λY=>some (.nx Y)) λo=>EB (λZ=>Z) ((YO o (((L - J)+R)+(1:Int))).bind λs=>Fh s U λ(A:(List ZLi)) B=>EB (λC=>C) ((((some (B :: [])).bind IV).bind λzH=>Q7 m zH).bind λE=>(bH A E).bind λG=>some (.nx G)))) λH=>EB (λ_=>H) (some (.nx ()))) λI=>some (.rt I)
def LV(l:Int)(m:Int):Option (List ZLi):=Gg (OM l m)
theorem df(W:Wd)(l:Int)(m:Int):VF (Q5 W) [.v (D.int l),.v (D.int m)] (rN (oL (eT D.int))) (LV l m):=by
 refine Ex (n:=8) (b:=RC W) (p:=OM l m) (B:=λ_=>[]) ?_;show VS [.v (D.int l),.v (D.int m),.u,.u,.u,.u,.u,.u] _ _ _ _;unfold RC OM;exact(BG (Ie (Cy (Ev (FZ (O2 Eu) Eu)))) (λH=>(BG (F9 (s0:=H) (B:=(λ(o:(List ZLi))=>[.v (D.int l),.v (D.int m),.y ((oL (eT D.int)) o),.u,.u,.u,.u,.u])) (Ew (AM rfl)) Er (.refl _) (λE G=>(BG (JW (Cy (Ev Eu))) (λI=>(BG (F9 (s0:=I) (B:=(λ(s:(List ZLi))=>[.v (D.int l),.v (D.int m),.y ((oL (eT D.int)) E),.v (D.int G),.w 4 ((oL (eT D.int)) s),.u,.u,.u])) (Pn rfl) Er (.refl _) (λJ L=>(BG (DX (Zx (mO (AM rfl)) (E9 (Zw (AM rfl) (WL (Br rfl))) (Br rfl)) (Br rfl) FH)) (λA=>(DJ (F9 (s0:=J) (B:=(λ(C:(List ZLi))=>[.v (D.int l),.v (D.int m),.y ((oL (eT D.int)) E),.v (D.int G),.w 4 ((oL (eT D.int)) C),.v ((eT D.int) L),.v (D.int A),.u])) (LQ (AM rfl) (E9 (E9 (Jj (AM rfl) (AM rfl)) (AM rfl)) (Br rfl))) Er (.refl _) (λN O=>(DJ (Zr rfl (WN (AM rfl) (O2 (FZ (AM rfl) Eu))) rfl) (λP=>(.same (.same (.same (.same (.same (.same (.same (.drop .nil)))))))))))) (λS=>(.same (.same (.same (.same (.same (.drop (.drop (.same .nil)))))))))))))) (λQ=>(DJ (gq 4 rfl rfl (VY rfl)) (λ_=>(.same (.same (.same (.drop (.drop (.same (.same (.same .nil)))))))))))))))) (λR=>(bj rfl)))))
def Ge(s:Int)(A:Int):Option (Fw Int Unit):=
 BO (some (.nx (1:Int))) λB=>BO (((some A).bind PD).bind λl=>Fh l B λ(C:Int) o=>EB (λE=>E) (((jJ C (s - o)).bind λG=>Yx G (o+(1:Int))).bind λH=>some (.nx H))) λm=>some (.rt m)
def Ey(l:Int)(m:Int):Option Int:=Gg (Ge l m)
theorem Qg(W:Wd)(l:Int)(m:Int):VF (IW W) [.v (D.int l),.v (D.int m)] (rV D.int) (Ey l m):=by
 refine Ex (n:=4) (b:=IY W) (p:=Ge l m) (B:=λ_=>[]) ?_;show VS [.v (D.int l),.v (D.int m),.u,.u] _ _ _ _;unfold IY Ge;exact(BG (DX (Br rfl)) (λo=>(BG (F9 (s0:=o) (B:=(λ(ϯ:Int)=>[.v (D.int l),.v (D.int m),.v (D.int ϯ),.u])) (Ew (AM rfl)) Er (.refl _) (λA C=>(DJ (DX (bu (gu (AM rfl) (Jj (AM rfl) (AM rfl))) (E9 (AM rfl) (Br rfl)))) (λE=>(.same (.same (.same (.drop .nil)))))))) (λs=>(E8 (AM rfl))))))
def Jv(m:(Nat×List ZPi))(l:Int):Option (Fw Int Unit):=
 BO (((if decide ((1:Int)<=l)=true then some (decide (l<=(m.1:Int)))else some false).bind λo=>some (!o)).bind λs=>if s=true then none else some (.nx ())) λ_=>(Ey (m.1:Int) l).bind λA=>some (.rt A)
def HB(l:(Nat×List ZPi))(m:Int):Option Int:=Gg (Jv l m)
theorem S6(W:Wd)(l:(Nat×List ZPi))(m:Int):VF (IX W) [.z ((D4 W) l),.v (D.int m)] (rV D.int) (HB l m):=by
 refine Ex (n:=2) (b:=Mo W) (p:=Jv l m) (B:=λ_=>[]) ?_;show VS [.z ((D4 W) l),.v (D.int m)] _ _ _ _;unfold Mo Jv;exact(BG (Gk (B:=(λ(_:Unit)=>[.z ((D4 W) l),.v (D.int m)])) (Zy (Ff (Ss Y4 Y4 (Br rfl) (AM rfl) (Ga (DK rfl))))) Zq (HM (.refl _))) (λ_=>(E8 (CJ (C2 (Ga (DK rfl)) (C2 (AM rfl) CP)) (λo=>Qg W o.1 o.2.1) (λ_=>rfl) FH))))
def Kb(l:(Nat×List ZPi))(m:Int):Option (Fw (List ZLi) Unit):=
 BO (((HB l m).bind λo=>some (decide ((400:Int) < o))).bind λs=>if s=true then none else some (.nx ())) λ_=>(LV (l.1:Int) m).bind λA=>some (.rt A)
def Kf(l:(Nat×List ZPi))(m:Int):Option (List ZLi):=Gg (Kb l m)
theorem X1(W:Wd)(l:(Nat×List ZPi))(m:Int):VF (HF W) [.z ((D4 W) l),.v (D.int m)] (rN (oL (eT D.int))) (Kf l m):=by
 refine Ex (n:=2) (b:=JD W) (p:=Kb l m) (B:=λ_=>[]) ?_;show VS [.z ((D4 W) l),.v (D.int m)] _ _ _ _;unfold JD Kb;exact(BG (Gk (B:=(λ(_:Unit)=>[.z ((D4 W) l),.v (D.int m)])) (Ff (Pr (CJ (Pt (DK rfl) (C2 (AM rfl) CP)) (λo=>S6 W o.1 o.2.1) (λ_=>rfl) FH) (Br rfl))) Zq (HM (.refl _))) (λ_=>(GZ (CJ (C2 (Ga (DK rfl)) (C2 (AM rfl) CP)) (λϰ=>df W ϰ.1 ϰ.2.1) (λ_=>rfl) JR))))
def HX(l:ZLi)(m:Int):Option (Fw Int Unit):=
 BO (if (decide (m < (l.length:Int)))=true then(atI l m).bind λo=>some (.rt o)else some (.nx ())) λ_=>some (.rt (0:Int))
def CL(l:ZLi)(m:Int):Option Int:=Gg (HX l m)
theorem GC(W:Wd)(l:ZLi)(m:Int):VF (ED W) [.v (eF l),.v (D.int m)] (rV D.int) (CL l m):=by
 refine Ex (n:=2) (b:=KD W) (p:=HX l m) (B:=λ_=>[]) ?_;show VS [.v (eF l),.v (D.int m)] _ _ _ _;unfold KD HX;exact(BG (Gk (B:=(λ(_:Unit)=>[.v (eF l),.v (D.int m)])) (Ff (gv (AM rfl) (br (AM rfl)))) (E8 (gx (AM rfl) (AM rfl))) (HM (.refl _))) (λ_=>(E8 (Br rfl))))
def MM(B:Int):Option (Fw (List ZPi) Unit):=
 BO (((some []).bind IV).bind λE=>some (.nx E)) λG=>BO (((some B).bind PD).bind λl=>Fh l G λ(H:(List ZPi)) C=>EB (λϯ=>ϯ) ((YO (C+(1:Int)) B).bind λm=>Fh m H λ(o:(List ZPi)) ϱ=>EB (λI=>I) ((bH o (C,ϱ)).bind λs=>some (.nx s)))) λA=>some (.rt A)
def Hd(l:Int):Option (List ZPi):=Gg (MM l)
theorem Pw(W:Wd)(l:Int):VF (Jc W) [.v (D.int l)] (rN (oL (eP D.int D.int))) (Hd l):=by
 refine Ex (n:=4) (b:=Mp W) (p:=MM l) (B:=λ_=>[]) ?_;show VS [.v (D.int l),.u,.u,.u] _ _ _ _;unfold Mp MM;exact(BG (JW (Cy (Ev Eu))) (λs=>(BG (F9 (s0:=s) (B:=(λ(m:(List ZPi))=>[.v (D.int l),.w 1 ((oL (eP D.int D.int)) m),.u,.u])) (Ew (AM rfl)) Er (.refl _) (λA C=>(DJ (F9 (s0:=A) (B:=(λ(o:(List ZPi))=>[.v (D.int l),.w 1 ((oL (eP D.int D.int)) o),.v (D.int C),.u])) (LQ (E9 (AM rfl) (Br rfl)) (AM rfl)) Er (.refl _) (λE ϱ=>(DJ (Zr rfl (Lw (AM rfl) (AM rfl)) rfl) (λH=>(.same (.same (.same (.drop .nil)))))))) (λϯ=>(.same (.same (.drop (.same .nil)))))))) (λG=>(SD rfl)))))
def HW(l:Int)(o:Int):Option (Fw (List ZPi) Unit):=
 BO (if (decide (o=(1:Int)))=true then(((some (l - (1:Int))).bind PD).bind λs=>En s (λA=>some true) (λA=>some (A,(A+(1:Int))))).bind λL=>some (.rt L)else some (.nx ())) λ_=>BO (if (decide (o=(2:Int)))=true then((((some (l - (1:Int))).bind PD).bind λB=>En B (λC=>some true) (λC=>some (C,(C+(1:Int))))).bind λN=>((some (((0:Int),(l - (1:Int))) :: [])).bind IV).bind λE=>Q7 N E).bind λO=>some (.rt O)else some (.nx ())) λ_=>BO (if (decide (o=(3:Int)))=true then(Hd l).bind λG=>some (.rt G)else some (.nx ())) λ_=>BO (if (decide (o=(4:Int)))=true then((YO (1:Int) l).bind λH=>En H (λm=>some true) (λm=>some ((0:Int),m))).bind λI=>some (.rt I)else some (.nx ())) λ_=>((some []).bind IV).bind λJ=>some (.rt J)
def Ed(l:Int)(m:Int):Option (List ZPi):=Gg (HW l m)
theorem Px(W:Wd)(l:Int)(m:Int):VF (Ho W) [.v (D.int l),.v (D.int m)] (rN (oL (eP D.int D.int))) (Ed l m):=by
 refine Ex (n:=2) (b:=Ht W) (p:=HW l m) (B:=λ_=>[]) ?_;show VS [.v (D.int l),.v (D.int m)] _ _ _ _;unfold Ht HW;exact(BG (Gk (B:=(λ(_:Unit)=>[.v (D.int l),.v (D.int m)])) (Ff (IE Co IR (AM rfl) (Br rfl))) (GZ (Cy (DR (VI.k (Ew (Jj (AM rfl) (Br rfl)))) (λA=>Gb) (λA=>(Lw (AM rfl) (E9 (AM rfl) (Br rfl))))))) (HM (.refl _))) (λ_=>(BG (Gk (B:=(λ(_:Unit)=>[.v (D.int l),.v (D.int m)])) (Ff (IE Co IR (AM rfl) (Br rfl))) (GZ (bv (HN (Cy (DR (VI.k (Ew (Jj (AM rfl) (Br rfl)))) (λC=>Gb) (λC=>(Lw (AM rfl) (E9 (AM rfl) (Br rfl))))))) (HN (Cy (Ev (FZ (Lw (Br rfl) (Jj (AM rfl) (Br rfl))) Eu)))))) (HM (.refl _))) (λ_=>(BG (Gk (B:=(λ(_:Unit)=>[.v (D.int l),.v (D.int m)])) (Ff (IE Co IR (AM rfl) (Br rfl))) (GZ (CJ (C2 (AM rfl) CP) (λo=>Pw W o.1) (λ_=>rfl) JR)) (HM (.refl _))) (λ_=>(BG (Gk (B:=(λ(_:Unit)=>[.v (D.int l),.v (D.int m)])) (Ff (IE Co IR (AM rfl) (Br rfl))) (GZ (Cy (DR (VI.k (LQ (Br rfl) (AM rfl))) (λs=>Gb) (λs=>(Lw (Br rfl) (AM rfl)))))) (HM (.refl _))) (λ_=>(GZ (Cy (Ev Eu)))))))))))
def Kc(o:ZLi)(Z:Int)(U:Int):Option (Fw (List ZPi) Unit):=
 BO ((Hd U).bind λx5=>some (.nx x5)) λs=>BO (some (.nx [])) λv6=>BO (((((((CL o (0:Int)).bind λzZ=>some (zZ / 7)).bind λCs=>some (Cs % 6)).bind λze=>some (ze,())).bind λA=>some (U,A)).bind λX=>Ed X.1 X.2.1).bind λB=>Fh B v6 λ(yr:(List (ZPi×Bool))) yQ=>EB (λC=>C) ((JK yr yQ true).bind λE=>some (.nx E))) λG=>BO ((((some (o.length:Int)).bind λY=>some (if (63:Int) < Y then(63:Int)else Y)).bind λH=>YO Z H).bind λI=>Fh I G λ(J:(List (ZPi×Bool))) L=>BO ((((atI o L).bind λN=>Ye N (s.length:Int)).bind λO=>atI s O).bind λP=>some (.nx P)) λQ=>EB (λyD=>yD) ((if (!(An J Q).isSome)=true then some true else(An J Q).bind λϙ=>some (!ϙ)).bind λR=>(JK J Q R).bind λS=>some (.nx S))) λl=>(En s (λm=>if ((An l m).isSome)=true then An l m else some false) (λm=>some m)).bind λT=>some (.rt T)
def Kg(l:ZLi)(m:Int)(o:Int):Option (List ZPi):=Gg (Kc l m o)
theorem X4(W:Wd)(l:ZLi)(m:Int)(o:Int):VF (N2 W) [.v (eF l),.v (D.int m),.v (D.int o)] (rN (oL (eP D.int D.int))) (Kg l m o):=by
 refine Ex (n:=7) (b:=OA W) (p:=Kc l m o) (B:=λ_=>[]) ?_;show VS [.v (eF l),.v (D.int m),.v (D.int o),.u,.u,.u,.u] _ _ _ _;unfold OA Kc;exact(BG (Ie (CJ (C2 (AM rfl) CP) (λI=>Pw W I.1) (λ_=>rfl) JR)) (λG=>(BG (JW g8) (λJ=>(BG (F9 (s0:=J) (B:=(λ(A:(List (ZPi×Bool)))=>[.v (eF l),.v (D.int m),.v (D.int o),.y ((oL (eP D.int D.int)) G),.w 4 ((oDP D.bl) A),.u,.u])) (Sr (CJ (C2 (AM rfl) (C2 (Ig rfl (Gy rfl (CJ (C2 (AM rfl) (C2 (Br rfl) CP)) (λs=>GC W s.1 s.2.1) (λ_=>rfl) FH))) CP)) (λH=>Px W H.1 H.2.1) (λ_=>rfl) JR)) Er (.refl _) (λQ R=>(DJ (Xp rfl (AM rfl) (Br rfl) rfl) (λL=>(.same (.same (.same (.same (.same (.drop (.same .nil))))))))))) (λC=>(BG (F9 (s0:=C) (B:=(λ(E:(List (ZPi×Bool)))=>[.v (eF l),.v (D.int m),.v (D.int o),.y ((oL (eP D.int D.int)) G),.w 4 ((oDP D.bl) E),.u,.u])) (LQ (AM rfl) (bq (br (AM rfl)) (Br rfl))) Er (.refl _) (λS N=>(BG (DX (IM (Dk rfl) (Zv (gx (AM rfl) (AM rfl)) (Pp (Dk rfl))))) (λT=>(DJ (Xp rfl (AM rfl) (ql (g7 (AM rfl) (OJ rfl)) (mJ (Xx (OJ rfl) (AM rfl)))) rfl) (λU=>(.same (.same (.same (.same (.same (.drop (.drop .nil))))))))))))) (λO=>(GZ (Cy (DR (VI.k (Pn rfl)) (λP=>(Sv (Ff (mK (AM rfl) (OJ rfl))) (hZ (Xx (OJ rfl) (AM rfl))))) (λP=>(AM rfl)))))))))))))
def Ik(o:ZLi)(m:(List ZPi)):Option (Fw (List ZPi) Unit):=
 BO (((((CL o (0:Int)).bind λs=>some (s / 42)).bind λA=>some (A % 2)).bind λB=>some (decide (B=(0:Int)))).bind λϱ=>if ϱ=true then some (.rt m)else some (.nx ())) λ_=>(En m.reverse (λl=>some true) (λl=>some (l.2,l.1))).bind λC=>some (.rt C)
def Im(l:ZLi)(m:(List ZPi)):Option (List ZPi):=Gg (Ik l m)
theorem Us(W:Wd)(l:ZLi)(m:(List ZPi)):VF (K5 W) [.v (eF l),.z ((oL (eP D.int D.int)) m)] (rN (oL (eP D.int D.int))) (Im l m):=by
 refine Ex (n:=2) (b:=LD W) (p:=Ik l m) (B:=λ_=>[]) ?_;show VS [.v (eF l),.z ((oL (eP D.int D.int)) m)] _ _ _ _;unfold LD Ik;exact(BG (Gk (B:=(λ(_:Unit)=>[.v (eF l),.z ((oL (eP D.int D.int)) m)])) (Ff (IE Co IR (Ig rfl (Gy rfl (CJ (C2 (AM rfl) (C2 (Br rfl) CP)) (λo=>GC W o.1 o.2.1) (λ_=>rfl) FH))) (Br rfl))) (GZ (Cy (l8 (bo (DK rfl))))) (HM (.refl _))) (λ_=>(GZ (Cy (DR (qZ (DK rfl)) (λs=>Gb) (λs=>(Lw (qj (AM rfl)) (qo (AM rfl)))))))))
def Kd(O:Int)(L:Int):Option (Fw (List ZLi) Unit):=
 BO (((((some []).bind IV).bind λP=>some (P :: [])).bind IV).bind λQ=>some (.nx Q)) λR=>BO (((some L).bind PD).bind λl=>Fh l R λ(S:(List ZLi)) T=>BO (((some []).bind IV).bind λU=>some (.nx U)) λX=>BO (Fh S X λ(Y:(List ZLi)) m=>BO (some (.nx (0:Int))) λo=>BO ((((some []).bind IV).bind λZ=>some (!decide (m=Z))).bind λs=>if s=true then EB (λA=>A) (((atI m (-(1:Int))).bind λzY=>some (zY+(1:Int))).bind λyP=>some (.nx yP))else some (.nx o)) λB=>EB (λC=>C) (((YO B (((O - L)+T)+(1:Int))).bind λE=>En E (λN=>some true) (λN=>((some (N :: [])).bind IV).bind λG=>Q7 m G)).bind λH=>(Q7 Y H).bind λI=>some (.nx I))) λJ=>EB (λ_=>J) (some (.nx ()))) λϚ=>some (.rt Ϛ)
def Iz(l:Int)(m:Int):Option (List ZLi):=Gg (Kd l m)
theorem X5(W:Wd)(l:Int)(m:Int):VF (N3 W) [.v (D.int l),.v (D.int m)] (rN (oL (eT D.int))) (Iz l m):=by
 refine Ex (n:=7) (b:=OB W) (p:=Kd l m) (B:=λ_=>[]) ?_;show VS [.v (D.int l),.v (D.int m),.u,.u,.u,.u,.u] _ _ _ _;unfold OB Kd;exact(BG (Ie (Cy (Ev (FZ (O2 Eu) Eu)))) (λG=>(BG (F9 (s0:=G) (B:=(λ(o:(List ZLi))=>[.v (D.int l),.v (D.int m),.y ((oL (eT D.int)) o),.u,.u,.u,.u])) (Ew (AM rfl)) Er (.refl _) (λC E=>(BG (JW (Cy (Ev Eu))) (λH=>(BG (F9 (s0:=H) (B:=(λ(s:(List ZLi))=>[.v (D.int l),.v (D.int m),.y ((oL (eT D.int)) C),.v (D.int E),.w 4 ((oL (eT D.int)) s),.u,.u])) (Pn rfl) Er (.refl _) (λI J=>(BG (DX (Br rfl)) (λL=>(BG (Gk (B:=(λ(A:Int)=>[.v (D.int l),.v (D.int m),.y ((oL (eT D.int)) C),.v (D.int E),.w 4 ((oL (eT D.int)) I),.v ((eT D.int) J),.v (D.int A)])) (Ff (uw (Mj Co) jE (AM rfl) (O2 Eu))) (DJ (DX (E9 (Zw (AM rfl) (WL (Br rfl))) (Br rfl))) (λN=>(.refl _))) (HM (.refl _))) (λO=>(DJ (qW rfl (Cy (DR (VI.k (LQ (AM rfl) (E9 (E9 (Jj (AM rfl) (AM rfl)) (AM rfl)) (Br rfl)))) (λP=>Gb) (λP=>(WN (AM rfl) (O2 (FZ (AM rfl) Eu)))))) rfl) (λQ=>(.same (.same (.same (.same (.same (.drop (.drop .nil))))))))))))))) (λR=>(DJ (gq 4 rfl rfl (VY rfl)) (λ_=>(.same (.same (.same (.drop (.drop (.same (.same .nil))))))))))))))) (λS=>(bj rfl)))))
def MN(s:Int)(A:Int):Option (Fw Int Unit):=
 BO (some (.nx (1:Int))) λB=>BO (((some A).bind PD).bind λl=>Fh l B λ(C:Int) o=>EB (λE=>E) (((jJ C (s - o)).bind λG=>Yx G (o+(1:Int))).bind λH=>some (.nx H))) λm=>some (.rt m)
def Ja(l:Int)(m:Int):Option Int:=Gg (MN l m)
theorem WR(W:Wd)(l:Int)(m:Int):VF (Mg W) [.v (D.int l),.v (D.int m)] (rV D.int) (Ja l m):=by
 refine Ex (n:=4) (b:=Mq W) (p:=MN l m) (B:=λ_=>[]) ?_;show VS [.v (D.int l),.v (D.int m),.u,.u] _ _ _ _;unfold Mq MN;exact(BG (DX (Br rfl)) (λo=>(BG (F9 (s0:=o) (B:=(λ(ϯ:Int)=>[.v (D.int l),.v (D.int m),.v (D.int ϯ),.u])) (Ew (AM rfl)) Er (.refl _) (λA C=>(DJ (DX (bu (gu (AM rfl) (Jj (AM rfl) (AM rfl))) (E9 (AM rfl) (Br rfl)))) (λE=>(.same (.same (.same (.drop .nil)))))))) (λs=>(E8 (AM rfl))))))
def Il(m:Fp)(o:Int):Option (Fw ZLi Unit):=
 BO ((atI m.ev o).bind λs=>some (.nx s)) λA=>(((some (m.tk.length:Int)).bind PD).bind λB=>En B (λl=>some (!decide (l∈A))) (λl=>some l)).bind λC=>some (.rt C)
def G2(l:Fp)(m:Int):Option ZLi:=Gg (Il l m)
theorem Ut(W:Wd)(l:Fp)(m:Int):VF (K6 W) [.q (IZ W l),.v (D.int m)] (rN (oL D.int)) (G2 l m):=by
 refine Ex (n:=3) (b:=LF W) (p:=Il l m) (B:=λ_=>[]) ?_;show VS [.q (IZ W l),.v (D.int m),.u] _ _ _ _;unfold LF Il;exact(BG (DX (IM (G6 Io rfl) (AM rfl))) (λs=>(GZ (Cy (DR (VI.k (Ew (Pp (G6 UH rfl)))) (λo=>(Ff (bp Co (AM rfl) (AM rfl)))) (λo=>(AM rfl)))))))
def EI(m:Fp)(I:Int):Option (Fw Int Unit):=
 BO ((atI m.ev I).bind λJ=>some (.nx J)) λo=>BO (some (.nx (0:Int))) λL=>BO (Fh o L λ(N:Int) G=>EB (λs=>s) ((atI m.tk G).bind λO=>Fh O N λ(l:Int) H=>EB (λA=>A) (if (!decide (H∈o))=true then EB (λB=>B) (((((Ke o G H).bind λP=>some (D3 P)).bind λQ=>An m.nu Q).bind λC=>Ql (1:Int) C).bind λR=>some (.nx (Cw l R)))else some (.nx l)))) λE=>some (.rt E)
def EK(l:Fp)(m:Int):Option Int:=Gg (EI l m)
theorem IF(W:Wd)(l:Fp)(m:Int):VF (DT W) [.q (IZ W l),.v (D.int m)] (rV D.int) (EK l m):=by
 refine Ex (n:=6) (b:=FU W) (p:=EI l m) (B:=λ_=>[]) ?_;show VS [.q (IZ W l),.v (D.int m),.u,.u,.u,.u] _ _ _ _;unfold FU EI;exact(BG (DX (IM (G6 Io rfl) (AM rfl))) (λo=>(BG (DX (Br rfl)) (λG=>(BG (F9 (s0:=G) (B:=(λ(s:Int)=>[.q (IZ W l),.v (D.int m),.v ((eT D.int) o),.v (D.int s),.u,.u])) (Sq (AM rfl)) Er (.refl _) (λH E=>(DJ (F9 (s0:=H) (B:=(λ(I:Int)=>[.q (IZ W l),.v (D.int m),.v ((eT D.int) o),.v (D.int I),.v (D.int E),.u])) (Sq (IM (G6 UH rfl) (AM rfl))) Er (.refl _) (λJ L=>(DJ (Gk (B:=(λ(A:Int)=>[.q (IZ W l),.v (D.int m),.v ((eT D.int) o),.v (D.int A),.v (D.int E),.v (D.int L)])) (Ff (bp Co (AM rfl) (AM rfl))) (DJ (Qb rfl (Qe (Br rfl) (g9 (G6 aq rfl) (Qd (HN (VZ (CJ (C2 (AM rfl) (C2 (AM rfl) (C2 (AM rfl) CP))) (λC=>X0 W C.1 C.2.1 C.2.2.1) (λ_=>rfl) FH))))))) (λN=>(.refl _))) (HM (.refl _))) (λO=>(.same (.same (.same (.same (.same (.drop .nil)))))))))) (λP=>(.same (.same (.same (.same (.drop (.same .nil)))))))))) (λQ=>(E8 (AM rfl))))))))
def EJ(l:Fp)(C:Int):Option (Fw Int Unit):=
 BO ((atI l.ev C).bind λE=>some (.nx E)) λG=>BO (some (.nx (0:Int))) λH=>BO (Fh (Dm l.pb) H λ(A:Int) B=>EB (λm=>m) ((Tb l.tk G B.2).bind λI=>if I=true then EB (λo=>o) ((Ql (1:Int) B.1).bind λJ=>some (.nx (Cw A J)))else some (.nx A))) λs=>some (.rt s)
def EL(l:Fp)(m:Int):Option Int:=Gg (EJ l m)
theorem IG(W:Wd)(l:Fp)(m:Int):VF (DU W) [.q (IZ W l),.v (D.int m)] (rV D.int) (EL l m):=by
 refine Ex (n:=6) (b:=FV W) (p:=EJ l m) (B:=λ_=>[]) ?_;show VS [.q (IZ W l),.v (D.int m),.u,.u,.u,.u] _ _ _ _;unfold FV EJ;exact(BG (DX (IM (G6 Io rfl) (AM rfl))) (λs=>(BG (DX (Br rfl)) (λC=>(BG (F9 (s0:=C) (B:=(λ(o:Int)=>[.q (IZ W l),.v (D.int m),.v ((eT D.int) s),.v (D.int o),.u,.u])) (mG U6 rfl) lw (.refl _) (λJ A=>(DJ (Gk (B:=(λ(E:Int)=>[.q (IZ W l),.v (D.int m),.v ((eT D.int) s),.v (D.int E),.v (D.int A.1),.v (D.int A.2)])) (hZ (CJ (Pt (G6 UH rfl) (C2 (AM rfl) (C2 (AM rfl) CP))) (λϰ=>qt W ϰ.1 ϰ.2.1 ϰ.2.2.1) (λ_=>rfl) FH)) (DJ (Qb rfl (Qe (Br rfl) (AM rfl))) (λG=>(.refl _))) (HM (.refl _))) (λH=>(.same (.same (.same (.same (.drop (.drop .nil)))))))))) (λI=>(E8 (AM rfl))))))))
def MV(f:Fp)(n:Int):Option Int:=if decide (f.kd = "one")=true then EK f n else EL f n
def FG(W:Wd)(f:Fp)(L:Nat->Option Ob)(d:D):Prop:=∃q m l,d=.ref q/\ZC W f L q m/\L m=some (.mem l)/\∀n z:Int,0<=n->n < 1000->MV f n=some z->l (.inl n)=z
section
variable{W:Wd}{f:Fp}{x:Str}{L L':Nat->Option Ob}{qn m:Nat}
theorem FG.q:∀L d,FG W f L d->IZ W f L d:=λL d ⟨q,m,l,e,h,_⟩=>⟨q,m,e,h⟩
theorem Ip:AtO (FG W f) W.Field "everything" (oL (eT D.int) f.ev):=AtO.of FG.q Io
theorem fM:AtO (FG W f) W.Field "having" (oL D.int f.hv):=AtO.of FG.q fL
theorem kC(l:∀a b c h k m kd,(fdF a b c h k m kd).lookup x=none):AtN (FG W f) W.Field x:=AtN.of FG.q (kB l)
theorem ZC.mono(h:∀n o,L n=some o->L' n=some o):ZC W f L qn m->ZC W f L' qn m:=λ⟨a,b,c,d,k,l,s,A,B,C,E⟩=>⟨a,b,c,d,k,h _ _ l,h _ _ s,h _ _ A,h _ _ B,h _ _ C,h _ _ E⟩
end
abbrev aX(W:Wd):ME:=Yk (mB (m2 (eqD false) (DY W.Field "kind" (AD 0)) (mC (.str "one")))) (Nn W.Field "linked_by_one" 2 (DT W) (AD 0) (AL (AD 1) BJ)) (Nn W.Field "linked_by_all" 2 (DU W) (AD 0) (AL (AD 1) BJ))
theorem gw(W:Wd)(f:Fp)(n:Int):VE [.q (IZ W f),.v (D.int n)] (aX W) (rV D.int) (MV f n):=
 Zx (Ff (IE cw jF (qp ou rfl) (Br rfl)))
  (Po (Pf:=IZ W) (Pg:=IZ W) (kB λ_ _ _ _ _ _ _=>rfl) (λ_ _ h=>h) rfl (C2 (AM rfl) CP) (λz=>IF W f z.1) (λ_=>rfl) FH)
  (Po (Pf:=IZ W) (Pg:=IZ W) (kB λ_ _ _ _ _ _ _=>rfl) (λ_ _ h=>h) rfl (C2 (AM rfl) CP) (λz=>IG W f z.1) (λ_=>rfl) FH) FH
def GK(f:Fp)(n:Int):Option Int:=if 0<=n/\n < 1000 then MV f n else none
theorem mT{o s:Type}[DecidableEq o]{l:List (o×s)}{k:o}{v:s}(h:An l k=some v):(k,v)∈l:=by
 unfold An at h
 cases m:l.find? λA=>decide (A.1=k)with
 | none=>rw[m]at h;cases h
 | some x=>
  rw[m]at h;cases h
  have B:x.1=k:=by have:=lZ m;exact of_decide_eq_true this
  subst B;exact WE m
theorem aa{W:Wd}{f:Fp}{n z:Int}{S:Sto}{q m:Nat}{J:Key->Int}(Y:0<=n)(Ϭ:n < 1000)(hz:MV f n=some z)(hl:J (.inl n)=z)(hC:ZC W f (λk=>S[k]?) q m)(hm:S[m]?=some (.mem J)):qL (JM W) [.ref q,.int n] S m J z:=by
 intro s N;obtain⟨a,b,c,h,k,g0,g1,g2,g3,g4,g5⟩:=hC
 have ne:∀j o,S[j]?=some o->o≠Ob.mem J->j≠m:=λj o A B e=>by
  subst e;rw[hm]at A;cases A;exact B rfl
 have E:(S.set m (.dK s))[m]?=some (.dK s):=At (Bc hm)
 have C:∀j o,S[j]?=some o->o≠Ob.mem J->(S.set m (.dK s))[j]?=some o:=λj o A B=>by rw[Aa (CF (ne j o A B))];exact A
 have G:=C q _ g0 (λz=>nomatch z);have C1:ZC W f (λk=>(S.set m (.dK s))[k]?) q m:=⟨a,b,c,h,k,G,C a _ g1 (λz=>nomatch z),C b _ g2 (λz=>nomatch z),C c _ g3 (λz=>nomatch z),C h _ g4 (λz=>nomatch z),C k _ g5 (λz=>nomatch z)⟩
 have st:∀j,j < S.length->j≠m->(S.set m (.dK s))[j]?=S[j]?:=λj _ T=>Aa (CF T)
 generalize Z:S.set m (.dK s)=S1 at E G C1 st
 have U:∀S2:Sto,S2[q]?=some (.ins W.Field (fdF a b c h k m f.kd))->DY W.Field "known" (AD 0) [sR q,sI n] S2=.ok (.ref m) S2:=λS2 B=>Kz (n:=q) (by rfl) B rfl
 have sq:∀(S2:Sto) l,S2[m]?=some (.dK l)->GD (.ref m) S2=none:=λS2 l B=>by unfold GD;dsimp only;rw[B];try rfl
 have dg:∀(S2:Sto) l,S2[m]?=some (.dK l)->NC (.ref m) (.int n) S2=some (An l (.inl n)):=λS2 l B=>by unfold NC;dsimp only;rw[B];try rfl
 have X:mB (m2 (inA true) (AD 1) (DY W.Field "known" (AD 0))) [sR q,sI n] S1=.ok (!(An s (.inl n)).isSome) S1:=
  VM (EN (x:=.int n) (S1:=S1) (by rfl) (U S1 G) (UO (sq S1 s E) (dg S1 s E) true))
 cases O:An s (.inl n)with
 | some d=>
  have hd:d=.int z:=by rw[<-hl];exact(N.2 _ (mT O)).2
  subst hd;rw[O]at X;refine⟨S1,s,?_,E,N,st⟩;refine L2.Ku ?_;unfold KF;refine Ic (CC (e1:=[sR q,sI n]) (S1:=S1) (Ic (Gn X) rfl)) ?_;exact Kv (EN (U S1 G) (y:=.int n) (by rfl) (PU (sq S1 s E) (by rw[dg S1 s E,O])))
 | none=>
  rw[O]at X;have hQ:Kj S1 [.q (IZ W f),.v (D.int n)] [.ref q,.int n]:=⟨λL hL=>⟨q,m,rfl,C1.mono hL⟩,rfl,trivial⟩;obtain⟨d,S2,hE,kS,rfl⟩:=gw W f n z hz S1 _ _ S1 (Vs.start (n:=2) hQ);have xg:=kS.at E;have P:=kS.at G
  have Q:s.length < sizeLine:=by
   have A:=He N.1 (k:=Ww) λx H=>by
    obtain⟨y,R,rfl⟩:=BV.mp H;exact(N.2 y R).1
   rw[AF]at A
   have B:Ww.length=1000:=by unfold Ww;rw[AF,RK]
   rw[B]at A;exact aZ (Ay A (by decide))
  have nk:DZ n∉s.map (·.1):=λH=>by
   have:=(DD s (.inl n)).mpr H;rw[O]at this;cases this
  have pe:CK s (.inl n) (D.int z)=s++[(.inl n,D.int z)]:=by
   unfold CK;rw[qY];intro c;obtain⟨y,R,B⟩:=Gs.mp c;exact nk (BV.mpr ⟨y,R,of_decide_eq_true B⟩)
  have hk2:pX J (s++[(.inl n,D.int z)]):=by
   refine⟨?_,λx H=>?_⟩
   ·rw[Bv]
    exact Fx.mpr ⟨N.1,(Bu.mpr ⟨JE,Gj⟩),λx H y R=>by
     rw[AU.mp R];intro e;subst e
     exact nk H⟩
   ·rcases Av.mp H with A | A
    ·exact N.2 x A
    ·rw[AU.mp A]
     refine⟨?_,by rw[hl]⟩;unfold Ww;exact BV.mpr ⟨n.toNat,KR.mpr (by lia),by show DZ ((n.toNat:Nat):Int)=_;rw[BH Y]⟩
  have zc:DB (DY W.Field "known" (AD 0)) (AD 1) (aX W) [sR q,sI n] S1=oN [sR q,sI n] (S2.set m (.dK (s++[(.inl n,D.int z)]))):=by
   unfold DB;rw[show aX W [sR q,sI n] S1=.ok (.int z) S2 from hE];dsimp only[Res.lift];rw[U S2 P];dsimp only;rw[show AD 1 [sR q,sI n] S2=.ok (.int n) S2 from rfl];dsimp only
   rw[show RB (.ref m) (.int n) (.int z) S2=some (S2.set m (.dK (s++[(.inl n,D.int z)]))) by
    unfold RB;dsimp only;rw[xg];show(if s.length < sizeLine then some (S2.set m (.dK (CK s (DZ n) (D.int z))))else none)=_
    rw[qX Q,pe]]
  have I:(S2.set m (.dK (s++[(.inl n,D.int z)])))[m]?=some (.dK (s++[(.inl n,D.int z)])):=At (Bc xg)
  have ϕ:(S2.set m (.dK (s++[(.inl n,D.int z)])))[q]?=some (.ins W.Field (fdF a b c h k m f.kd)):=by
   rw[Aa]
   ·exact P
   ·intro e
    subst e;rw[E]at G;cases G
  have yz:∀j,j < S.length->j≠m->(S2.set m (.dK (s++[(.inl n,D.int z)])))[j]?=S[j]?:=λj T xI=>by
   rw[Aa (CF xI),kS.2 j (by rw[<-Z,Dw];exact T)];exact st j T xI
  refine⟨_,s++[(.inl n,D.int z)],?_,I,hk2,yz⟩;refine L2.Ku ?_;unfold KF;refine Ic (CC (e1:=[sR q,sI n]) (Ic (Gn X) zc)) ?_;refine Kv (EN (U _ ϕ) (y:=.int n) (by rfl) (PU (sq _ _ I) ?_));rw[dg _ _ I,<-pe,DE,qX rfl]
theorem S7(W:Wd)(f:Fp)(n:Int):VF (Hq W) [.q (FG W f),.v (D.int n)] (rV D.int) (GK f n):=λz l S C E=>by
 match C,E with
 | [d,x],⟨G,H,_⟩=>
  cases H
  obtain⟨q,m,N,rfl,A,B,s⟩:=G (λk=>S[k]?) λ_ _ h=>h
  unfold GK at l;split at l
  ·rename_i o
   have key:=aa o.1 o.2 l (s n z o.1 o.2 l) A B;refine⟨.int z,S,?_,Keeps.refl S,rfl⟩;unfold Hq pV
   rw[show Vl "known" [.ref q,.int n] S=some m by
    obtain⟨a,b,c,h,k,I,_⟩:=A;unfold Vl;dsimp only;rw[show S[q]?=_ from I]
    rfl]
   dsimp only;rw[show S[m]?=_ from B];dsimp only;obtain⟨O,P,J,_⟩:=key [] ⟨Gj,λ_ L=>nomatch L⟩;rw[J];dsimp only;rw[qX key]
  ·cases l
def nuS(l:List (ZLi×Int))(x:Int×ZLi):List (ZLi×Int):=CK l x.2 x.1
def hvP(k:Int)(h:ZLi)(p:Int):ZLi:=h.set p.toNat (Cw (h.getD p.toNat 0) (1 * 2 ^ k.toNat))
def hvS(h:ZLi)(x:Int×ZLi):ZLi:=x.2.foldl (hvP x.1) h
def nuF(ev:List ZLi):List (ZLi×Int):=(Dm ev).foldl nuS []
def hv0(n:Nat):ZLi:=(DN 0 n).map λ_=>0
def hvF(n:Nat)(ev:List ZLi):ZLi:=(Dm ev).foldl hvS (hv0 n)
def MW(w:Nat×List ZPi)(g:Int)(kd:Str):Option Fp:=
 (Kf w g).bind λl=>(MU w).bind λtk=>(En l (λ_=>some true) HC).bind λm=>
  if l.length<=1000/\w.1<=1000/\∀r∈l,∀x∈r,0<=x/\x < (w.1:Int)then some ⟨l,kd,tk,nuF l,hvF w.1 l,m⟩else none
structure Fc(W:Wd)(S1:Sto)(fs:List (Str×D))(T:Sto):Prop where
 kp:Keeps S1 T
 at':T[S1.length]?=some (.ins W.Field fs)
section
variable{W:Wd}{S1 T T':Sto}{fs:List (Str×D)}{x:Str}{d:D}{e:Lo}{m:ME}{j:Nat}{o:Ob}
theorem Fc.put(h:Fc W S1 fs T)(k:Keeps T T'):Fc W S1 (KO x d fs) (T'.set S1.length (.ins W.Field (KO x d fs))):=⟨(h.kp.trans k).set (AO _) _,At (Bc (k.at h.at'))⟩
theorem Fc.set(h:Fc W S1 fs T)(l:S1.length < j):Fc W S1 fs (T.set j o):=⟨h.kp.set (NR l) _,by rw[Aa (Eo l)];exact h.at'⟩
theorem Fc.step(h:Fc W S1 fs T)(l:e[0]?=some (some (.ref S1.length)))(s:m e T=.ok d T')(k:Keeps T T')(A:fs.length < 1000):Jr W.Field x (AD 0) m e T=.ok (.nx e) (T'.set S1.length (.ins W.Field (KO x d fs))):=SF s (NV l) (k.at h.at') A
theorem Fb(h:T[j]?=some o)(l:q < j):(T.set q o')[j]?=some o:=by rw[Aa (A0 l)];exact h
theorem Vs.all(h:∀(i:Nat) (a:Sl),A[i]?=some a->∃x,e[i]?=some x/\a.ok T (Lh T) T x):Vs T A e (Lh T) T:=by
 refine⟨Keeps.refl T,λn o q=>?_,λn i q=>?_,λn l=>by unfold Lh;rw[Bo l],h⟩
 ·unfold Lh at q
  split at q
  ·rename_i B s;cases q;exact s
  ·cases q
 ·unfold Lh at q
  split at q <;> cases q
theorem bJ(h:T[j]?=some o):Lh T j=.fz o:=by unfold Lh;rw[h]
theorem pO(ho:mo e T=.ok (.ref n) T)(hi:mi e T=.ok (.int p) T)(A:mv e T=.ok (.int y) T)(B:T[n]?=some (.lst xs))(C:0<=p)(l:xs[p.toNat]?=some (.int z)):YK g mo mi mv e T=.ok (.nx e) (T.set n (.lst (xs.set p.toNat (.int (g z y))))):=by
 have s:atL (.ref n) T=some (n,xs):=by unfold atL;dsimp only;rw[B]
 unfold YK;rw[ho];dsimp only[Res.lift];rw[hi];dsimp only;rw[s];dsimp only;rw[qX C,l];dsimp only;rw[A];dsimp only;rw[s];dsimp only;rw[qX (AG.mp l).1]
end
theorem W0(k:Int):∀(r h:ZLi),(r.foldl (hvP k) h).length=h.length
 | [],h=>rfl
 | p :: r,h=>by
  show(r.foldl (hvP k) (hvP k h p)).length=_;rw[W0 k r];exact Dw
theorem jn:∀(l:List (Int×ZLi)) (h:ZLi),(l.foldl hvS h).length=h.length
 | [],h=>rfl
 | x :: l,h=>by
  show(l.foldl hvS (hvS h x)).length=_;rw[jn l];exact W0 _ _ _
theorem i9:∀(l:List (Int×ZLi)) (h:List (ZLi×Int)),(l.foldl nuS h).length<=h.length+l.length
 | [],h=>AO _
 | x :: l,h=>by
  have m:=i9 l (nuS h x)
  have o:(nuS h x).length<=h.length+1:=by
   unfold nuS CK;split
   ·rw[AF];exact O0 _
   ·rw[Ak];exact AO _
  show(l.foldl nuS (nuS h x)).length<=_;rw[Aj]
  lia
theorem fW(ev:List l)(i:Nat):(Dm ev)[i]?=(ev[i]?).map λr=>((i:Int),r):=by
 unfold Dm;rw[Ac,JP]
 cases ev[i]? <;> simp
abbrev eF7(q wn:Nat)(g:Int)(kd:Str)(a b c:Option D):Lo:=[sR q,sR wn,sI g,some (.str kd),a,b,c]
abbrev nlA(W:Wd):MS:=YK (λa b=>Cw a b) (DY W.Field "having" (AD 0)) (AD 6) (m2 Rp (mC (.int 1)) (AD 4))
abbrev nlB(W:Wd):MS:=BP (DB (DY W.Field "numbers" (AD 0)) (AD 5) (AD 4)) (G0 (E1 (AD 5)) (tgN 6) (nlA W))
abbrev nlG:MG:=M3 2 (Ek (tgN 4) (Ek (tgN 5) NW))
abbrev eF8(q wn:Nat)(g:Int)(kd:Str)(i:Nat)(r:ZLi)(z:Option D):Lo:=eF7 q wn g kd (some (.int (i:Int))) (some (eT D.int r)) z
theorem Yb(W:Wd)(hF:Fc W S1 fs T)(fa:fs.lookup ("everything" : Str)=some (.ref a)) (fc:fs.lookup ("numbers" : Str)=some (.ref c)) (fh:fs.lookup ("having" : Str)=some (.ref h)) (ha:S1.length < a) (hac:a < c) (yx:c < h) (Ta:T[a]?=some (oL (eT D.int) ev)) (Tc:T[c]?=some (oDR D.int ([]:List (ZLi×Int)))) (Th:T[h]?=some (oL D.int (hv0 n))) (hev:ev.length<=1000) (hr:∀r∈ev,∀x∈r,0<=x/\x < (n:Int)) :
  ∃s e5 l B,G0 (Nv (DY W.Field "everything" (AD 0))) nlG (nlB W) (eF7 S1.length wn g kd none none none) T=.ok (.nx (eF7 S1.length wn g kd s e5 l)) B /\
   Fc W S1 fs B/\B[c]?=some (oDR D.int (nuF ev))/\B[h]?=some (oL D.int (hvF n ev))/\∀j,j≠c->j≠h->B[j]?=T[j]?:=by
 have hi:Nv (DY W.Field "everything" (AD 0)) (eF7 S1.length wn g kd none none none) T=.ok (RT (GB (.ref a))) T:=by
  unfold Nv;rw[Kz (C:=W.Field) (f:="everything") (m:=AD 0) (n:=S1.length) (by rfl) hF.at' fa];dsimp only[Res.bind];rw[Ea Ta]
 have E:(hv0 n).length=n:=by unfold hv0;rw[AF,Bx]
 obtain⟨f,B,J,L⟩:=N0 (v:=RT (GB (.ref a))) (g:=nlG) (b:=nlB W) (xs:=(Dm ev).map (eP D.int (eT D.int))) (e:=eF7 S1.length wn g kd none none none) (S:=T)
  (λi e S=>(∃s e5 l,e=eF7 S1.length wn g kd s e5 l)/\Fc W S1 fs S/\S[c]?=some (oDR D.int (((Dm ev).take i).foldl nuS []))/\S[h]?=some (oL D.int (((Dm ev).take i).foldl hvS (hv0 n)))/\∀j,j≠c->j≠h->S[j]?=T[j]?)
  (λf S=>∃s e5 l,f=.nx (eF7 S1.length wn g kd s e5 l)/\Fc W S1 fs S/\S[c]?=some (oDR D.int (nuF ev))/\S[h]?=some (oL D.int (hvF n ev))/\∀j,j≠c->j≠h->S[j]?=T[j]?)
  ⟨⟨_,_,_,rfl⟩,hF,Tc,Th,λ_ _ _=>rfl⟩
  (λi e S N=>by
   obtain⟨_,_,_,_,h5⟩:=N;unfold RT;rw[Ea (xs:=ev.map (eT D.int)) (show S[a]?=_ from(h5 a (by lia) (by lia)).trans Ta)]
   exact congrArg some (Vx ev))
  (λi d e S O N=>by
   obtain⟨⟨s,e5,l,rfl⟩,hS,P,Sh,So⟩:=N;rw[Ac]at O;obtain⟨⟨k,r⟩,hx,rfl⟩:=Hv.mp O;have zU:=hx;rw[fW]at zU;obtain⟨r0,Q,hr2⟩:=Hv.mp zU;cases hr2;have hrm:r∈ev:=Bt Q;have yW:i < ev.length:=(AG.mp Q).1
   have tk:(Dm ev).take (i+1)=(Dm ev).take i++[((i:Int),r)]:=by
    rw[Fv,hx];rfl
   refine⟨eF8 S1.length wn g kd i r l,S,rfl,?_⟩
   have R:DB (DY W.Field "numbers" (AD 0)) (AD 5) (AD 4) (eF8 S1.length wn g kd i r l) S=.ok (.nx (eF8 S1.length wn g kd i r l)) (S.set c (oDR D.int (CK (((Dm ev).take i).foldl nuS []) r (i:Int)))):=by
    unfold DB;rw[show AD 4 (eF8 S1.length wn g kd i r l) S=.ok (.int (i:Int)) S from rfl];dsimp only[Res.lift];rw[Kz (C:=W.Field) (f:="numbers") (m:=AD 0) (n:=S1.length) (by rfl) hS.at' fc];dsimp only;rw[show AD 5 (eF8 S1.length wn g kd i r l) S=.ok (eT D.int r) S from rfl];dsimp only
    rw[t9 (enc:=D.int) _ r (i:Int) S c P (by
     have:=i9 ((Dm ev).take i) [];rw[JF]at this;show(((Dm ev).take i).foldl nuS []).length < _;have h0:([]:List (ZLi×Int)).length=0:=rfl
     lia)]
   have U:Fc W S1 fs (S.set c (oDR D.int (CK (((Dm ev).take i).foldl nuS []) r (i:Int)))):=hS.set (by lia);have G:(S.set c (oDR D.int (CK (((Dm ev).take i).foldl nuS []) r (i:Int))))[h]?=some (oL D.int (((Dm ev).take i).foldl hvS (hv0 n))):=Fb Sh yx;have X:(S.set c (oDR D.int (CK (((Dm ev).take i).foldl nuS []) r (i:Int))))[c]?=some (oDR D.int (CK (((Dm ev).take i).foldl nuS []) r (i:Int))):=At (Bc P)
   have Y:∀j,j≠c->j≠h->(S.set c (oDR D.int (CK (((Dm ev).take i).foldl nuS []) r (i:Int))))[j]?=T[j]?:=λj J L=>by rw[Aa (CF J)];exact So j J L
   generalize S.set c (oDR D.int (CK (((Dm ev).take i).foldl nuS []) r (i:Int)))=S2 at R U G X Y;generalize hH:((Dm ev).take i).foldl hvS (hv0 n)=H at G
   have hHl:H.length=n:=by rw[<-hH,jn,E]
   obtain⟨f,S3,q1,q2⟩:=N0 (v:=GB (eT D.int r)) (g:=tgN 6) (b:=nlA W) (xs:=r.map D.int) (e:=eF8 S1.length wn g kd i r l) (S:=S2)
    (λj e S=>(∃z,e=eF8 S1.length wn g kd i r z)/\Fc W S1 fs S/\S[h]?=some (oL D.int ((r.take j).foldl (hvP (i:Int)) H))/\∀j,j≠h->S[j]?=S2[j]?)
    (λf S=>∃z,f=.nx (eF8 S1.length wn g kd i r z)/\Fc W S1 fs S/\S[h]?=some (oL D.int (r.foldl (hvP (i:Int)) H))/\∀j,j≠h->S[j]?=S2[j]?)
    ⟨⟨_,rfl⟩,U,G,λ_ _=>rfl⟩ (λ_ _ _ _=>rfl)
    (λj d e S O hJ=>by
     obtain⟨⟨z,rfl⟩,A,o,I⟩:=hJ;rw[Ac]at O;obtain⟨p,R,rfl⟩:=Hv.mp O;have hpr:=hr r hrm p (Bt R);refine⟨eF8 S1.length wn g kd i r (some (.int p)),S,rfl,?_⟩
     have hlp:p.toNat < ((r.take j).foldl (hvP (i:Int)) H).length:=by rw[W0,hHl];lia
     have hsh:m2 Rp (mC (.int 1)) (AD 4) (eF8 S1.length wn g kd i r (some (.int p))) S=.ok (.int (1 * 2 ^ (i:Int).toNat)) S:=by
      refine EN (x:=.int 1) (y:=.int (i:Int)) rfl rfl ?_;unfold Rp L2.intOp;dsimp only;rw[qX (show kz 1 (i:Int)from⟨by lia,by lia,by decide⟩)]
     have ha:=pO (g:=λa b=>Cw a b) (mo:=DY W.Field "having" (AD 0)) (mi:=AD 6) (p:=p) (z:=((r.take j).foldl (hvP (i:Int)) H).getD p.toNat 0) (Kz (C:=W.Field) (f:="having") (m:=AD 0) (n:=S1.length) (e:=eF8 S1.length wn g kd i r (some (.int p))) (by rfl) A.at' fh) (by rfl) hsh o hpr.1 (by
      rw[Ac,EM,Ap hlp]
      rfl)
     refine⟨_,_,ha,⟨_,rfl⟩,A.set (by lia),?_,λk hk=>by rw[Aa (CF hk)];exact I k hk⟩;rw[At (Bc o),Fv,R];show some (Ob.lst _)=some (Ob.lst _);rw[show(some p).toList=[p]from rfl,IC,List.foldl_cons,VQ];unfold hvP
     rw[List.map_set])
    (λe S hJ=>by
     obtain⟨⟨z,rfl⟩,A,o,I⟩:=hJ;rw[AF,Mz]at o
     exact⟨z,rfl,A,o,I⟩)
   obtain⟨z,rfl,hS4,Sh4,Z⟩:=q2;refine⟨_,S3,(CC R).trans (Ic (Ky (v:=GB (eT D.int r)) (S1:=S2) (by rfl)) q1),⟨_,_,_,rfl⟩,hS4,?_,?_,λj J L=>(Z j L).trans (Y j J L)⟩
   ·rw[Z c (by lia),X,tk,IC]
    rfl
   ·rw[Sh4,tk,IC,hH]
    rfl)
  (λe S N=>by
   obtain⟨⟨s,e5,l,rfl⟩,hS,P,Sh,So⟩:=N;rw[AF,Mz]at P Sh
   exact⟨s,e5,l,rfl,hS,P,Sh,So⟩)
 obtain⟨s,e5,l,rfl,h3⟩:=L;exact⟨s,e5,l,B,(Ky hi).trans J,h3⟩
abbrev y1(a:Nat):List (Str×D):=KO "everything" (.ref a) []
abbrev y2(a:Nat)(kd:Str):List (Str×D):=KO "kind" (.str kd) (y1 a)
abbrev y3(a:Nat)(kd:Str)(b:Nat):List (Str×D):=KO "takes" (.ref b) (y2 a kd)
abbrev y4(a:Nat)(kd:Str)(b c:Nat):List (Str×D):=KO "numbers" (.ref c) (y3 a kd b)
abbrev y5(a:Nat)(kd:Str)(b c h:Nat):List (Str×D):=KO "having" (.ref h) (y4 a kd b c)
abbrev y6(a:Nat)(kd:Str)(b c h k:Nat):List (Str×D):=KO "place_bits" (.ref k) (y5 a kd b c h)
abbrev y7(a:Nat)(kd:Str)(b c h k m:Nat):List (Str×D):=KO "known" (.ref m) (y6 a kd b c h k)
abbrev eF9(S1:Sto)(wn:Nat)(g:Int)(kd:Str):Lo:=eF7 S1.length wn g kd none none none
theorem kG(W:Wd)(E:MW w g kd=some f)(hw:S1[wn]?=some (D4 W w)) :
  ∃R,Ei W [.ref S1.length,.ref wn,.int g,.str kd] (S1++[.ins W.Field []])=.ok .non R/\Keeps S1 R/\∀L:Nat->Option Ob,(∀n o,S1.length<=n->R[n]?=some o->L n=some o)->FG W f L (.ref S1.length):=by
 unfold MW at E;obtain⟨B,hev,E⟩:=BA E;obtain⟨tk,htk,E⟩:=BA E;obtain⟨pb,hpb,E⟩:=BA E;split at E
 case isFalse=>cases E
 rename_i hg;obtain⟨hg1,hg2,hg3⟩:=hg;cases E;have F0:Fc W S1 [] (S1++[.ins W.Field []]):=⟨Keeps.app _ _,E2 _ _⟩
 have l0:(S1++[Ob.ins W.Field []]).length=S1.length+1:=by rw[Ak];rfl
 generalize S1++[Ob.ins W.Field []]=S at F0 l0;obtain⟨d,U1,c1,k1,a,rfl,ha,hA⟩:=X1 W w g B hev S [.ref wn,.int g] ⟨⟨wn,rfl,F0.kp.at hw⟩,rfl,trivial⟩;have m1:CM 2 (HF W) (AL (AD 1) (AL (AD 2) BJ)) (eF9 S1 wn g kd) S=.ok (.ref a) U1:=(Hr (ds:=[.ref wn,.int g]) (S1:=S) rfl rfl).trans c1;have s1:=F0.step (x:="everything") (e:=eF9 S1 wn g kd) rfl m1 k1 (by decide);have F1:=F0.put (x:="everything") (d:=.ref a) k1
 have I:S1.length < a:=by lia
 have A1:(U1.set S1.length (.ins W.Field (y1 a)))[a]?=some (oL (eT D.int) B):=Fb hA I;generalize U1.set S1.length (.ins W.Field (y1 a))=T1 at s1 F1 A1;have s2:=F1.step (x:="kind") (m:=AD 3) (e:=eF9 S1 wn g kd) (d:=.str kd) rfl rfl (Keeps.refl T1) (Ay (AO 1) (by decide));have F2:=F1.put (x:="kind") (d:=.str kd) (Keeps.refl T1);have A2:(T1.set S1.length (.ins W.Field (y2 a kd)))[a]?=some (oL (eT D.int) B):=Fb A1 I;generalize T1.set S1.length (.ins W.Field (y2 a kd))=T2 at s2 F2 A2;obtain⟨d,U3,c3,k3,b,rfl,hb,hB⟩:=Zz W w tk htk T2 [.ref wn] ⟨⟨wn,rfl,F2.kp.at hw⟩,trivial⟩;have ab:a < b:=AV (Bc A2) hb;have m3:CM 1 (Mf W) (AL (AD 1) BJ) (eF9 S1 wn g kd) T2=.ok (.ref b) U3:=(Hr (ds:=[.ref wn]) (S1:=T2) rfl rfl).trans c3;have s3:=F2.step (x:="takes") (e:=eF9 S1 wn g kd) rfl m3 k3 (Ay (AO 2) (by decide));have F3:=F2.put (x:="takes") (d:=.ref b) k3;have A3:(U3.set S1.length (.ins W.Field (y3 a kd b)))[a]?=some (oL (eT D.int) B):=Fb (k3.at A2) I;have B3:(U3.set S1.length (.ins W.Field (y3 a kd b)))[b]?=some (oL (eT D.int) tk):=Fb hB (by lia);generalize U3.set S1.length (.ins W.Field (y3 a kd b))=T3 at s3 F3 A3 B3;have bc:b < T3.length:=Bc B3;have m4:Qz (eF9 S1 wn g kd) T3=.ok (.ref T3.length) (T3++[oDR D.int ([]:List (ZLi×Int))]):=rfl;have T:=Keeps.app T3 [oDR D.int ([]:List (ZLi×Int))];have s4:=F3.step (x:="numbers") (e:=eF9 S1 wn g kd) rfl m4 T (Ay (AO 3) (by decide));have O:=F3.put (x:="numbers") (d:=.ref T3.length) T;have C3:(T3++[oDR D.int ([]:List (ZLi×Int))])[T3.length]?=some (oDR D.int ([]:List (ZLi×Int))):=E2 _ _;generalize hc:T3.length=c at bc s4 O C3;generalize T3++[oDR D.int ([]:List (ZLi×Int))]=U4 at T s4 O C3;have A4:=Fb (o':=.ins W.Field (y4 a kd b c)) (T.at A3) I;have B4:=Fb (o':=.ins W.Field (y4 a kd b c)) (T.at B3) (show S1.length < b by lia);have C4:=Fb (o':=.ins W.Field (y4 a kd b c)) C3 (show S1.length < c by lia);generalize U4.set S1.length (.ins W.Field (y4 a kd b c))=T4 at s4 O A4 B4 C4
 have v5:((((some w).bind λx2=>some (x2.1:Int)).bind PD).bind λl=>En l (λ_=>some true) (λ_=>some (0:Int)))=some (hv0 w.1):=by
  show((PD (w.1:Int)).bind λl=>En l (λ_=>some true) (λ_=>some (0:Int)))=_;rw[MH (by lia) (by lia)];show En (DN 0 (w.1:Int).toNat) _ _=_;rw[Az,FL (f:=λ_=>(0:Int)) (by rw[Bx];lia) λ_ _=>rfl];rfl
 obtain⟨d,U5,m5,U,h,rfl,hh,hH⟩:=(Cy (DR (VI.k (Ew (Ga (DK (A:=[.u,.z (D4 W w),.u,.u,.u,.u,.u]) (i:=1) rfl)))) (λ_=>Gb) (λ_=>Br (enc:=D.int) (v:=0) (d:=.int 0) rfl))) _ v5 T4 (eF9 S1 wn g kd) _ T4 (Vs.all λi x s=>by
  match i,s with
  | 0,s=>cases s;exact⟨_,rfl,trivial⟩
  | 1,s=>cases s;exact⟨_,rfl,wn,rfl,bJ (O.kp.at hw)⟩
  | 2,s=>cases s;exact⟨_,rfl,trivial⟩
  | 3,s=>cases s;exact⟨_,rfl,trivial⟩
  | 4,s=>cases s;exact⟨_,rfl,trivial⟩
  | 5,s=>cases s;exact⟨_,rfl,trivial⟩
  | 6,s=>cases s;exact⟨_,rfl,trivial⟩
  | n+7,s=>cases s)
 have s5:=O.step (x:="having") (e:=eF9 S1 wn g kd) rfl m5 U (Ay (AO 4) (by decide));have F5:=O.put (x:="having") (d:=.ref h) U;have ch:c < h:=AV (Bc C4) hh;have A5:=Fb (o':=.ins W.Field (y5 a kd b c h)) (U.at A4) I;have B5:=Fb (o':=.ins W.Field (y5 a kd b c h)) (U.at B4) (show S1.length < b by lia);have C5:=Fb (o':=.ins W.Field (y5 a kd b c h)) (U.at C4) (show S1.length < c by lia);have H5:=Fb (o':=.ins W.Field (y5 a kd b c h)) hH (show S1.length < h by lia);generalize U5.set S1.length (.ins W.Field (y5 a kd b c h))=T5 at s5 F5 A5 B5 C5 H5;obtain⟨X,e5,Y,T6,s6,F6,C6,H6,O6⟩:=Yb W (wn:=wn) (g:=g) (kd:=kd) (n:=w.1) F5 rfl rfl rfl I (by lia) ch A5 C5 H5 hg1 hg3;have A6:=(O6 a (by lia) (by lia)).trans A5;have B6:=(O6 b (by lia) (by lia)).trans B5;have v7:((some B).bind λl=>En l (λ_=>some true) (λx=>((some x).bind λx=>(some ()).bind λy=>some (x,y)).bind λz=>HC z.1))=some pb:=hpb
 obtain⟨d,U7,m7,P,k,rfl,hk,hK⟩:=(Cy (DR (VI.k (qd (A:=[.q (λL d=>∃q fs n,d=.ref q/\L q=some (.ins W.Field fs)/\fs.lookup ("everything" : Str)=some (.ref n)/\L n=some (oL (eT D.int) B)),.u,.u,.u,.u,.u,.u]) (i:=0) (l:=B) (enc:=eT D.int) (C:=W.Field) (x:="everything") (λL d h=>h) rfl)) (λ_=>Gb) (λx=>CJ (C2 (AM (i:=0) rfl) CP) (λz=>di W z.1) (λ_=>rfl) FH))) _ v7 T6 (eF7 S1.length wn g kd X e5 Y) _ T6 (Vs.all λi x s=>by
  match i,s with
  | 0,s=>cases s;exact⟨_,rfl,.ref S1.length,rfl,λL N=>⟨S1.length,_,a,rfl,N _ _ (bJ F6.at'),rfl,N _ _ (bJ A6)⟩⟩
  | 1,s=>cases s;exact⟨_,rfl,trivial⟩
  | 2,s=>cases s;exact⟨_,rfl,trivial⟩
  | 3,s=>cases s;exact⟨_,rfl,trivial⟩
  | 4,s=>cases s;exact⟨_,rfl,trivial⟩
  | 5,s=>cases s;exact⟨_,rfl,trivial⟩
  | 6,s=>cases s;exact⟨_,rfl,trivial⟩
  | n+7,s=>cases s)
 have s7:=F6.step (x:="place_bits") (e:=eF7 S1.length wn g kd X e5 Y) rfl m7 P (Ay (AO 5) (by decide));have F7:=F6.put (x:="place_bits") (d:=.ref k) P;have yw:h < k:=AV (Bc H6) hk
 have cell:∀{j:Nat} {o:Ob},U7[j]?=some o->S1.length < j->(U7.set S1.length (.ins W.Field (y6 a kd b c h k)))[j]?=some o:=λH Z=>Fb H Z
 have A7:=cell (P.at A6) I;have B7:=cell (P.at B6) (by lia);have C7:=cell (P.at C6) (by lia);have H7:=cell (P.at H6) (by lia);have K7:=cell hK (by lia);generalize U7.set S1.length (.ins W.Field (y6 a kd b c h k))=G at s7 F7 A7 B7 C7 H7 K7
 clear cell
 have m8:Jy (eF7 S1.length wn g kd X e5 Y) G=.ok (.ref G.length) (G++[.dK []]):=rfl;have J:=Keeps.app G [Ob.dK []];have s8:=F7.step (x:="known") (e:=eF7 S1.length wn g kd X e5 Y) rfl m8 J (Ay (AO 6) (by decide));have F8:=F7.put (x:="known") (d:=.ref G.length) J;have M7:(G++[Ob.dK []])[G.length]?=some (.dK []):=E2 _ _;have km:k < G.length:=Bc K7;generalize G.length=m at s8 F8 M7 km;generalize G++[Ob.dK []]=U8 at J s8 F8 M7
 have cell:∀{j:Nat} {o:Ob},U8[j]?=some o->S1.length < j->(U8.set S1.length (.ins W.Field (y7 a kd b c h k m)))[j]?=some o:=λH Z=>Fb H Z
 have A8:=cell (J.at A7) I;have B8:=cell (J.at B7) (by lia);have C8:=cell (J.at C7) (by lia);have H8:=cell (J.at H7) (by lia);have K8:=cell (J.at K7) (by lia);have M8:=cell M7 (by lia);generalize U8.set S1.length (.ins W.Field (y7 a kd b c h k m))=T8 at s8 F8 A8 B8 C8 H8 K8 M8
 clear cell
 have Q8:T8[S1.length]?=some (.ins W.Field (fdF a b c h k m kd)):=F8.at'
 have run:Ir W [.ref S1.length,.ref wn,.int g,.str kd] S=.ok .non T8:=by
  refine L2.aJ (e:=eF7 S1.length wn g kd X e5 Y) ?_;unfold Mr;show(BP _ _) (eF9 S1 wn g kd) S=_;rw[CC s1,CC s2,CC s3,CC s4,CC s5,CC s6,CC s7];exact s8
 have C:ZC W ⟨B,kd,tk,nuF B,hvF w.1 B,pb⟩ (λk=>T8[k]?) S1.length m:=⟨a,b,c,h,k,Q8,A8,B8,C8,H8,K8⟩
 have lkOk:∀n z:Int,0<=n->n < 1000->MV ⟨B,kd,tk,nuF B,hvF w.1 B,pb⟩ n=some z->LM W [.ref S1.length,.ref wn,.int g,.str kd] T8 (.inl n)=z:=λn z _ _ Q=>by
  have hQ:Kj T8 [.q (IZ W ⟨B,kd,tk,nuF B,hvF w.1 B,pb⟩),.v (D.int n)] [.ref S1.length,.int n]:=⟨λL N=>⟨_,m,rfl,C.mono N⟩,rfl,trivial⟩;unfold LM;dsimp only;rw[show tt "kind" S1.length T8=some kd by unfold tt;rw[Q8];rfl];unfold MV at Q;dsimp only at Q
  by_cases ck:kd = "one"
  ·rw[wX ck,qX rfl]at Q
   obtain⟨d,R,H,_,rfl⟩:=IF W _ n z Q T8 _ hQ;rw[qX (congrArg some ck),H];rfl
  ·rw[wY ck,qY AH]at Q
   obtain⟨d,R,H,_,rfl⟩:=IG W _ n z Q T8 _ hQ;rw[qY (λe=>ck (B2 e)),H];rfl
 refine⟨T8.set m (.mem (LM W [.ref S1.length,.ref wn,.int g,.str kd] T8)),?_,F8.kp.set (by lia) _,λL N=>⟨S1.length,m,_,rfl,?_,N m _ (by lia) (At (Bc M8)),lkOk⟩⟩
 ·unfold Ei Yi
  rw[run];dsimp only
  rw[show Vl "known" [.ref S1.length,.ref wn,.int g,.str kd] T8=some m by
   unfold Vl;dsimp only;rw[Q8]
   rfl]
  dsimp only;rw[M8]
 ·have up:∀{j:Nat} {o:Ob},T8[j]?=some o->S1.length<=j->j < m->L j=some o:=λH Z h3=>N _ _ Z (by rw[Aa (Eo h3)];exact H)
  exact⟨a,b,c,h,k,up Q8 (AO _) (by lia),up A8 (by lia) (by lia),up B8 (by lia) (by lia),up C8 (by lia) (by lia),up H8 (by lia) (by lia),up K8 (by lia) (by omega)⟩
theorem Xy{W:Wd}{A:List Sl}{ml:ML}{p:Option ((Nat×List ZPi)×Int×Str×Unit)}(m:VA A ml p (λz=>[.z (D4 W z.1),.v (D.int z.2.1),.v (D.str z.2.2.1)])):VE A (No W.Field 4 (Ei W) ml) (rQ (FG W)) (p.bind λz=>MW z.1 z.2.1 z.2.2.1):=λf s B e F S C=>by
 obtain⟨z,E,G⟩:=BA s;obtain⟨H,Z,I,l,J⟩:=m z E B e F S C
 match H,J with
 | [d1,d2,d3],⟨⟨wn,N,hw⟩,O,P,_⟩=>
  cases N;cases O;cases P;obtain⟨Q,R,T,U⟩:=kG W G hw;exact⟨_,Q,cO I rfl R,l.trans T,λL X=>U L λn o Y=>X n o (Aw l.1 Y)⟩
def HY(l:Fp)(m:Int)(o:Int):Option (Fw Int Unit):=
 ((GK l (m,()).1).bind λs=>(atI l.hv o).bind λA=>some (Bi s A)).bind λB=>some (.rt B)
def EA(l:Fp)(m:Int)(o:Int):Option Int:=Gg (HY l m o)
theorem S8(W:Wd)(l:Fp)(m:Int)(o:Int):VF (KA W) [.q (FG W l),.v (D.int m),.v (D.int o)] (rV D.int) (EA l m o):=by
 refine Ex (n:=3) (b:=KG W) (p:=HY l m o) (B:=λ_=>[]) ?_;show VS [.q (FG W l),.v (D.int m),.v (D.int o)] _ _ _ _;unfold KG HY;exact(E8 (SE (Po (Pf:=FG W) (Pg:=FG W) (kC λ_ _ _ _ _ _ _=>rfl) (λ_ _ h=>h) rfl (C2 (AM rfl) CP) (λs=>S7 W l s.1) (λ_=>rfl) FH) (IM (G6 fM rfl) (AM rfl))))
def Ii(H:Fp)(I:Int):Option (Fw (List ZPi) Unit):=
 BO (some (.nx [])) λO=>BO ((LW I).bind λl=>Fh l O λ(J:(List ZPi)) m=>BO (((G2 H (m,()).1).bind λo=>En o (λs=>(((some (m,(s,()))).bind λL=>EA H L.1 L.2.1).bind λP=>some (Bi P I)).bind λQ=>some (decide (Q=(0:Int)))) (λs=>some s)).bind λA=>some (.nx A)) λN=>EB (λB=>B) (if (!N.isEmpty)=true then EB (λC=>C) ((atI N (0:Int)).bind λR=>(JK J m R).bind λE=>some (.nx E))else some (.nx J))) λG=>some (.rt G)
def El(l:Fp)(m:Int):Option (List ZPi):=Gg (Ii l m)
theorem Oj(W:Wd)(l:Fp)(m:Int):VF (Iq W) [.q (FG W l),.v (D.int m)] (rN (oDK D.int)) (El l m):=by
 refine Ex (n:=5) (b:=LB W) (p:=Ii l m) (B:=λ_=>[]) ?_;show VS [.q (FG W l),.v (D.int m),.u,.u,.u] _ _ _ _;unfold LB Ii;exact(BG (JW Xw) (λE=>(BG (F9 (s0:=E) (B:=(λ(o:(List ZPi))=>[.q (FG W l),.v (D.int m),.w 2 ((oDK D.int) o),.u,.u])) (Sr (CJ (C2 (AM rfl) CP) (λG=>Vb W G.1) (λ_=>rfl) JR)) Er (.refl _) (λP H=>(BG (Ie (Cy (DR (VI.k (Sr (Po (Pf:=FG W) (Pg:=IZ W) (kC λ_ _ _ _ _ _ _=>rfl) FG.q rfl (C2 (AM rfl) CP) (λs=>Ut W l s.1) (λ_=>rfl) JR))) (λI=>(Ff (IE Co IR (SE (Po (Pf:=FG W) (Pg:=FG W) (kC λ_ _ _ _ _ _ _=>rfl) (λ_ _ h=>h) rfl (C2 (AM rfl) (C2 (AM rfl) CP)) (λC=>S8 W l C.1 C.2.1) (λ_=>rfl) FH) (AM rfl)) (Br rfl)))) (λI=>(AM rfl))))) (λJ=>(DJ (Gk (B:=(λ(A:(List ZPi))=>[.q (FG W l),.v (D.int m),.w 2 ((oDK D.int) A),.v (D.int H),.y ((oL D.int) J)])) (mP (Dk rfl)) (DJ (Xq rfl (AM rfl) (IM (Dk rfl) (Br rfl)) rfl) (λL=>(.refl _))) (HM (.refl _))) (λN=>(.same (.same (.same (.drop (.drop .nil))))))))))) (λO=>(SD rfl)))))
def P4(m:Fp):Option (Fw (List (Int×ZPi)) Unit):=
 BO (some (.nx [])) λL=>BO (((Ql (1:Int) (m.ev.length:Int)).bind λN=>some (N - (1:Int))).bind λO=>some (.nx O)) λI=>BO (some (.nx (1:Int))) λo=>BO ((El m I).bind λs=>some (.nx s)) λA=>BO (whF (λ(l:(List (Int×ZPi))×Int×Int×(List ZPi))=>some (!l.2.2.2.isEmpty)) (λ(l:(List (Int×ZPi))×Int×Int×(List ZPi))=>BO (Fh (l.2.2.2.map (·.1)) (l.1,l.2.1) λ(J:(List (Int×ZPi))×Int) B=>BO (((An l.2.2.2 B).bind λP=>some (l.2.2.1,P)).bind λQ=>(JK J.1 B Q).bind λR=>some (.nx R)) λS=>EB (λT=>(S,T)) ((Ql (1:Int) B).bind λU=>some (.nx (Et J.2 U)))) λC=>BO (some (.nx (l.2.2.1+(1:Int)))) λE=>EB (λX=>(C.1,C.2,E,X)) ((El m C.2).bind λG=>some (.nx G))) wN (L,I,o,A)) λH=>some (.rt H.1)
def Ni(l:Fp):Option (List (Int×ZPi)):=Gg (P4 l)
theorem X3(W:Wd)(l:Fp):VF (QK W) [.q (FG W l)] (rN (oDK (eP D.int D.int))) (Ni l):=by
 refine Ex (n:=6) (b:=UU W) (p:=P4 l) (B:=λ_=>[]) ?_;show VS [.q (FG W l),.u,.u,.u,.u,.u] _ _ _ _;unfold UU P4;exact(BG (JW Xw) (λH=>(BG (DX (Jj (Qe (Br rfl) (Pp (G6 Ip rfl))) (Br rfl))) (λI=>(BG (DX (Br rfl)) (λE=>(BG (JW (CJ (iA (Pf:=FG W) (Pg:=FG W) (λ_ _ h=>h) rfl (C2 (AM rfl) CP)) (λm=>Oj W m.1 m.2.1) (λ_=>rfl) JR)) (λG=>(BG (Xo (s0:=(H,I,E,G)) (B:=(λ(C:(List (Int×ZPi))×Int×Int×(List ZPi))=>[.q (FG W l),.w 1 ((oDK (eP D.int D.int)) C.1),.v (D.int C.2.1),.v (D.int C.2.2.1),.w 4 ((oDK D.int) C.2.2.2),.u])) (.refl _) (λo=>(hX (OJ rfl))) (λo=>(BG (uv 4 rfl rfl (F9 (s0:=(o.1,o.2.1)) (B:=(λ(s:(List (Int×ZPi))×Int)=>[.q (FG W l),.w 1 ((oDK (eP D.int D.int)) s.1),.v (D.int s.2),.v (D.int o.2.2.1),.y ((oFK D.int) o.2.2.2),.u])) (qc rfl) Er (.refl _) (λN O=>(BG (Xq rfl (AM rfl) (Lw (AM rfl) (de (Dk rfl) (AM rfl))) rfl) (λP=>(DJ (Qb rfl (Qe (Br rfl) (AM rfl))) (λQ=>(.same (.same (.same (.same (.same (.drop .nil))))))))))))) (λR=>(BG (Qb rfl (Br rfl)) (λJ=>(DJ (JW (CJ (iA (Pf:=FG W) (Pg:=FG W) (λ_ _ h=>h) rfl (C2 (AM rfl) CP)) (λA=>Oj W A.1 A.2.1) (λ_=>rfl) JR)) (λS=>(.refl _))))))))) (λL=>(SD rfl)))))))))))
def HV(m:Fp)(o:(List (Int×ZPi))):Option (Fw Int Unit):=
 ((((some (m.ev.length:Int)).bind PD).bind λs=>En s (λl=>some (!(An o l).isSome)) (λl=>Ql (1:Int) l)).bind λA=>some (WV A)).bind λB=>some (.rt B)
def Ha(l:Fp)(m:(List (Int×ZPi))):Option Int:=Gg (HV l m)
theorem Sy(W:Wd)(l:Fp)(m:(List (Int×ZPi))):VF (J9 W) [.q (FG W l),.z ((oDK (eP D.int D.int)) m)] (rV D.int) (Ha l m):=by
 refine Ex (n:=2) (b:=KC W) (p:=HV l m) (B:=λ_=>[]) ?_;show VS [.q (FG W l),.z ((oDK (eP D.int D.int)) m)] _ _ _ _;unfold KC HV;exact(E8 (qi (HN (Cy (DR (VI.k (Ew (Pp (G6 Ip rfl)))) (λo=>(Ff (Xv (AM rfl) (DK rfl)))) (λo=>(Qe (Br rfl) (AM rfl))))))))
def OO(G:(Nat×List ZPi))(H:Int)(I:Str):Option (Fw (List ZLi) Unit):=
 BO (((some (G,(H,(I,())))).bind λm=>MW m.1 m.2.1 m.2.2.1).bind λJ=>some (.nx J)) λo=>(((((((Ni o).bind λL=>some (L,())).bind λN=>some (o,N)).bind λl=>Ha l.1 l.2.1).bind λs=>some (s,())).bind λA=>LW A.1).bind λB=>En B (λE=>some true) (λE=>atI o.ev E)).bind λC=>some (.rt C)
def LX(l:(Nat×List ZPi))(m:Int)(o:Str):Option (List ZLi):=Gg (OO l m o)
theorem dh(W:Wd)(m:(Nat×List ZPi))(o:Int)(s:Str):VF (HG W) [.z ((D4 W) m),.v (D.int o),.v (D.str s)] (rN (oL (eT D.int))) (LX m o s):=by
 refine Ex (n:=4) (b:=OW W) (p:=OO m o s) (B:=λ_=>[]) ?_;show VS [.z ((D4 W) m),.v (D.int o),.v (D.str s),.u] _ _ _ _;unfold OW OO;exact(BG (bi (Xy (Pt (DK rfl) (C2 (AM rfl) (C2 (AM rfl) CP))))) (λG=>(GZ (Cy (DR (VI.k (Sr (CJ (C2 (CJ (iA (Pf:=FG W) (Pg:=FG W) (λ_ _ h=>h) rfl (Pt (HN (CJ (iA (Pf:=FG W) (Pg:=FG W) (λ_ _ h=>h) rfl CP) (λA=>X3 W A.1) (λ_=>rfl) JR)) CP)) (λl=>Sy W l.1 l.2.1) (λ_=>rfl) FH) CP) (λC=>Vb W C.1) (λ_=>rfl) JR))) (λE=>Gb) (λE=>(IM (G6 Ip rfl) (AM rfl))))))))
def SH(A:(Nat×List ZPi))(B:Int)(C:Str):Option (Fw (List (ZLi×Int×Int)) Unit):=
 BO (((some (A,(B,(C,())))).bind λm=>MW m.1 m.2.1 m.2.2.1).bind λE=>some (.nx E)) λs=>BO ((Ni s).bind λG=>some (.nx G)) λl=>(En (D3 (l.map (·.1))) (λo=>some true) (λo=>(atI s.ev o).bind λH=>(An l o).bind λI=>some (H,I))).bind λJ=>some (.rt J)
def SI(l:(Nat×List ZPi))(m:Int)(o:Str):Option (List (ZLi×Int×Int)):=Gg (SH l m o)
theorem mU(W:Wd)(l:(Nat×List ZPi))(m:Int)(o:Str):VF (Kh W) [.z ((D4 W) l),.v (D.int m),.v (D.str o)] (rN (oL (eP3 (eT D.int) D.int D.int))) (SI l m o):=by
 refine Ex (n:=5) (b:=SV W) (p:=SH l m o) (B:=λ_=>[]) ?_;show VS [.z ((D4 W) l),.v (D.int m),.v (D.str o),.u,.u] _ _ _ _;unfold SV SH;exact(BG (bi (Xy (Pt (DK rfl) (C2 (AM rfl) (C2 (AM rfl) CP))))) (λE=>(BG (Ie (CJ (iA (Pf:=FG W) (Pg:=FG W) (λ_ _ h=>h) rfl CP) (λs=>X3 W s.1) (λ_=>rfl) JR)) (λA=>(GZ (Cy (DR (VI.k (Sr (dc (Dk rfl)))) (λC=>Gb) (λC=>(hW (IM (G6 Ip rfl) (AM rfl)) (hV (Dk rfl) (AM rfl)))))))))))
def cnt(p:Int):Nat->Int
 | 0=>1
 | i+1=>cnt p i * (p - i) / (i+1)
theorem kf(p:Nat):∀i:Nat,cnt p i=ch p i
 | 0=>by rw[SU];rfl
 | i+1=>by
  show cnt p i * (p - i) / (i+1)=_;rw[kf p i];have:=XO p i;rw[um,<-this,um];exact Int.mul_ediv_cancel _ (by omega)
def Ez(s:ZLi):Int:=match s.getLast? with
 | some x=>x+1
 | none=>0
def ext(w:Nat)(k:Nat)(s:ZLi):List ZLi:=(B1 (w+k+1 - Ez s:Int).toNat).map λ(j:Nat)=>s++[Ez s+j]
def TT(w:Nat):Nat->List ZLi
 | 0=>[[]]
 | k+1=>(TT w k).flatMap (ext w k)
theorem IS(s:ZLi)(x:Int):Ez (s++[x])=x+1:=by simp[Ez]
theorem ZB(w:Nat):∀k:Nat,∀s∈TT w k,0<=Ez s/\Ez s<=w+k/\s.length=k
 | 0,s,h=>by
  have:s=[]:=by simpa[TT]using h
  subst this;simp[Ez]
 | k+1,s,h=>by
  simp only[TT,R8]at h;obtain⟨t,m,l⟩:=h;obtain⟨A,B,o⟩:=ZB w k t m;simp only[ext,BV,KR]at l;obtain⟨j,C,rfl⟩:=l;rw[IS];simp[o];omega
def KZ(w k:Nat)(s:ZLi):Nat:=(w+k - Ez s:Int).toNat
theorem RV{m o:Type}(f:o->Nat)(g:m->List o):∀l:List m,((l.flatMap g).map f).sum=(l.map λa=>((g a).map f).sum).sum
 | []=>rfl
 | a :: l=>by rw[RL,Bv,NS,RV f g l,As,Lm]
theorem cC(f:Nat->Nat):∀n:Nat,((B1 n).map λj=>f (n - 1 - j)).sum=((B1 n).map f).sum
 | 0=>rfl
 | n+1=>by
  rw[NG,As,Lm,BF,<-NG,HJ,Bv,NS,<-cC f n];simp
  have:(FX ((λj=>f (n - j))∘Nat.succ) (B1 n))=(FX (λj=>f (n - 1 - j)) (B1 n)):=by
   apply Ct
   intro a _;simp
   congr 1
   omega
  rw[this];omega
theorem kx(w g:Nat):∀k:Nat,k<=g->((TT w k).map λs=>ch (KZ w k s+(g - k)) (g - k)).sum=ch (w+g) g
 | 0,_=>by simp[TT,KZ,Ez]
 | k+1,h=>by
  rw[<-kx w g k (by omega)];show(((TT w k).flatMap (ext w k)).map _).sum=_;rw[RV]
  congr 1
  apply Ct
  intro s m;obtain⟨A,B,_⟩:=ZB w k s m
  have e:(w+k+1 - Ez s:Int).toNat=KZ w k s+1:=by unfold KZ;omega
  unfold ext;rw[e,BF]
  have o:(FX ((λs=>ch (KZ w (k+1) s+(g - (k+1))) (g - (k+1)))∘λ(j:Nat)=>s++[Ez s+j]) (B1 (KZ w k s+1)))=FX (λj=>(λi=>ch (i+(g - (k+1))) (g - (k+1))) (KZ w k s+1 - 1 - j)) (B1 (KZ w k s+1)):=by
   apply Ct
   intro j l
   have l:j < KZ w k s+1:=by simpa using l
   simp only[Zm]
   have:KZ w (k+1) (s++[Ez s+(j:Int)])=KZ w k s+1 - 1 - j:=by
    unfold KZ at l ⊢;rw[IS];omega
   rw[this]
  rw[o,cC (λi=>ch (i+(g - (k+1))) (g - (k+1))),jp]
  congr 1 <;> omega
theorem bL(w g k:Nat)(h:k<=g):(TT w k).length<=ch (w+g) g:=by
 rw[<-kx w g k h]
 have:∀l:List ZLi,l.length<=(l.map λs=>ch (KZ w k s+(g - k)) (g - k)).sum:=by
  intro l
  induction l with
  | nil=>simp
  | cons s l m=>
   rw[As,Lm,Aj];have:=kh (n:=KZ w k s+(g - k)) (k:=g - k) (by omega);omega
 exact this _
theorem Y9{m:Type}{l:List m}{x:m}:atI (l++[x]) (-1)=some x:=by
 unfold atI ixN;simp;rw[qX (by omega),show(-1+((l.length:Int)+1)).toNat=l.length by omega];simp
theorem oI{x y:Int}(h:-1000000<=y)(l:y<=1000000):jJ x y=some (x * y):=qX (vl h l)
theorem kH{x y:Int}(h:0 < y)(l:y<=1000000):Yx x y=some (x / y):=qX ⟨h,by lia⟩
theorem gk{o g:Nat}(ho:o<=60)(A:g<=60):Ey o g=some (ch o g:Int):=by
 rw[<-kf];refine Ok.is ?_;unfold Ey Ge;simp only[AC,BY];rw[MH (by lia) (by lia),Az];simp only[AC];refine OkF.out (OkF.seq (OkF.for (λl (s:Int)=>s=cnt o l.length) rfl ?_) ?_)
 ·rintro l x s B m rfl
  obtain⟨rfl,C⟩:=P2 m;rw[oI (by lia) (by lia)];simp only[AC];rw[kH (by lia) (by lia)];refine .nx ?_;rw[Ak,BU];show _=cnt o l.length * (o - l.length) / (l.length+1);rw[ul]
 ·rintro s rfl
  rw[Bx];exact .rt rfl
theorem fb{o g:Nat}(ho:o<=60)(l:g<=60):Ja o g=some (ch o g:Int):=gk ho l
theorem PR(w k:Nat)(s:ZLi):ext w k s=(DN (Ez s) (w+k+1 - Ez s:Int).toNat).map λx=>s++[x]:=by
 unfold ext DN;rw[BF];rfl
theorem rJ{w g:Nat}(E:w+g<=60)(G:ch (w+g) g<=400):LV ((w+g:Nat):Int) (g:Int)=some (TT w g):=by
 refine Ok.is ?_;unfold LV OM;simp only[AC,pC,tw,BY];rw[MH (by lia) (by lia),Az];simp only[AC];refine OkF.out (OkF.seq (OkF.for (λl (s:List ZLi)=>s=TT w l.length) rfl ?_) ?_)
 ·rintro l x s X H rfl
  obtain⟨rfl,Y⟩:=P2 H;have hb:=ZB w l.length;have B:(TT w (l.length+1)).length<=400:=Aw (bL w g (l.length+1) (by lia)) G;refine OkF.seq (OkF.for (λA (s:List ZLi)=>s=A.flatMap (ext w l.length)) rfl ?_) ?_
  ·rintro A t s I J rfl
   obtain⟨Z,b2,L⟩:=hb t I
   have O:(if (!t.isEmpty)=true then(atI t (-(1:Int))).bind λP=>some (P+(1:Int))else some (0:Int))=some (Ez t):=by
    rcases Fm t with rfl | ⟨Q,y,rfl⟩
    ·rfl
    ·rw[Fn,show(!(Q++[y]).isEmpty)=true by simp,qX rfl,show(-(1:Int)) = -1 from rfl,Y9,IS]
     rfl
   rw[O];simp only[AC,BY];rw[Wi (by lia) (by lia) (by lia) (by lia)];simp only[AC]
   have m:(A.flatMap (ext w l.length)).length+(ext w l.length t).length<=400:=by
    obtain⟨r,S⟩:=J;refine Aw ?_ B;show _<=((TT w l.length).flatMap (ext w l.length)).length;rw[<-S];simp
   have T:(((w+g:Nat):Int) - g+(0+(l.length:Int))+1 - Ez t).toNat=(w+l.length+1 - Ez t:Int).toNat:=by congr 1;lia
   rw[T];rw[PR,AF]at m;refine OkF.map (N:=λs=>s=A.flatMap (ext w l.length)++ext w l.length t) (OkF.imp (R:=λ_=>False) (OkF.for (λo (s:List ZLi)=>s=A.flatMap (ext w l.length)++o.map λx=>t++[x]) (by simp) ?_) (λs h=>by rw[h,PR]) λ_ h=>h.elim) ?_
   ·rintro o y s hy C rfl
    obtain⟨rfl,U⟩:=P2 C;rw[Bx]at m;rw[QM (by rw[L];simp;lia)];simp only[AC];rw[dI (by rw[Ak,AF];lia)];refine .nx ?_;simp
   ·rintro s rfl
    simp
  ·rintro s rfl
   refine .nx ?_;rw[Ak,BU];rfl
 ·rintro s rfl
  rw[Bx];exact .rt rfl
def Stg(o g:Nat)(r:ZLi):Prop:=r.length=g/\(∀x∈r,0<=x/\x < (o:Int))/\r.Pairwise (· < ·)
theorem jW{s:ZLi}(h:s.Pairwise (· < ·))(l:∀x∈s,0<=x):0<=Ez s/\∀y∈s,y < Ez s:=by
 rcases Fm s with rfl | ⟨t,y,rfl⟩
 ·exact⟨dX _,λ_ h=>nomatch h⟩
 ·rw[Fn]at h l ⊢
  rw[IS];have:=l y (by simp);refine⟨by lia,λz m=>?_⟩
  rcases Av.mp m with q | q
  ·have:=(BK.mp h).2.2 z q y (by simp);lia
  ·rw[AU.mp q];lia
theorem bK(w:Nat):∀(k:Nat) (s:ZLi),s∈TT w k↔Stg (w+k) k s
 | 0,s=>by
  show s∈[[]]↔_;rw[AU];exact⟨λe=>by subst e;exact⟨rfl,λ_ h=>(nomatch h),.nil⟩,λh=>Sd h.1⟩
 | k+1,s=>by
  show s∈(TT w k).flatMap (ext w k)↔_;rw[R8]
  constructor
  ·rintro⟨t,A,B⟩
   obtain⟨l,q,p⟩:=(bK w k t).mp A;rw[PR]at B;obtain⟨x,o,rfl⟩:=BV.mp B;rw[Ch]at o
   obtain⟨I,E⟩:=jW p λx o=>(q x o).1
   refine⟨by rw[Ak,l];rfl,λy m=>?_,BK.mpr ⟨p,HK _ _,λy m z G=>?_⟩⟩
   ·rcases Av.mp m with c | c
    ·have:=q y c;lia
    ·rw[AU.mp c];lia
   ·rw[AU.mp G]
    have:=E y m
    lia
  ·rintro⟨l,q,p⟩
   rcases Fm s with rfl | ⟨t,x,rfl⟩
   ·cases l
   ·rw[Fn]at l q p ⊢
    obtain⟨H,-,C⟩:=BK.mp p;have o:=q x (by simp);rw[Ak,BU]at l
    have A:Stg (w+k) k t:=⟨by lia,λy m=>by
     have a:=q y (BL _ m);have b:=C y m x (by simp)
     lia,H⟩
    refine⟨t,(bK w k t).mpr A,?_⟩;rw[PR];refine BV.mpr ⟨x,Ch.mpr ?_,rfl⟩
    have:Ez t<=x:=by
     rcases Fm t with rfl | ⟨J,z,rfl⟩
     ·exact o.1
     ·rw[Fn,IS]
      have:=C z (by simp) x (by simp)
      lia
    lia
theorem qK(w:Nat):∀k:Nat,(TT w k).Nodup
 | 0=>by show([[]]:List ZLi).Nodup;simp
 | k+1=>by
  refine Zl.mpr ⟨λs _=>?_,(qK w k).imp λ{a b} o x l y m e=>?_⟩
  ·rw[PR,Bl]
   exact(MF _ _).imp λ{a b} h e=>by
    have:=List.append_cancel_left e;simp at this
    lia
  ·rw[PR]at l m
   obtain⟨u,-,rfl⟩:=BV.mp l;obtain⟨v,-,rfl⟩:=BV.mp m;exact o (List.append_inj_left' e rfl)
end M
namespace L4
theorem Zp{ρ σ:Type}{c:σ->Option Bool}{q:σ->Option (Fw ρ σ)}(I:σ->Prop)(l:σ->Nat)(h:∀s,I s->c s=some false∨(c s=some true/\∃s',q s=some (.nx s')/\I s'/\l s' < l s)) :
  ∀(n:Nat) (s:σ),I s->l s < n->∃s',whF c q n s=some (.nx s')/\I s'/\c s'=some false
 | 0,s,_,o=>zX o (OF _)
 | n+1,s,A,o=>by
  unfold whF
  rcases h s A with m | ⟨m,s',B,C,E⟩
  ·rw[m]
   exact⟨s,rfl,A,m⟩
  ·rw[m]
   simp only[AC,if_true];rw[B];exact Zp I l h n s' C (by lia)
end L4
namespace M
open L2 L4
theorem QP(a b:Nat):Bi (a:Int) (b:Int)=((a &&& b:Nat):Int):=by
 unfold Bi;rw[wX (Kn a),wX (Kn b)];rfl
theorem Td(a b:Nat):Cw (a:Int) (b:Int)=((a ||| b:Nat):Int):=by
 unfold Cw Bi gf;rw[wY (show ¬0<=-(a:Int) - 1 by lia),wY (show ¬0<=-(b:Int) - 1 by lia)];show -(-((((-(-(a:Int) - 1) - 1).toNat ||| (-(-(b:Int) - 1) - 1).toNat:Nat):Nat):Int) - 1) - 1=_;rw[show(-(-(a:Int) - 1) - 1).toNat=a by lia,show(-(-(b:Int) - 1) - 1).toNat=b by lia]
 lia
theorem i4:∀a b:Nat,(a ||| b)=(a ^^^ b)+(a &&& b):=by
 intro a
 induction a using pq with
 | ind a o=>
  intro b
  by_cases h:a=0
  ·subst h
   simp
  ·have e:=o (a / 2) (by lia) (b / 2)
   have s:=Nat.or_div_two (a:=a) (b:=b);have A:=Nat.xor_div_two (a:=a) (b:=b);have B:=Ul (a:=a) (b:=b);have l:(a ||| b) % 2=(a % 2 ||| b % 2):=Nat.or_mod_two_pow (a:=a) (b:=b) (n:=1);have m2:(a ^^^ b) % 2=(a % 2 ^^^ b % 2):=Nat.xor_mod_two_pow (a:=a) (b:=b) (n:=1);have m3:(a &&& b) % 2=(a % 2 &&& b % 2):=Pm (a:=a) (b:=b) (n:=1)
   rcases Km a with m | m <;> rcases Km b with hb | hb <;> rw[m,hb]at l m2 m3 <;> simp only[Nat.reduceOr,Nat.reduceXor,Nat.reduceAnd]at l m2 m3 <;> lia
theorem lc(a b:Nat):Et (a:Int) (b:Int)=((a ^^^ b:Nat):Int):=by
 unfold Et;rw[Td,QP,i4]
 lia
theorem oS:∀b:Nat,0 < b->∃i:Nat,b.testBit i=true/\(∀j,j < i->b.testBit j=false)/\b=(b &&& (b - 1))+2 ^ i/\∀j,(b &&& (b - 1)).testBit j=(b.testBit j&&!decide (i=j)):=by
 intro b
 induction b using pq with
 | ind b m=>
  intro hb
  rcases Km b with h | h
  ·obtain⟨i,o,s,B,A⟩:=m (b / 2) (by lia) (by lia)
   have d:=Ul (a:=b) (b:=b - 1);rw[show(b - 1) / 2=b / 2 - 1 by lia]at d;have m3:(b &&& (b - 1)) % 2=(b % 2 &&& (b - 1) % 2):=Pm (a:=b) (b:=b - 1) (n:=1);rw[h]at m3;simp at m3;refine⟨i+1,by rw[Gw];exact o,λj l=>?_,?_,λj=>?_⟩
   ·cases j with
    | zero=>rw[Gv];exact wY (by lia)
    | succ j=>rw[Gw];exact s j (by lia)
   ·rw[Zi];lia
   ·cases j with
    | zero=>
     rw[Gv,Gv,wY (show ¬(b &&& (b - 1)) % 2=1 by lia),wY (show ¬b % 2=1 by lia)];rfl
    | succ j=>
     rw[Gw,Gw,d,A j]
     congr 2
     exact decide_eq_decide.mpr (by lia)
  ·have d:=Ul (a:=b) (b:=b - 1)
   rw[show(b - 1) / 2=b / 2 by omega,Nat.and_self]at d;have m3:(b &&& (b - 1)) % 2=(b % 2 &&& (b - 1) % 2):=Pm (a:=b) (b:=b - 1) (n:=1);rw[h,show(b - 1) % 2=0 by lia]at m3;simp at m3;refine⟨0,by rw[Gv];exact wX h,λj l=>zX l (OF _),by rw[Nat.pow_zero];lia,λj=>?_⟩
   cases j with
   | zero=>
    rw[Gv,Gv,wY (show ¬(b &&& (b - 1)) % 2=1 by lia),wX h];rfl
   | succ j=>
    rw[Gw,Gw,d];simp
theorem ej{b i:Nat}(h:b=(b &&& (b - 1))+2 ^ i)(hb:0 < b):Bi (b:Int) (-(b:Int))=((2 ^ i:Nat):Int):=by
 unfold Bi gf;rw[wX (Kn b),wY (show ¬0<=-(b:Int) by lia)];show(b:Int) - ((((b:Int).toNat &&& (- -(b:Int) - 1).toNat:Nat)):Int)=_;rw[show(- -(b:Int) - 1).toNat=b - 1 by lia,Az]
 lia
theorem kj(i:Nat):Di ((2 ^ i:Nat):Int)=i+1:=by
 unfold Di;have h:(2 ^ i:Nat)≠0:=Eo (pp i);rw[qY (by rw[beq_iff_eq];lia),Int.natAbs_natCast,Nat.log2_two_pow]
def Bm(b:Nat)(l:ZLi):Prop:=l.Pairwise (· < ·)/\∀x:Int,x∈l↔0<=x/\b.testBit x.toNat=true
theorem Vk{b N:Nat}(hb:b < 2 ^ N)(hN:N<=1000):Ok (LW (b:Int)) (Bm b):=by
 unfold LW ON;simp only[AC,pC,BY]
 obtain⟨⟨t,l⟩,e,Q,A⟩:=Zp (ρ:=ZLi) (c:=λs:ZLi×Int=>some (s.2 != 0)) (q:=λs:ZLi×Int=>BO ((bH s.1 ((Di (Bi s.2 (-s.2)):Int) - 1)).bind λl=>some (.nx l)) λv=>EB (λw=>(v,w)) (some (.nx (Bi s.2 (s.2 - 1)))))
  (λs=>∃c:Nat,s.2=c/\s.1.Pairwise (· < ·)/\(∀x∈s.1,0<=x/\x < N/\b.testBit x.toNat=true/\∀j:Nat,c.testBit j=true->x < j)/\(∀j:Nat,b.testBit j=true->(j:Int)∈s.1∨c.testBit j=true)/\(∀j:Nat,c.testBit j=true->b.testBit j=true))
  (λs=>N - s.1.length) (by
   rintro s ⟨c,A,C,B,I,E⟩
   by_cases J:c=0
   ·left
    rw[A,J];rfl
   ·right
    obtain⟨i,G,R,S,H⟩:=oS c (by lia)
    have hi:i < N:=by
     have:=E i G
     refine lW λL=>?_
     have T:b.testBit i=false:=Zh (AV hb (dR (by decide) L));rw[T]at this;cases this
    have P:s.1.length < N:=by
     have U:(s.1++[(i:Int)]).Nodup:=by
      refine Fx.mpr ⟨C.imp λh=>by lia,by simp,λx m y O=>?_⟩;rw[AU.mp O];have:=(B x m).2.2.2 i G
      lia
     have:=He (k:=DN 0 N) U λx m=>by
      rw[Ch]
      rcases Av.mp m with m | m
      ·have:=B x m;omega
      ·rw[AU.mp m];omega
     rw[Bx,Ak,BU]at this;exact this
    refine⟨by rw[A];exact congrArg some (bne_iff_ne.mpr (by lia)),(s.1++[(i:Int)],((c &&& (c - 1):Nat):Int)),?_,⟨_,rfl,?_,λx m=>?_,λj o=>?_,λj o=>?_⟩,?_⟩
    ·rw[A,ej S (by lia),kj,dI (by lia),show(c:Int) - 1=((c - 1:Nat):Int) by lia,QP]
     simp only[AC,BY,oM];rw[show((i+1:Nat):Int) - 1=(i:Int) by lia]
    ·refine BK.mpr ⟨C,HK _ _,λx m y O=>?_⟩
     rw[AU.mp O];exact(B x m).2.2.2 i G
    ·rcases Av.mp m with m | m
     ·obtain⟨X,Y,Z,a4⟩:=B x m
      refine⟨X,Y,Z,λj o=>a4 j ?_⟩;rw[H j,Db]at o;exact o.1
     ·rw[AU.mp m]
      refine⟨by lia,by lia,by rw[Az];exact E i G,λj o=>?_⟩;rw[H j,Db]at o
      have xI:i≠j:=by simpa using o.2
      have:¬j < i:=λz=>by rw[R j z]at o;exact zX o.1 AH
      lia
    ·rcases I j o with h | h
     ·exact .inl (BL _ h)
     ·by_cases e:i=j
      ·subst e;exact .inl (by simp)
      ·right
       rw[H j,h,wY e];rfl
    ·rw[H j,Db]at o
     exact E j o.1
    ·show N - (s.1++[(i:Int)]).length < N - s.1.length
     rw[Ak,BU]
     omega) wN ([],(b:Int)) ⟨b,rfl,.nil,λ_ h=>(nomatch h),λj o=>.inr o,λ_ h=>h⟩ (by show N - 0 < wN;unfold wN;lia)
 refine⟨t,?_,?_⟩
 ·rw[e]
  rfl
 ·obtain⟨c,ya,C,B,I,E⟩:=Q
  have J:c=0:=by
   have A:=B2 A
   have:(c:Int)=0:=by rw[<-ya];simpa using A
   lia
  subst J;refine⟨C,λx=>⟨λm=>⟨(B x m).1,(B x m).2.2.1⟩,λ⟨x0,m⟩=>?_⟩⟩
  rcases I x.toNat m with h | h
  ·rwa [BH x0]at h
  ·simp at h
open L2 L4
open Srt (ltL)
def nr(ts:List ZPi)(x:Nat):ZLi:=D3 (DL ts x)
theorem jC:z∈nr ts x↔((x:Int),z)∈ts∨(z,(x:Int))∈ts:=by
 unfold nr;rw[(FA _).mem_iff];unfold DL;rw[R8]
 constructor
 ·rintro⟨t,l,h⟩
  rcases Av.mp h with h | h
  ·split at h
   ·rename_i e
    rw[AU.mp h,<-e];exact .inl l
   ·cases h
  ·split at h
   ·rename_i e
    rw[AU.mp h,<-e];exact .inr l
   ·cases h
 ·rintro(h | h)
  ·exact⟨_,h,BL _ (by simp)⟩
  ·exact⟨_,h,Ba _ (by simp)⟩
theorem jH{o:Nat}{us:List ZPi}{g:Int}(l:0<=g)(m:g < o):atI (Qx o us) g=some (nr us g.toNat):=by
 refine Ms l ?_;unfold Qx;rw[Ac,Cu (by lia)];rfl
theorem sY{o:Nat}{us:List ZPi}{g:Int}(l:0<=g)(m:g < o):Wn (o,us) g=some (nr us g.toNat):=by
 unfold Wn Wj HZ Fd;simp only[AC];rw[wX l,qX rfl,wX m];simp only[AC];show Gg (BO (((nw (some (Fw.nx ()))).bind λ_=>some (.nx ()))) λ_=>_)=_;simp only[nv,AC,BY];rw[jH l m];rfl
theorem OK:x∈D3 l↔x∈l:=(FA l).mem_iff
theorem bB{b n:Nat}{P:Nat->Prop}(hb:∀j,b.testBit j=true↔P j)(j:Nat):(b ||| 2 ^ n).testBit j=true↔P j∨n=j:=by
 rw[WC,NT,hb,KJ,decide_eq_true_eq]
theorem OL{n:Nat}(h:n<=1000000):Ql 1 (n:Int)=some ((2 ^ n:Nat):Int):=by
 unfold Ql;rw[qX ⟨by lia,by lia,by decide⟩,Az,xE]
 norm_cast
theorem jt(n:Nat){x:Int}(h:0<=x):hb (n:Int) x=n.testBit x.toNat:=by
 unfold hb
 have e:(n:Int) / 2 ^ x.toNat=((n / 2 ^ x.toNat:Nat):Int):=by norm_cast
 rw[e,show(1:Int)=((1:Nat):Int)from rfl,QP,Nat.testBit_eq_decide_div_mod_eq,Nat.and_one_is_mod];have:n / 2 ^ x.toNat % 2 < 2:=Nat.mod_lt _ (by decide);generalize n / 2 ^ x.toNat % 2=q at this
 match q,this with
 | 0,_=>rfl
 | 1,_=>rfl
 | q+2,h=>lia
theorem kl{l:ZLi}(h:∀x∈l,0<=x/\x < 100):∃n:Nat,HC l=some (n:Int)/\∀y:Nat,n.testBit y=true↔(y:Int)∈l:=by
 have:Ok (HC l) λv=>∃n:Nat,v=n/\∀y:Nat,n.testBit y=true↔(y:Int)∈l:=by
  unfold HC OP;simp only[AC,BY];refine OkF.out (OkF.seq (OkF.for (λm (s:Int)=>∃n:Nat,s=n/\∀y:Nat,n.testBit y=true↔(y:Int)∈m) ⟨0,rfl,λy=>by simp⟩ ?_) λs h=>.rt h);rintro m x s A C ⟨n,rfl,o⟩;have B:=h x A;obtain⟨k,rfl⟩:=ZQ B.1;rw[OL (by lia)];simp only[AC];rw[Td];refine .nx ⟨_,rfl,λy=>(bB o y).trans ?_⟩;rw[Av,AU];exact or_congr Iff.rfl ⟨λe=>by rw[e],λe=>by lia⟩
 obtain⟨v,e,n,rfl,o⟩:=this;exact⟨n,e,o⟩
def Tg(us:List ZPi)(g:Int):ZLi:=D3 ([g]++nr us g.toNat)
def tkl(o:Nat)(us:List ZPi):List ZLi:=(DN 0 o).map (Tg us)
theorem px{o:Nat}{us:List ZPi}{g:Int}(l:0<=g)(m:g < o):atI (tkl o us) g=some (Tg us g):=by
 refine Ms l ?_;unfold tkl DN;rw[Ac,Ac,Cu (by lia)];show some (Tg us (0+(g.toNat:Int)))=_;rw[show(0:Int)+(g.toNat:Int)=g by lia]
structure PY(o:Nat)(us:List ZPi):Prop where
 sm:o<=60
 len:∀g:Int,0<=g->g < o->(nr us g.toNat).length<=60
 rg:∀g:Int,0<=g->g < o->∀x∈nr us g.toNat,0<=x/\x < o/\x≠g
 nd:∀g:Int,0<=g->g < o->(nr us g.toNat).Nodup
section
variable{o:Nat}{us:List ZPi}
theorem Ub:x∈Tg us g↔x=g∨x∈nr us g.toNat:=by
 unfold Tg;rw[OK];simp
theorem PY.tg(h:PY o us){g:Int}(l:0<=g)(m:g < o):(Tg us g).length<=61/\(∀x∈Tg us g,0<=x/\x < o)/\(Tg us g).Pairwise (· < ·):=by
 refine⟨?_,λx s=>?_,?_⟩
 ·unfold Tg
  rw[(FA _).length_eq,Ak,BU];have:=h.len g l m
  lia
 ·rcases Ub.mp s with rfl | s
  ·exact⟨l,m⟩
  ·exact⟨(h.rg g l m x s).1,(h.rg g l m x s).2.1⟩
 ·have A:(Tg us g).Nodup:=by
   unfold Tg;rw[(FA _).nodup_iff];show(g :: nr us g.toNat).Nodup;rw[Bu];exact⟨λz=>(h.rg g l m g z).2.2 rfl,h.nd g l m⟩
  have:=(TH ([g]++nr us g.toNat))
  exact(VU this A).imp λ⟨a,b⟩=>by lia
theorem md(h:PY o us):MU (o,us)=some (tkl o us):=by
 unfold MU MK;simp only[AC];rw[MH (by lia) (by have:=h.sm;lia),Az];simp only[AC]
 rw[FL (f:=Tg us) (by rw[Bx];have:=h.sm;lia) λx m=>by
  obtain⟨l,A⟩:=Ch.mp m;rw[sY l (by lia),tw];simp only[AC];have s:=h.len x l (by lia);rw[QM (by rw[BU];lia)];simp only[AC]
  rfl]
 rfl
end
theorem Nh:∀{l k:ZLi},l.Pairwise (· < ·)->k.Pairwise (· < ·)->(∀x,x∈l↔x∈k)->l=k
 | [],[],_,_,_=>rfl
 | [],y :: k,_,_,h=>zX ((h y).mpr (AW ..)) JE
 | x :: l,[],_,_,h=>zX ((h x).mp (AW ..)) JE
 | x :: l,y :: k,A,B,h=>by
  have o:=KQ.mp A;have s:=KQ.mp B
  have e:x=y:=by
   rcases Ai.mp ((h x).mp (AW ..))with a | a
   ·exact a
   ·rcases Ai.mp ((h y).mpr (AW ..))with b | b
    ·exact b.symm
    ·have:=s.1 x a
     have:=o.1 y b
     lia
  subst e
  congr 1
  refine Nh o.2 s.2 λz=>⟨λm=>?_,λm=>?_⟩
  ·rcases Ai.mp ((h z).mp (AQ _ m))with a | a
   ·have:=o.1 z m;lia
   ·exact a
  ·rcases Ai.mp ((h z).mpr (AQ _ m))with a | a
   ·have:=s.1 z m;lia
   ·exact a
structure Sz(o g:Nat):Prop where
 h1:1<=g
 le:g<=o
 sm:o<=60
 fw:ch o g<=400
def sts(o g:Nat):List ZLi:=TT (o - g) g
section
variable{o g:Nat}{us:List ZPi}{r:ZLi}
theorem Gc(z:Sz o g):r∈sts o g↔Stg o g r:=by
 have:=bK (o - g) g r;rwa [FR z.le]at this
theorem Z8(z:Sz o g):(sts o g).Nodup:=qK _ _
theorem Lz(z:Sz o g):(sts o g).length<=400:=by
 have:=bL (o - g) g g (AO _);rw[FR z.le]at this;exact Aw this z.fw
theorem jM(s:1<=g)(A:g<=o)(l:o<=60):HB (o,us) g=some (ch o g:Int):=by
 unfold HB Jv;rw[wX (show(1:Int)<=(g:Int) by lia),qX rfl,wX (show(g:Int)<=(o:Int) by lia)];show Gg (BO (some (.nx ())) λ_=>(Ey o g).bind λm=>some (.rt m))=_;rw[gk l (by lia)];rfl
theorem dv(z:Sz o g):Kf (o,us) g=some (sts o g):=by
 have m:=z.h1;have l:=z.le;have B:=z.sm;have s:=z.fw;unfold Kf Kb;rw[jM m l (by lia)];simp only[AC];rw[wY (show ¬(400:Int) < (ch o g:Int) by lia)];have:=rJ (w:=o - g) (g:=g) (by lia) (by rw[FR l];exact s);rw[FR l]at this;show Gg (BO (some (.nx ())) λ_=>(LV o g).bind λA=>some (.rt A))=_;rw[this];rfl
end
theorem Vv(h:ev[i]?=some r):(Dm ev).take (i+1)=(Dm ev).take i++[((i:Int),r)]:=by
 rw[Fv]
 congr 1
 unfold Dm;rw[Ac,JP,h];simp
theorem vg{ev:List ZLi}(A:ev.Nodup){i:Nat}{r:ZLi}(h:ev[i]?=some r):An (nuF ev) r=some (i:Int):=by
 have key:∀k:Nat,k<=ev.length->∀(j:Nat) (s:ZLi),j < k->ev[j]?=some s->An (((Dm ev).take k).foldl nuS []) s=some (j:Int):=by
  intro k
  induction k with
  | zero=>intro _ j s m;exact zX m (OF _)
  | succ k B=>
   intro G j s m l;have o:ev[k]?=some (ev[k]'(by lia)):=Ap (by lia);rw[Vv o,IC];show An (CK _ _ _) s=_;rw[DE]
   by_cases e:j=k
   ·subst e
    rw[o]at l;cases l;rw[qX rfl]
   ·rw[qY,B (by lia) j s (by lia) l]
    intro c;obtain⟨C,E⟩:=AG.mp l;rw[<-E]at c;exact WD.mp A j k C (by lia) (by lia) c
 have:=key ev.length (AO _) i r (AG.mp h).1 h;rwa [DO (by unfold Dm;simp)]at this
def Hb(H:ZLi)(n:Nat)(P:Nat->Nat->Prop):Prop:=H.length=n/\∀p:Nat,p < n->∃h:Nat,H[p]?=some (h:Int)/\∀j,h.testBit j=true↔P p j
theorem jo{n k:Nat}:∀(r:ZLi) {H:ZLi} {P:Nat->Nat->Prop},(∀x∈r,0<=x/\x < (n:Int))->Hb H n P->Hb (r.foldl (hvP (k:Int)) H) n (λp j=>P p j∨((p:Int)∈r/\j=k))
 | [],H,P,_,h=>⟨h.1,λp l=>by
  obtain⟨b,A,m⟩:=h.2 p l
  exact⟨b,A,λj=>by rw[m];simp⟩⟩
 | x :: r,H,P,B,h=>by
  obtain⟨E,G⟩:=B x (AW ..)
  have A:Hb (hvP (k:Int) H x) n (λp j=>P p j∨((p:Int)=x/\j=k)):=by
   refine⟨by unfold hvP;rw[Dw];exact h.1,λp l=>?_⟩;obtain⟨b,o,s⟩:=h.2 p l;unfold hvP;rw[Dt]
   by_cases c:x.toNat=p
   ·rw[qX c,qX (by rw[h.1];lia)]
    refine⟨b ||| 2 ^ k,?_,λj=>?_⟩
    ·rw[EM,c,o,RJ,Az,show(1:Int) * 2 ^ k=((2 ^ k:Nat):Int) by rw[xE];norm_cast,Td]
    ·rw[WC,NT,s,KJ]
     rw[decide_eq_true_eq]
     have:(p:Int)=x:=by lia
     exact or_congr_right ⟨λe=>⟨this,e.symm⟩,λe=>e.2.symm⟩
   ·rw[qY c]
    refine⟨b,o,λj=>?_⟩;rw[s]
    have:¬(p:Int)=x:=by lia
    exact⟨.inl,λz=>z.elim id λz=>zX z.1 this⟩
  have m:=jo (k:=k) r (λy C=>B y (AQ _ C)) A;refine⟨m.1,λp l=>?_⟩;obtain⟨b,o,s⟩:=m.2 p l;refine⟨b,o,λj=>(s j).trans ?_⟩;dsimp only;rw[Ai]
  constructor
  ·rintro((a | ⟨a,e⟩) | ⟨a,e⟩)
   ·exact .inl a
   ·exact .inr ⟨.inl a,e⟩
   ·exact .inr ⟨.inr a,e⟩
  ·rintro(a | ⟨a | a,e⟩)
   ·exact .inl (.inl a)
   ·exact .inl (.inr ⟨a,e⟩)
   ·exact .inr ⟨a,e⟩
theorem wI{n:Nat}{ev:List ZLi}(E:∀r∈ev,∀x∈r,0<=x/\x < (n:Int)):Hb (hvF n ev) n (λp j=>∃r,ev[j]?=some r/\(p:Int)∈r):=by
 have key:∀k:Nat,k<=ev.length->Hb (((Dm ev).take k).foldl hvS (hv0 n)) n (λp j=>j < k/\∃r,ev[j]?=some r/\(p:Int)∈r):=by
  intro k
  induction k with
  | zero=>
   intro _;refine⟨by unfold hv0;rw[pr,VQ,AF,Bx],λp l=>⟨0,?_,λj=>by simp⟩⟩;unfold hv0;rw[pr,VQ,Ac,Ap (by rw[Bx];exact l)];rfl
  | succ k G=>
   intro I;have o:ev[k]?=some (ev[k]'(by lia)):=Ap (by lia);rw[Vv o,IC];have m:=jo (k:=k) ev[k] (E _ (List.getElem_mem _)) (G (by lia));refine⟨m.1,λp l=>?_⟩;obtain⟨b,s,A⟩:=m.2 p l;refine⟨b,s,λj=>(A j).trans ?_⟩
   constructor
   ·rintro(⟨a,q⟩ | ⟨a,rfl⟩)
    ·exact⟨by lia,q⟩
    ·exact⟨by lia,_,o,a⟩
   ·rintro⟨a,r,B,C⟩
    by_cases e:j=k
    ·subst e
     rw[o]at B;cases B;exact .inr ⟨C,rfl⟩
    ·exact .inl ⟨by lia,r,B,C⟩
 have:=key ev.length (AO _);rw[DO (by unfold Dm;simp)]at this;refine⟨this.1,λp l=>?_⟩;obtain⟨b,s,A⟩:=this.2 p l;refine⟨b,s,λj=>(A j).trans ?_⟩;exact⟨λh=>h.2,λ⟨r,m,H⟩=>⟨(AG.mp m).1,r,m,H⟩⟩
theorem YC(h:l.Nodup):(D3 l).Pairwise (· < ·):=(VU (TH l) ((FA l).nodup_iff.mpr h)).imp λ⟨a,b⟩=>by lia
theorem X6{s:ZLi}(h:s.Pairwise (· < ·)):s.Nodup:=h.imp λh=>by lia
def wst(r:ZLi)(a b:Int):ZLi:=r.map λx=>if x=a then b else x
theorem uu(l:r.length<=1000)(a b:Int):Ke r a b=some (wst r a b):=by
 unfold Ke Ka
 rw[FL (f:=λx=>if x=a then b else x) (by lia) λx _=>by
  by_cases c:x=a
  ·rw[wX c,qX rfl,qX c]
  ·rw[wY c,qY AH,qY c]]
 rfl
theorem lh(l:a∈r):x∈wst r a b↔x=b∨(x∈r/\x≠a):=by
 unfold wst;rw[BV]
 constructor
 ·rintro⟨y,m,rfl⟩
  split
  ·exact .inl rfl
  ·rename_i c;exact .inr ⟨m,c⟩
 ·rintro(rfl | ⟨h,c⟩)
  ·exact⟨a,l,qX rfl⟩
  ·exact⟨x,h,qY c⟩
theorem qU(m:r.Nodup)(hb:b∉r):(wst r a b).Nodup:=by
 unfold wst VV;rw[Bl]
 refine m.imp_of_mem λ{x y} o s l=>?_
 split <;> split
 ·rename_i c d;exact zX (c.trans d.symm) l
 ·intro e;exact hb (by rw[e];exact s)
 ·intro e;exact hb (by rw[<-e];exact o)
 ·exact l
structure Fk(o g:Nat)(us:List ZPi)(kd:Str)(f:Fp):Prop where
 ev:f.ev=sts o g
 kd:f.kd=kd
 tk:f.tk=tkl o us
 nu:f.nu=nuF (sts o g)
 hv:f.hv=hvF o (sts o g)
 pl:f.pb.length=(sts o g).length
 pb:∀(i:Nat) (r:ZLi),(sts o g)[i]?=some r->∃n:Nat,f.pb[i]?=some (n:Int)/\∀y:Nat,n.testBit y=true↔(y:Int)∈r
section
variable{o g:Nat}{us:List ZPi}{kd:Str}{f:Fp}{r r':ZLi}{i:Nat}
theorem pB(h:PY o us)(z:Sz o g):Ok (MW (o,us) g kd) (Fk o g us kd):=by
 have B:=h.sm;have C:=Lz z;unfold MW;rw[dv z,md h];simp only[AC]
 rw[FL (f:=λr=>(HC r).getD 0) (by lia) λr m=>by
  obtain⟨n,e,-⟩:=kl (l:=r) λx s=>by have:=((Gc z).mp m).2.1 x s;lia
  rw[e]
  rfl]
 simp only[AC];rw[qX ⟨by lia,by show o<=1000;lia,λr m x s=>((Gc z).mp m).2.1 x s⟩];refine⟨_,rfl,rfl,rfl,rfl,rfl,rfl,AF _,λi r m=>?_⟩
 obtain⟨n,e,A⟩:=kl (l:=r) λx s=>by have:=((Gc z).mp (Bt m)).2.1 x s;lia
 refine⟨n,?_,A⟩;show((sts o g).map _)[i]?=_;rw[Ac,m];show some ((HC r).getD 0)=_;rw[e];rfl
def Lk1(us:List ZPi)(r r':ZLi):Prop:=∃a∈r,∃b∈Tg us a,b∉r/\D3 (wst r a b)=r'
theorem lg(h:PY o us){a b:Int}(B:Stg o g r)(s:a∈r)(hb:b∈Tg us a)(m:b∉r):Stg o g (D3 (wst r a b)):=by
 obtain⟨l,q,p⟩:=B;have A:=q a s;have C:=(h.tg A.1 A.2).2.1 b hb;refine⟨by rw[(FA _).length_eq];unfold wst;rw[AF];exact l,λx E=>?_,YC (qU (X6 p) m)⟩
 rcases(lh s).mp (OK.mp E)with rfl | ⟨h,_⟩
 ·exact C
 ·exact q x h
theorem UY(h:l[i]?=some x):atI l (i:Int)=some x:=Ms (by lia) (by rw[Az];exact h)
theorem vc(h:PY o us)(z:Sz o g)(F:Fk o g us kd f)(O:(sts o g)[i]?=some r):Ok (EK f i) λv=>∃l:Nat,v=l/\∀j,l.testBit j=true↔∃r',(sts o g)[j]?=some r'/\Lk1 us r r':=by
 have X:=h.sm;have Y:=z.le;have G:=(Gc z).mp (Bt O);have Z:=Lz z;unfold EK EI;rw[F.ev,UY O];simp only[AC,BY];refine OkF.out (OkF.seq (OkF.for (λm (s:Int)=>∃l:Nat,s=l/\∀j,l.testBit j=true↔∃r',(sts o g)[j]?=some r'/\∃a∈m,∃b∈Tg us a,b∉r/\D3 (wst r a b)=r') ⟨0,rfl,λj=>by simp⟩ ?_) ?_)
 ·rintro m a s P hp ⟨l,rfl,A⟩
  have Q:=G.2.1 a P;rw[F.tk,px Q.1 Q.2];simp only[AC];refine OkF.map (N:=λs:Int=>∃l:Nat,s=l/\∀j,l.testBit j=true↔∃r',(sts o g)[j]?=some r'/\((∃a∈m,∃b∈Tg us a,b∉r/\D3 (wst r a b)=r')∨∃b∈Tg us a,b∉r/\D3 (wst r a b)=r')) (OkF.for (λR (s:Int)=>∃l:Nat,s=l/\∀j,l.testBit j=true↔∃r',(sts o g)[j]?=some r'/\((∃a∈m,∃b∈Tg us a,b∉r/\D3 (wst r a b)=r')∨∃b∈R,b∉r/\D3 (wst r a b)=r')) ⟨l,rfl,λj=>by rw[A];simp⟩ ?_) ?_
  ·rintro R b s hb zC ⟨l,rfl,E⟩
   by_cases c:b∈r
   ·rw[wX c]
    refine .nx ⟨l,rfl,λj=>(E j).trans ⟨λ⟨r',e,z⟩=>⟨r',e,z.imp id λ⟨b,hb,z⟩=>⟨b,BL _ hb,z⟩⟩,λ⟨r',e,z⟩=>⟨r',e,z.imp id λ⟨H,I,z⟩=>?_⟩⟩⟩
    rcases Av.mp I with q | q
    ·exact⟨H,q,z⟩
    ·rw[AU.mp q]at z
     exact zX c z.1
   ·rw[wY c]
    have hw:=lg h G P hb c;obtain⟨k,S,T⟩:=dU ((Gc z).mpr hw)
    have B:(sts o g)[k]?=some (D3 (wst r a b)):=by rw[Ap S,T]
    simp only[Bool.not_false,if_true];rw[uu (by rw[G.1];lia)];simp only[AC];rw[F.nu,vg (Z8 z) B];simp only[AC];rw[OL (by lia)];simp only[AC];rw[Td];refine .nx ⟨_,rfl,λj=>(bB E j).trans ⟨?_,?_⟩⟩
    ·rintro(⟨r',e,z⟩ | rfl)
     ·exact⟨r',e,z.imp id λ⟨b,hb,z⟩=>⟨b,BL _ hb,z⟩⟩
     ·exact⟨_,B,.inr ⟨b,by simp,c,rfl⟩⟩
    ·rintro⟨r',e,z | ⟨H,I,U,J⟩⟩
     ·exact .inl ⟨r',e,.inl z⟩
     ·rcases Av.mp I with q | q
      ·exact .inl ⟨r',e,.inr ⟨H,q,U,J⟩⟩
      ·right
       rw[AU.mp q]at J;rw[<-J,<-B]at e;exact(List.getElem?_inj S (Z8 z)).mp e.symm
  ·rintro s ⟨l,rfl,E⟩
   refine⟨l,rfl,λj=>(E j).trans ⟨λ⟨r',e,z⟩=>⟨r',e,?_⟩,λ⟨r',e,L,C,z⟩=>⟨r',e,?_⟩⟩⟩
   ·rcases z with⟨L,C,z⟩ | z
    ·exact⟨L,BL _ C,z⟩
    ·exact⟨a,by simp,z⟩
   ·rcases Av.mp C with q | q
    ·exact .inl ⟨L,q,z⟩
    ·rw[AU.mp q]at z
     exact .inr z
 ·rintro s ⟨l,rfl,A⟩
  exact .rt ⟨l,rfl,A⟩
theorem fV{s:Type}{ev:List s}{l:List (Int×s)}{x:Int×s}(h:l++[x] <+: Dm ev):∃r,ev[l.length]?=some r/\x=((l.length:Int),r):=by
 obtain⟨t,B⟩:=h
 have m:(Dm ev)[l.length]?=some x:=by rw[<-B,Bw];simp
 unfold Dm at m;rw[Ac,JP]at m
 cases A:ev[l.length]? with
 | none=>rw[A]at m;cases m
 | some r=>rw[A]at m;exact⟨r,rfl,by have:=B2 m;rw[<-this];simp⟩
theorem b9{g:Int}(l:0<=g)(m:g < o):Tk (tkl o us) g=Tg us g:=by
 unfold Tk;rw[px l m];rfl
theorem tu(h:PY o us){n:Nat}{rest:ZLi}(s:∀g∈rest,0<=g/\g < o)(C:rest.Nodup):Ok (Tb (tkl o us) rest (n:Int)) λb=>b=true↔Sdr (Tk (tkl o us)) (n:Int) rest:=by
 have I:=h.sm
 have m:((tkl o us).length:Int)=o:=by unfold tkl;rw[AF,Bx]
 have E:(∀t∈tkl o us,t.length<=1000/\∀x∈t,0<=x)/\∀g∈rest,0<=g/\g < ((tkl o us).length:Int):=by
  refine⟨λt B=>?_,λg l=>by rw[m];exact s g l⟩;obtain⟨g,l,rfl⟩:=BV.mp B;obtain⟨G,J⟩:=Ch.mp l;have:=h.tg G (by lia);exact⟨by omega,λx A=>(this.2.1 x A).1⟩
 have H:Tb (tkl o us) rest (n:Int)=Vr (Tk (tkl o us)) (n:Int) 64 rest:=qX E;rw[H]
 exact fN (T:=Tk (tkl o us)) (bits:=(n:Int)) (U:=DN 0 o) (Gd:=λg=>0<=g/\g < o) (n:=64) (gs:=rest) (λg l x A=>by
  rw[b9 l.1 l.2]at A;have:=(h.tg l.1 l.2).2.1 x A
  exact Ch.mpr ⟨this.1,by lia⟩) (by rw[Bx];lia) (by rw[Bx];lia) (λg l=>⟨s g l,by rw[b9 (s g l).1 (s g l).2];exact Ub.mpr (.inl rfl)⟩) C
theorem aP(x:Nat):nr [] x=[]:=by
 have:(nr [] x).length=0:=(FA _).length_eq;exact Sd this
theorem wa(h:PY o us)(z:Sz o g)(F:Fk o g us kd f)(O:(sts o g)[i]?=some r):Ok (EL f i) λv=>∃l:Nat,v=l/\∀j,l.testBit j=true->j < (sts o g).length/\(us=[]->(sts o g)[j]?=some r):=by
 have sm:=h.sm;have B:=(Gc z).mp (Bt O);have hl:=Lz z;unfold EL EJ;rw[F.ev,UY O];simp only[AC,BY];refine OkF.out (OkF.seq (OkF.for (λm (s:Int)=>∃l:Nat,s=l/\∀j,l.testBit j=true->j < (sts o g).length/\(us=[]->(sts o g)[j]?=some r)) ⟨0,rfl,λj=>by simp⟩ ?_) ?_)
 ·rintro m x s G Y ⟨l,rfl,H⟩
  obtain⟨n',Q,rfl⟩:=fV Y
  have R:m.length < (sts o g).length:=by rw[<-F.pl];exact(AG.mp Q).1
  have L:(sts o g)[m.length]?=some ((sts o g)[m.length]):=Ap R;generalize (sts o g)[m.length]=r' at L;have I:=(Gc z).mp (Bt L);obtain⟨n,S,T⟩:=F.pb _ _ L;rw[Q]at S;cases S;obtain⟨b,Z,xn⟩:=tu h (n:=n) (rest:=r) B.2.1 (X6 B.2.2);rw[F.tk];dsimp only;rw[Z];simp only[AC]
  cases b with
  | true=>
   rw[qX rfl,OL (by lia)];simp only[AC];rw[Td];refine .nx ⟨_,rfl,λj N=>?_⟩
   rcases(bB (P:=λj=>l.testBit j=true) (λ_=>Iff.rfl) j).mp N with N | rfl
   ·exact H j N
   refine⟨R,λe=>?_⟩;rw[L]
   congr 1
   obtain⟨U,X,-⟩:=xn.mp rfl;refine(Nh B.2.2 I.2.2 λx=>⟨λG=>?_,?_⟩).symm
   ·have q:=B.2.1 x G
    have C:=X x G;unfold w0 at C;rw[b9 q.1 q.2,Bp,Ub]at C;obtain⟨A,J⟩:=C;rw[e,aP]at A
    have A:U x=x:=by simpa using A
    rw[A,jt n q.1,T,BH q.1]at J;exact J
   ·intro G
    have sub:∀y∈r,y∈r':=λy E=>by
     have q:=B.2.1 y E;have C:=X y E;unfold w0 at C;rw[b9 q.1 q.2,Bp,Ub]at C;obtain⟨A,J⟩:=C;rw[e,aP]at A
     have A:U y=y:=by simpa using A
     rw[A,jt n q.1,T,BH q.1]at J;exact J
    exact Cn λhn=>by
     have:=He (l:=x :: r) (k:=r') (Bu.mpr ⟨hn,X6 B.2.2⟩) λy E=>by
      rcases Ai.mp E with rfl | E
      ·exact G
      ·exact sub y E
     rw[Aj,B.1,I.1]at this
     lia
  | false=>exact .nx ⟨l,rfl,H⟩
 ·exact λs hs=>.rt hs
theorem jU(h:PY o us)(z:Sz o g)(F:Fk o g us kd f)(m:(sts o g)[i]?=some r):Ok (GK f i) λv=>∃l:Nat,v=l/\∀j,l.testBit j=true->j < (sts o g).length/\(us=[]->(sts o g)[j]?=some r):=by
 have E:=Lz z;have G:=(AG.mp m).1;unfold GK MV;rw[qX ⟨by lia,by lia⟩,F.kd]
 by_cases A:kd = "one"
 ·rw[wX A,qX rfl]
  refine(vc h z F m).imp λv ⟨l,e,q⟩=>⟨l,e,λj B=>?_⟩
  obtain⟨r',C,a,_,b,hb,s,_⟩:=(q j).mp B;refine⟨(AG.mp C).1,λe=>?_⟩;rw[e,Ub,aP]at hb
  rcases hb with hb | hb
  ·rw[hb]at s;contradiction
  ·cases hb
 ·rw[wY A,qY AH]
  exact wa h z F m
theorem kr(h:PY o us)(z:Sz o g)(F:Fk o g us kd f)(m:(sts o g)[i]?=some r){c:Int}(s:0<=c/\c < o):Ok (EA f i c) λv=>∃l:Nat,v=l/\∀j,l.testBit j=true->j < (sts o g).length/\(us=[]->c∈r):=by
 obtain⟨v,e,l,rfl,C⟩:=jU h z F m
 obtain⟨-,E⟩:=wI (n:=o) (ev:=sts o g) λr m x G=>((Gc z).mp m).2.1 x G
 obtain⟨b,H,I⟩:=E c.toNat (by lia);unfold EA HY;dsimp only;rw[e,F.hv,Ms s.1 H];simp only[AC];rw[QP];refine⟨_,rfl,_,rfl,λj A=>?_⟩;rw[Uk,Db,I]at A;obtain⟨J,r',B,L⟩:=A;obtain⟨N,O⟩:=C j J;refine⟨N,λe=>?_⟩;rw[O e]at B;cases B;rwa [BH s.1]at L
theorem pK(h:PY o us)(F:Fk o g us kd f)(l:(sts o g)[i]?=some r):G2 f i=some ((DN 0 o).filter λc=>!decide (c∈r)):=by
 have m:=h.sm;unfold G2 Il;rw[F.ev,UY l,F.tk,show(tkl o us).length=o by unfold tkl;rw[AF,Bx]];simp only[AC,BY];rw[MH (by lia) (by lia),Az];simp only[AC];rw[Mn (P:=λc=>!decide (c∈r)) (by rw[Bx];lia) λ_ _=>rfl];rfl
end
open L2 L4
structure Dl(f:Fp)(N:Nat)(cl:Nat->ZLi)(B:Nat->Int->Nat->Prop):Prop where
 ln:f.ev.length=N
 sm:N<=400
 cs:∀n,n < N->G2 f n=some (cl n)/\(cl n).length<=1000/\(cl n).Pairwise (· < ·)
 bh:∀n,n < N->∀c∈cl n,Ok (EA f n c) λv=>∃l:Nat,v=l/\∀j,l.testBit j=true↔B n c j
 rg:∀n c j,B n c j->j < N
abbrev TL:=List (Int×ZPi)
structure Fa(N:Nat)(cl:Nat->ZLi)(B:Nat->Int->Nat->Prop)(T:TL):Prop where
 nd:(T.map (·.1)).Nodup
 rg:∀n∈T.map (·.1),0<=n/\n < (N:Int)
 ok:∀(m:Nat) z,An T (m:Int)=some z->1<=z.1/\z.2∈cl m/\(∀j,B m z.2 j->∃y,An T (j:Int)=some y/\y.1 < z.1)/\(∀c∈cl m,c < z.2->∃j,B m c j/\∀y,An T (j:Int)=some y->z.1<=y.1)/\(2<=z.1->∀c∈cl m,∃j,B m c j/\∀y,An T (j:Int)=some y->z.1<=y.1+1)
 no:∀m:Nat,m < N->An T (m:Int)=none->∀c∈cl m,∃j,B m c j/\An T (j:Int)=none
 hi:∀(m:Nat) z,An T (m:Int)=some z->z.1<=N
section
variable{f:Fp}{N:Nat}{cl:Nat->ZLi}{B:Nat->Int->Nat->Prop}{b:Nat}
def R6(B:Nat->Int->Nat->Prop)(b m:Nat)(c:Int):Prop:=∀j,B m c j->b.testBit j=false
def Fst(cl:Nat->ZLi)(B:Nat->Int->Nat->Prop)(b m:Nat)(c:Int):Prop:=c∈cl m/\R6 B b m c/\∀l∈cl m,l < c->¬R6 B b m l
theorem To(h:¬R6 B b m c):∃j,B m c j/\b.testBit j=true:=Cn λz=>h λj l=>by
 cases hb:b.testBit j with
 | false=>rfl
 | true=>exact zX ⟨j,l,hb⟩ z
theorem ku:(a &&& b)=0↔∀j,a.testBit j=true->b.testBit j=false:=by
 constructor
 ·intro h j l
  have:xB (a &&& b) j=xB 0 j:=by rw[h]
  rw[Uk,l,Xd,lU]at this;exact this
 ·intro h
  refine Nat.eq_of_testBit_eq λj=>?_
  rw[Uk,lU]
  cases m:a.testBit j with
  | false=>rfl
  | true=>rw[h j m];rfl
def FN(cl:Nat->ZLi)(B:Nat->Int->Nat->Prop)(b:Nat)(K:List ZPi):Prop:=(K.map (·.1)).Nodup/\(∀n∈K.map (·.1),0<=n/\b.testBit n.toNat=true)/\∀(m:Nat) c,An K (m:Int)=some c↔b.testBit m=true/\Fst cl B b m c
theorem bC(hb:b < 2 ^ N)(h:b.testBit i=true):i < N:=lW λl=>by
 have m:b.testBit i=false:=Zh (AV hb (dR (by decide) l));rw[m]at h;cases h
theorem QF{l:Type}{K:List (Int×l)}(m:(K.map (·.1)).Nodup)(o:∀n∈K.map (·.1),0<=n/\n < (N:Int)):K.length<=N:=by
 have:=He (k:=DN 0 N) m λx s=>by rw[Ch];have:=o x s;lia
 rwa [Bx,AF]at this
open Classical in
theorem Vt(D:Dl f N cl B)(hb:b < 2 ^ N):Ok (El f (b:Int)) (FN cl B b):=by
 obtain⟨l,e,lu,L⟩:=Vk hb (by have:=D.sm;lia)
 have S:∀x∈l,0<=x/\x < (N:Int):=λx G=>by
  obtain⟨x0,G⟩:=(L x).mp G;have:=bC hb G
  lia
 unfold El Ii;rw[e];simp only[AC,BY];refine OkF.out (OkF.seq (OkF.for (λpre (s:List ZPi)=>(s.map (·.1)).Nodup/\(∀n∈s.map (·.1),n∈pre)/\∀(m:Nat) c,An s (m:Int)=some c↔(m:Int)∈pre/\Fst cl B b m c) ⟨by simp,λ_ h=>h,λm c=>⟨λh=>(nomatch h),λh=>(nomatch h.1)⟩⟩ ?_) ?_)
 ·rintro pre x s G U ⟨C,E,O⟩
  obtain⟨x0,H⟩:=(L x).mp G
  obtain⟨m,rfl⟩:∃m:Nat,x=m:=⟨x.toNat,by lia⟩
  rw[Az]at H;have X:=bC hb H;obtain⟨c1,c2,c3⟩:=D.cs m X
  have hxp:(m:Int)∉pre:=by
   have:=lu.sublist U.sublist;rw[BK]at this;intro z;have:=this.2.2 _ z _ (M1 _)
   lia
  rw[c1];simp only[AC]
  rw[Mn (P:=λc=>decide (R6 B b m c)) (by lia) λc hc=>by
   obtain⟨v,e1,q,rfl,hq⟩:=D.bh m X c hc;rw[e1];simp only[AC];rw[QP]
   congr 1
   refine decide_eq_decide.mpr ?_;rw[show((q &&& b:Nat):Int)=0↔(q &&& b)=0 by lia,ku]
   exact forall_congr' λj=>imp_congr_left (hq j)]
  simp only[AC,BY]
  have Q:∀c,c∈(cl m).filter (λc=>decide (R6 B b m c))↔c∈cl m/\R6 B b m c:=λc=>by rw[Bp,decide_eq_true_eq]
  have Y:((cl m).filter λc=>decide (R6 B b m c)).Pairwise (· < ·):=c3.filter _;generalize (cl m).filter (λc=>decide (R6 B b m c))=o at Q Y
  cases o with
  | nil=>
   have nf:∀c,¬Fst cl B b m c:=λc ⟨I,J,_⟩=>nomatch (Q c).mpr ⟨I,J⟩
   refine .nx ⟨C,λn A=>BL _ (E n A),λk c=>(O k c).trans ⟨λ⟨a,q⟩=>⟨BL _ a,q⟩,λ⟨a,q⟩=>⟨?_,q⟩⟩⟩
   rcases Av.mp a with a | a
   ·exact a
   ·have e:k=m:=by have:=AU.mp a;lia
    subst e;exact zX q (nf c)
  | cons c0 o=>
   have R:Fst cl B b m c0:=by
    obtain⟨I,J⟩:=(Q c0).mp (AW ..);refine⟨I,J,λZ T h4 h5=>?_⟩
    rcases Ai.mp ((Q Z).mpr ⟨T,h5⟩)with h | h
    ·lia
    ·have:=(KQ.mp Y).1 Z h;lia
   have f1:∀c,Fst cl B b m c↔c=c0:=λc=>⟨by
    rintro ⟨I,J,T⟩
    rcases Int.lt_trichotomy c c0 with h | h | h
    ·exact zX J (R.2.2 c I h)
    ·exact h
    ·exact zX R.2.1 (T c0 R.1 h),λh=>by rw[h];exact R⟩
   have hsl:s.length<=N:=QF C λn A=>S n ((List.sublist_append_left pre [(m:Int)]).trans U.sublist |>.subset (E n A))
   have hN:=D.sm;rw[show(!(c0 :: o).isEmpty)=true from rfl,qX rfl,show atI (c0 :: o) 0=some c0 from Ms (by decide) rfl];simp only[AC];rw[show JK s (m:Int) c0=some (CK s (m:Int) c0)from qX (by lia)];refine .nx ⟨?_,λn A=>?_,λk c=>?_⟩
   ·rw[Hh]
    split
    ·exact C
    ·rename_i hk
     exact Fx.mpr ⟨C,by simp,λy hy z hz=>by rw[AU.mp hz];intro e;subst e;exact hk hy⟩
   ·rw[Hh]at A
    split at A
    ·exact BL _ (E n A)
    ·rcases Av.mp A with h | h
     ·exact BL _ (E n h)
     ·exact Ba _ h
   ·rw[DE]
    by_cases e:(k:Int)=m
    ·have e':k=m:=by lia
     subst e';rw[qX rfl,f1];exact⟨λh=>⟨by simp,(B2 h).symm⟩,λh=>by rw[h.2]⟩
    ·rw[qY e,O]
     refine and_congr_left λ_=>⟨BL _,λh=>?_⟩
     rcases Av.mp h with h | h
     ·exact h
     ·exact zX (AU.mp h) e
 ·rintro s ⟨C,E,O⟩
  refine .rt ⟨C,λn A=>(L n).mp (E n A),λm c=>(O m c).trans (and_congr_left λ_=>?_)⟩;rw[L];exact⟨λh=>by rw[Az]at h;exact h.2,λh=>⟨by lia,by rw[Az];exact h⟩⟩
structure Rnd(N:Nat)(cl:Nat->ZLi)(B:Nat->Int->Nat->Prop)(s:TL×Int×Int×List ZPi)(b:Nat):Prop where
 lf:s.2.1=b
 lt:b < 2 ^ N
 bt:∀j,b.testBit j=true↔j < N/\An s.1 (j:Int)=none
 st:1<=s.2.2.1
 nd:(s.1.map (·.1)).Nodup
 rg:∀n∈s.1.map (·.1),0<=n/\n < (N:Int)
 ok:∀(m:Nat) z,An s.1 (m:Int)=some z->z.1 < s.2.2.1/\1<=z.1/\z.2∈cl m/\(∀j,B m z.2 j->∃y,An s.1 (j:Int)=some y/\y.1 < z.1)/\(∀c∈cl m,c < z.2->∃j,B m c j/\∀y,An s.1 (j:Int)=some y->z.1<=y.1)/\(2<=z.1->∀c∈cl m,∃j,B m c j/\∀y,An s.1 (j:Int)=some y->z.1<=y.1+1)
 mn:2<=s.2.2.1->∀m:Nat,m < N->An s.1 (m:Int)=none->∀c∈cl m,∃j,B m c j/\∀y,An s.1 (j:Int)=some y->s.2.2.1<=y.1+1
 fn:FN cl B b s.2.2.2
 sl:s.2.2.1<=s.1.length+1
theorem Yl{l:ZLi}{P:Int->Prop}(h:∃c∈l,P c):∃c∈l,P c/\∀c'∈l,c' < c->¬P c':=by
 induction l with
 | nil=>obtain⟨c,h,_⟩:=h;cases h
 | cons x l I=>
  by_cases A:∃c∈l,P c
  ·obtain⟨c,C,s,G⟩:=I A
   by_cases H:P x/\x < c
   ·exact⟨x,AW ..,H.1,λc' o E m=>by
     rcases Ai.mp o with h | h
     ·lia
     ·exact G c' h (by lia) m⟩
   ·exact⟨c,AQ _ C,s,λc' o E m=>by
     rcases Ai.mp o with h | h
     ·exact H ⟨by rw[<-h];exact m,by omega⟩
     ·exact G c' h E m⟩
  ·obtain⟨c,C,s⟩:=h
   rcases Ai.mp C with h | h
   ·subst h
    exact⟨c,AW ..,s,λc' o E m=>by
     rcases Ai.mp o with h | h
     ·omega
     ·exact A ⟨c',h,m⟩⟩
   ·exact zX ⟨c,h,s⟩ A
theorem nD(D:Dl f N cl B)(h:Rnd N cl B s b)(xI:s.2.2.2≠[]) :
  ∃s' I,BO (Fh (s.2.2.2.map (·.1)) (s.1,s.2.1) λ(yG:TL×Int) S=>BO (((An s.2.2.2 S).bind λyR=>some (s.2.2.1,yR)).bind λzI=>(JK yG.1 S zI).bind λD'=>some (.nx D')) λΓ=>EB (λΔ=>(Γ,Δ)) ((Ql (1:Int) S).bind λB'=>some (.nx (Et yG.2 B')))) (λzj=>BO (some (.nx (s.2.2.1+(1:Int)))) λv40=>EB (λyI=>(zj.1,zj.2,v40,yI)) ((El f zj.2).bind λx48=>some (.nx x48)))=some (.nx (ρ:=TL) s')/\Rnd N cl B s' I/\s.1.length < s'.1.length:=by
 obtain⟨T,left,L,K⟩:=s;obtain⟨lf,lt,U,st,nd,rg,ok,mn,fn,sl⟩:=h;dsimp only at lf U st nd rg ok mn fn xI sl ⊢;subst lf;have hN:=D.sm;obtain⟨k1,k2,k3⟩:=fn
 have kN:∀n∈K.map (·.1),0<=n/\n < (N:Int):=λn O=>by
  obtain⟨a,q⟩:=k2 n O;have:=bC lt q
  lia
 have kT:∀n∈K.map (·.1),An T n=none:=λn O=>by
  obtain⟨a,q⟩:=k2 n O;have:=((U _).mp q).2;rwa [BH a]at this
 obtain⟨⟨G,X⟩,e,Y,Z,t3,I,rfl,b1,b2⟩:=XB (ρ:=TL) (l:=K.map (·.1)) (s0:=(T,(b:Int))) (q:=λ(yG:TL×Int) S=>BO (((An K S).bind λyR=>some (L,yR)).bind λzI=>(JK yG.1 S zI).bind λD'=>some (.nx D')) λΓ=>EB (λΔ=>(Γ,Δ)) ((Ql (1:Int) S).bind λB'=>some (.nx (Et yG.2 B'))))
  (λpre s=>(s.1.map (·.1)).Nodup/\(∀n∈s.1.map (·.1),0<=n/\n < (N:Int))/\(∀n,An s.1 n=if n∈pre then(An K n).map λc=>(L,c)else An T n)/\∃I:Nat,s.2=I/\I < 2 ^ N/\∀j:Nat,I.testBit j=true↔b.testBit j=true/\(j:Int)∉pre)
  ⟨nd,rg,λn=>by simp,b,rfl,lt,λj=>by simp⟩ (by
   rintro pre x ⟨G,X⟩ hx hp ⟨Y,Z,t3,I,rfl,b1,b2⟩;dsimp only at Y Z t3 ⊢;obtain⟨x0,xN⟩:=kN x hx;obtain⟨-,xb⟩:=k2 x hx
   have xp:x∉pre:=by
    have:=k1.sublist hp.sublist;unfold VV at this;rw[BK]at this
    exact λz=>this.2.2 _ z _ (M1 _) rfl
   obtain⟨c,o⟩:=Cb.mp ((DD K x).mpr hx);have hl:=QF Y Z;rw[o];simp only[AC];rw[show JK G x (L,c)=some (CK G x (L,c))from qX (by lia)];simp only[AC,BY];rw[show x=((x.toNat:Nat):Int) by lia,OL (by lia)];simp only[AC];rw[lc,<-show x=((x.toNat:Nat):Int) by lia];refine⟨_,rfl,?_,λn O=>?_,λn=>?_,_,rfl,Nat.xor_lt_two_pow b1 (Nat.pow_lt_pow_right (by decide) (by lia)),λj=>?_⟩
   ·rw[Hh]
    split
    ·exact Y
    ·rename_i hk
     exact Fx.mpr ⟨Y,by simp,λy E z A=>by rw[AU.mp A];intro e;subst e;exact hk E⟩
   ·rw[Hh]at O
    split at O
    ·exact Z n O
    ·rcases Av.mp O with h | h
     ·exact Z n h
     ·rw[AU.mp h];exact⟨x0,xN⟩
   ·rw[DE]
    by_cases e:n=x
    ·subst e
     rw[qX rfl,qX (by simp),o];rfl
    ·rw[qY e,t3]
     have:n∈pre++[x]↔n∈pre:=by rw[Av,AU];exact⟨λz=>z.elim id λz=>zX z e,.inl⟩
     simp only[this]
   ·rw[Nat.testBit_xor,KJ,bne_iff_ne,ne_eq,Av,AU]
    have xn:=b2 j
    by_cases e:x.toNat=j
    ·subst e
     rw[wX rfl];have:I.testBit x.toNat=true:=(b2 _).mpr ⟨xb,by rw[BH x0];exact xp⟩;rw[this];refine⟨λz=>zX rfl z,λz=>zX (.inr (by lia)) z.2⟩
    ·rw[wY e]
     have:¬(j:Int)=x:=by lia
     rw[Bool.not_eq_false,xn]
     exact and_congr_right λ_=>⟨λz q=>q.elim z this,λz q=>z (.inl q)⟩)
 rw[e];simp only[BY];dsimp only at Y Z t3;obtain⟨K',eK,hK⟩:=Vt D b1;rw[eK]
 have tv:∀n,An G n=match An K n with | some c=>some (L,c) | none=>An T n:=λn=>by
  rw[t3]
  by_cases h:n∈K.map (·.1)
  ·rw[qX h]
   obtain⟨c,o⟩:=Cb.mp ((DD K n).mpr h);rw[o];rfl
  ·rw[qY h]
   cases o:An K n with
   | none=>rfl
   | some c=>exact zX ((DD K n).mp (by rw[o];rfl)) h
 have J:∀n z,An T n=some z->An G n=some z:=λn z A=>by
  rw[tv]
  cases o:An K n with
  | none=>exact A
  | some c=>
   have:=kT n ((DD K n).mp (by rw[o];rfl));rw[this]at A;cases A
 have zy:∀n z,An G n=some z->An T n=some z∨(An T n=none/\z.1=L):=λn z A=>by
  rw[tv]at A
  cases o:An K n with
  | none=>rw[o]at A;exact .inl A
  | some c=>
   rw[o]at A;cases A;exact .inr ⟨kT n ((DD K n).mp (by rw[o];rfl)),rfl⟩
 have bt':∀j,I.testBit j=true↔j < N/\An G (j:Int)=none:=λj=>by
  rw[b2,U,tv]
  constructor
  ·rintro⟨⟨H,C⟩,h3⟩
   refine⟨H,?_⟩
   cases o:An K (j:Int)with
   | none=>exact C
   | some c=>exact zX ((DD K _).mp (by rw[o];rfl)) h3
  ·rintro⟨H,C⟩
   cases o:An K (j:Int)with
   | none=>rw[o]at C;exact⟨⟨H,C⟩,λz=>by have:=(DD K _).mpr z;rw[o]at this;cases this⟩
   | some c=>rw[o]at C;cases C
 have up:∀(j:Nat) (r:Int),r<=L->(∀y,An T (j:Int)=some y->r<=y.1)->∀y,An G (j:Int)=some y->r<=y.1:=λj r hr h y E=>by
  rcases zy _ _ E with H | ⟨_,C⟩
  ·exact h y H
  ·lia
 have hlen:T.length < G.length:=by
  cases K with
  | nil=>exact zX rfl xI
  | cons x K=>
   have hx:=kT x.1 (AW ..);have O:((x.1:Int) :: T.map (·.1)).Nodup:=Bu.mpr ⟨λz=>AH (by have:=(DD T _).mpr z;rw[hx]at this;exact this),nd⟩
   have:=He (k:=G.map (·.1)) O λy E=>by
    rw[<-DD]
    rcases Ai.mp E with h | h
    ·subst h
     rw[tv];obtain⟨c,o⟩:=Cb.mp ((DD (x :: K) x.1).mpr (AW ..));rw[o];rfl
    ·obtain⟨z,A⟩:=Cb.mp ((DD T y).mpr h)
     rw[J _ _ A];rfl
   rw[Aj,AF,AF]at this
   lia
 refine⟨(G,(I:Int),L+1,K'),I,rfl,⟨rfl,b1,bt',by show 1<=L+1;lia,Y,Z,λm z A=>?_,λ_ m hm A c o=>?_,hK,by show L+1<=(G.length:Int)+1;lia⟩,hlen⟩
 ·dsimp only at A ⊢
  rcases zy _ _ A with H | ⟨H,C⟩
  ·obtain⟨o1,o2,o3,o4,o5,o6⟩:=ok m z H
   refine⟨by lia,o2,o3,λj hj=>?_,λc o xH=>?_,λC c o=>?_⟩
   ·obtain⟨y,y1,y2⟩:=o4 j hj
    exact⟨y,J _ _ y1,y2⟩
   ·obtain⟨j,Q,R⟩:=o5 c o xH
    exact⟨j,Q,up j z.1 (by lia) R⟩
   ·obtain⟨j,Q,R⟩:=o6 C c o
    refine⟨j,Q,λy E=>?_⟩;have:=up j (z.1 - 1) (by lia) (λy E=>by have:=R y E;lia) y E
    lia
  ·obtain⟨r,c⟩:=z
   have o:An K (m:Int)=some c:=by
    have:=tv (m:Int);rw[A]at this
    cases o:An K (m:Int)with
    | none=>rw[o,H]at this;cases this
    | some c'=>rw[o]at this;cases this;rfl
   dsimp only at C;subst C;obtain⟨f0,f1,f2,f3⟩:=(k3 m c).mp o;refine⟨by dsimp only;lia,st,f1,λj hj=>?_,λc' ya xH=>?_,λC c' ya=>?_⟩
   ·have hjN:=D.rg _ _ _ hj
    cases hv:An T (j:Int)with
    | none=>
     have:=(U j).mpr ⟨hjN,hv⟩;rw[f2 j hj]at this;cases this
    | some y=>exact⟨y,J _ _ hv,(ok j y hv).1⟩
   ·obtain⟨j,Q,R⟩:=To (f3 c' ya xH)
    refine⟨j,Q,λy E=>?_⟩
    rcases zy _ _ E with q | ⟨_,q⟩
    ·rw[((U j).mp R).2]at q;cases q
    ·dsimp only;lia
   ·obtain⟨j,Q,R⟩:=mn C m ((U m).mp f0).1 H c' ya
    refine⟨j,Q,λy E=>?_⟩
    rcases zy _ _ E with q | ⟨_,q⟩
    ·exact R y q
    ·dsimp only;lia
 ·dsimp only at A ⊢
  obtain⟨H,C⟩:=(b2 m).mp ((bt' m).mpr ⟨hm,A⟩)
  have nl:¬R6 B b m c:=λhl=>by
   obtain⟨c0,q1,q2,q3⟩:=Yl (P:=R6 B b m) ⟨c,o,hl⟩;have:=(k3 m c0).mpr ⟨H,q1,q2,q3⟩;exact C ((DD K _).mp (by rw[this];rfl))
  obtain⟨j,Q,R⟩:=To nl;refine⟨j,Q,λy E=>?_⟩
  rcases zy _ _ E with q | ⟨_,q⟩
  ·rw[((U j).mp R).2]at q;cases q
  ·lia
theorem kJ(D:Dl f N cl B):Ok (Ni f) (Fa N cl B):=by
 have hN:=D.sm;unfold Ni P4;rw[D.ln,OL (by lia)];simp only[AC,BY];have hp:0 < 2 ^ N:=pp N;rw[show((2 ^ N:Nat):Int) - 1=((2 ^ N - 1:Nat):Int) by omega]
 have lt:2 ^ N - 1 < 2 ^ N:=by omega
 obtain⟨K,T,U⟩:=Vt D lt;rw[T];simp only[AC,BY];have X:Rnd N cl B ([],((2 ^ N - 1:Nat):Int),1,K) (2 ^ N - 1):=⟨rfl,lt,λj=>by rw[Nat.testBit_two_pow_sub_one,decide_eq_true_eq];exact⟨λh=>⟨h,rfl⟩,λh=>h.1⟩,dX 1,Gj,λ_ h=>(nomatch h),λm z h=>(nomatch h),λh=>zX (show(2:Int)<=1 from h) (by decide),U,dX 1⟩
 obtain⟨l,e,⟨b,h⟩,C⟩:=Zp (ρ:=TL) (c:=λ(Y:TL×Int×Int×(List ZPi))=>some (!Y.2.2.2.isEmpty)) (q:=λ(s:TL×Int×Int×(List ZPi))=>BO (Fh (s.2.2.2.map (·.1)) (s.1,s.2.1) λ(L:TL×Int) E=>BO (((An s.2.2.2 E).bind λZ=>some (s.2.2.1,Z)).bind λzI=>(JK L.1 E zI).bind λD'=>some (.nx D')) λΓ=>EB (λΔ=>(Γ,Δ)) ((Ql (1:Int) E).bind λB'=>some (.nx (Et L.2 B')))) (λG=>BO (some (.nx (s.2.2.1+(1:Int)))) λH=>EB (λyI=>(G.1,G.2,H,yI)) ((El f G.2).bind λI=>some (.nx I)))) (λs=>∃b,Rnd N cl B s b) (λs=>N - s.1.length) (by
   rintro s ⟨b,h⟩
   cases o:s.2.2.2 with
   | nil=>left;rfl
   | cons x K=>
    right
    obtain⟨l,b',O,J,e3⟩:=nD D h (by rw[o];exact λz=>nomatch z);rw[o]at O;refine⟨rfl,l,O,⟨b',J⟩,?_⟩;have:=QF J.nd J.rg;show N - l.1.length < N - s.1.length
    omega) wN _ ⟨_,X⟩ (by show N - 0 < wN;unfold wN;lia)
 simp only[BY]at e;rw[e];refine⟨l.1,rfl,?_⟩
 have o:l.2.2.2=[]:=by
  have:=B2 C
  cases o:l.2.2.2 with
  | nil=>rfl
  | cons x K=>rw[o]at this;cases this
 obtain⟨lf,lt,Q,st,R,S,ok,mn,fn,sl⟩:=h;refine⟨R,S,λm z A=>(ok m z A).2,λm hm A c C=>?_,λm z A=>by have:=(ok m z A).1;have:=QF R S;lia⟩;have hb:=(Q m).mpr ⟨hm,A⟩
 have nl:¬R6 B b m c:=λhl=>by
  obtain⟨c0,q1,q2,q3⟩:=Yl (P:=R6 B b m) ⟨c,C,hl⟩;have:=(fn.2.2 m c0).mpr ⟨hb,q1,q2,q3⟩;rw[o]at this;cases this
 obtain⟨j,j1,j2⟩:=To nl;exact⟨j,j1,((Q j).mp j2).2⟩
end
theorem du(l:ZLi)(x:Int):WV (l++[x])=WV l+x:=by
 rw[WU,WU,NS];simp
theorem mq(P:Int->Bool):∀n:Nat,∃b:Nat,WV (((DN 0 n).filter P).map λx=>((2 ^ x.toNat:Nat):Int))=b/\b < 2 ^ n/\∀j,b.testBit j=true↔j < n/\P (j:Int)=true:=by
 intro n
 induction n with
 | zero=>exact⟨0,rfl,by decide,λj=>by simp⟩
 | succ n A=>
  obtain⟨b,m,B,o⟩:=A
  have e:DN 0 (n+1)=DN 0 n++[(n:Int)]:=by
   unfold DN;rw[HJ,Bv];simp
  rw[e,Yw]
  by_cases l:P (n:Int)=true
  ·rw[qX l,Bv,List.map_singleton,du,m,Az]
   refine⟨b+2 ^ n,by lia,by rw[Zi];lia,λj=>?_⟩;have s:=Nat.two_pow_add_eq_or_of_lt B 1;rw[Nat.mul_one]at s;rw[Nat.add_comm,s,WC,KJ,NT,decide_eq_true_eq,o]
   constructor
   ·rintro(rfl | ⟨a,q⟩)
    ·exact⟨by lia,l⟩
    ·exact⟨by lia,q⟩
   ·rintro⟨a,q⟩
    by_cases e:n=j
    ·exact .inl e
    ·exact .inr ⟨by lia,q⟩
  ·rw[qY l]
   refine⟨b,m,by rw[Zi];lia,λj=>(o j).trans ⟨λ⟨a,q⟩=>⟨by lia,q⟩,λ⟨a,q⟩=>⟨?_,q⟩⟩⟩
   by_cases e:j=n
   ·subst e;exact zX q l
   ·lia
section
variable{f:Fp}{N:Nat}{cl:Nat->ZLi}{B:Nat->Int->Nat->Prop}{T:TL}
theorem ft(D:Dl f N cl B):∃b:Nat,Ha f T=some (b:Int)/\b < 2 ^ N/\∀j,b.testBit j=true↔j < N/\An T (j:Int)=none:=by
 have A:=D.sm;obtain⟨b,l,m,o⟩:=mq (λx=>!(An T x).isSome) N;refine⟨b,?_,m,λj=>(o j).trans (and_congr_right λ_=>by cases An T (j:Int) <;> simp)⟩;unfold Ha HV;rw[D.ln];simp only[AC];rw[MH (by lia) (by lia),Az];simp only[AC]
 rw[US (P:=λx=>!(An T x).isSome) (f:=λx=>((2 ^ x.toNat:Nat):Int)) (by rw[Bx];lia) (λ_ _=>rfl) λx s _=>by
  obtain⟨C,E⟩:=Ch.mp s
  conv=>lhs;rw[show x=((x.toNat:Nat):Int) by lia]
  exact OL (by lia)]
 simp only[AC];rw[l];rfl
theorem oU(F:Fa N cl B T):D3 (T.map (·.1))=(DN 0 N).filter λn=>(An T n).isSome:=Nh (YC F.nd) ((MF 0 N).filter _) λx=>by
 rw[OK,Bp,DD,Ch];exact⟨λh=>⟨by have:=F.rg x h;lia,h⟩,λh=>h.2⟩
end
def evN(o g:Nat)(n:Int):ZLi:=(sts o g).getD n.toNat []
def clS(o g:Nat)(n:Nat):ZLi:=(DN 0 o).filter λc=>!decide (c∈evN o g n)
def BS(f:Fp)(N:Nat)(n:Nat)(c:Int)(j:Nat):Prop:=n < N/\j < N/\∃l:Nat,EA f n c=some (l:Int)/\l.testBit j=true
section
variable{o g:Nat}{us:List ZPi}{kd:Str}{f:Fp}
theorem XF{n:Nat}{r:ZLi}(h:(sts o g)[n]?=some r):evN o g n=r:=by
 unfold evN;rw[Az,EM,h];rfl
theorem kg{n:Nat}{c:Int}(l:c∈clS o g n):(0<=c/\c < o)/\c∉evN o g n:=by
 unfold clS at l;obtain⟨m,s⟩:=Bp.mp l;obtain⟨A,B⟩:=Ch.mp m;exact⟨⟨A,by lia⟩,by simpa using s⟩
theorem wS(h:PY o us)(z:Sz o g)(F:Fk o g us kd f):Dl f (sts o g).length (clS o g) (BS f (sts o g).length)/\(us=[]->∀n c j,c∈clS o g n->¬BS f (sts o g).length n c j):=by
 have J:=h.sm;have C:=Lz z
 have G:∀n,n < (sts o g).length->∀c∈clS o g n,Ok (EA f n c) λv=>∃l:Nat,v=l/\∀j,l.testBit j=true->j < (sts o g).length/\(us=[]->c∈evN o g n):=λn s c A=>by
  have B:=Ap s;rw[XF B];exact kr h z F B (kg A).1
 refine⟨⟨by rw[F.ev],by lia,λn s=>?_,λn s c A=>?_,λn c j ⟨_,e,_⟩=>e⟩,λe n c j A ⟨s,_,l,H,I⟩=>?_⟩
 ·have B:=Ap s
  refine⟨?_,?_,(MF 0 o).filter _⟩
  ·rw[pK h F B]
   unfold clS;rw[XF B]
  ·have:=ES (λc=>!decide (c∈evN o g n)) (DN 0 o)
   rw[Bx]at this;unfold clS
   lia
 ·obtain⟨v,e,l,rfl,C⟩:=G n s c A
  refine⟨_,e,l,rfl,λj=>⟨λE=>⟨s,(C j E).1,l,e,E⟩,λ⟨_,_,l',m,E⟩=>?_⟩⟩;rw[e]at m
  have:l=l':=by injection m with m;exact gN m
  rw[this];exact E
 ·obtain⟨v,m,l',rfl,C⟩:=G n s c A
  rw[H]at m
  have:l=l':=by injection m with m;exact gN m
  exact(kg A).2 ((C j (this▸I)).2 e)
end
section
variable{o g:Nat}{us:List ZPi}{kd:Str}{f:Fp}{T:TL}
theorem t8(h:PY o us)(z:Sz o g):∃(T:TL) (B:Nat->Int->Nat->Prop),Fa (sts o g).length (clS o g) B T/\(us=[]->∀n c j,c∈clS o g n->¬B n c j) /\
  LX (o,us) g kd=some (((DN 0 (sts o g).length).filter λn=>!(An T n).isSome).map (evN o g)) /\
  SI (o,us) g kd=some (((DN 0 (sts o g).length).filter λn=>(An T n).isSome).map λn=>(evN o g n,(An T n).getD (0,0))):=by
 have sm:=h.sm;have hl:=Lz z;obtain⟨f,C,F⟩:=pB (kd:=kd) h z;obtain⟨D,H⟩:=wS h z F;obtain⟨T,eT,A⟩:=kJ D
 have at':∀n∈DN 0 (sts o g).length,atI f.ev n=some (evN o g n):=λn m=>by
  obtain⟨E,n1⟩:=Ch.mp m;have G:=Ap (l:=sts o g) (i:=n.toNat) (by lia);rw[F.ev,Ms E G]
  congr 1
  have:=XF G;rw[BH E]at this;exact this.symm
 refine⟨T,_,A,H,?_,?_⟩
 ·obtain⟨b,I,J,L⟩:=ft (T:=T) D
  obtain⟨l,N,O,P⟩:=Vk J (by lia)
  have Q:l=(DN 0 (sts o g).length).filter λn=>!(An T n).isSome:=Nh O ((MF 0 _).filter _) λx=>by
   rw[P,Bp,Ch,L]
   constructor
   ·rintro⟨s,a,q⟩
    rw[BH s]at q;exact⟨⟨s,by lia⟩,by rw[q];rfl⟩
   ·rintro⟨⟨s,a⟩,q⟩
    refine⟨s,by lia,?_⟩;rw[BH s]
    cases R:An T x with
    | none=>rfl
    | some z=>rw[R]at q;cases q
  unfold LX OO;simp only[AC];rw[C];simp only[AC,BY];rw[eT];simp only[AC];rw[I];simp only[AC];rw[N];simp only[AC];rw[Q,FL (f:=evN o g) (by have:=ES (λn=>!(An T n).isSome) (DN 0 (sts o g).length);rw[Bx]at this;lia) λn m=>at' n (Bp.mp m).1];rfl
 ·unfold SI SH
  simp only[AC];rw[C];simp only[AC,BY];rw[eT];simp only[AC,BY]
  have S:=He A.nd (k:=DN 0 (sts o g).length) λx U=>Ch.mpr (by have:=A.rg x U;lia)
  rw[AF,Bx]at S
  rw[oU A,FL (f:=λn=>(evN o g n,(An T n).getD (0,0))) (by have:=ES (λn=>(An T n).isSome) (DN 0 (sts o g).length);rw[Bx]at this;lia) λn m=>by
   obtain⟨X,Y⟩:=Bp.mp m;rw[at' n X];obtain⟨z,Z⟩:=Cb.mp Y;rw[Z]
   rfl]
  rfl
end
theorem jA(h:x.1 < x.2):nrm x=x:=by
 unfold nrm;rw[qY (by lia),qX (by omega)]
theorem jB(x:Int×Int):nrm (x.2,x.1)=nrm x:=by
 unfold nrm;dsimp only
 congr 1
 ·split <;> split <;> lia
 ·split <;> split <;> lia
theorem iS(h:l.Perm l'):KY l=KY l':=LS ((HA l).trans (h.trans (HA l').symm)) (NY l) (NY l')
theorem mW(h:(ps.map nrm).Perm (qs.map nrm)):Ix ps=Ix qs:=by
 unfold Ix Ly;have:=h.map Wh;rw[BF,BF]at this;rw[show(λx=>Wh (nrm x))=Wh∘nrm from rfl,iS this]
theorem GR.of(h:(ps.map nrm).Perm (l.map nrm))(f:GR p l):GR p ps:=by
 refine⟨λx m=>?_,h.nodup_iff.mpr f.2⟩;obtain⟨y,o,e⟩:=BV.mp (h.mem_iff.mp (Ji m));have:=f.1 y o;unfold Fit at this ⊢;rw[<-e];exact this
theorem UT(ns:ZLi)(k:Nat):CL ns (k:Int)=some (ns.getD k 0):=by
 unfold CL HX
 by_cases c:k < ns.length
 ·rw[wX (show(k:Int) < (ns.length:Int) by omega),qX rfl,Ms (x:=ns[k]) (by omega) (by rw[Az];exact Ap c)]
  simp only[AC,ko,cK];rw[EM,Ap c];rfl
 ·rw[wY (show ¬(k:Int) < (ns.length:Int) by omega),qY AH]
  simp only[BY,cK];rw[EM,Bo (by omega)];rfl
def prs(o:Nat):List ZPi:=(Hd o).getD []
theorem Vf:∀o:Nat,o < 8->Hd o=some (prs o)/\(∀x∈prs o,0<=x.1/\x.1 < x.2/\x.2 < o)/\(prs o).Nodup/\(prs o).length<=21/\(2<=o->prs o≠[])/\∀y:Nat,y < 7->((prs o).filter λx=>decide ((y:Int)∈[x.1,x.2])).length<=6:=by decide +kernel
theorem fP:∀o:Nat,o < 8->∀s:Nat,s < 6->∃fs,Ed o s=some fs/\fs.length<=21:=by
 have h:∀o:Nat,o < 8->∀s:Nat,s < 6->(match Ed o s with | some fs=>decide (fs.length<=21) | none=>false)=true:=by decide +kernel
 intro o l s m;have:=h o l s m
 cases q:Ed o s with
 | none=>rw[q]at this;cases this
 | some fs=>rw[q]at this;exact⟨fs,rfl,of_decide_eq_true this⟩
theorem RY[DecidableEq l](m:List (l×o))(k:l)(v:o):(CK m k v).length<=m.length+1:=by
 unfold CK;split
 ·rw[AF];omega
 ·rw[Ak];simp
theorem q9(ns:ZLi)(z9:ns.length<=63)(f:Nat)(hf:f<=1000){o:Nat}(Y:2<=o)(ho:o < 8):∃P,Kg ns f o=some ((prs o).filter P):=by
 obtain⟨e1,-,-,hl,Z,-⟩:=Vf o ho;obtain⟨fs,e2,C⟩:=fP o ho (ns.getD 0 0 / 7 % 6).toNat (by omega);rw[BH (by omega)]at e2;unfold Kg Kc;simp only[AC];rw[e1,show CL ns 0=some (ns.getD 0 0)from UT ns 0];simp only[AC,BY];rw[e2];simp only[AC]
 obtain⟨s1,e3,l1⟩:=XB (ρ:=List ZPi) (l:=fs) (s0:=([]:List (ZPi×Bool))) (q:=λyr yQ=>EB (λE=>E) ((JK yr yQ true).bind λG=>some (.nx G))) (λm s=>s.length<=m.length) (AO _) (by
  intro m x s hx H hs;have:=H.length_le;rw[Ak,BU]at this;refine⟨CK s x true,?_,?_⟩
  ·rw[show JK s x true=some (CK s x true)from qX (by omega)]
   rfl
  ·rw[Ak,BU]
   exact Aw (RY _ _ _) (by omega))
 rw[e3];simp only[BY];rw[Wi (by omega) (by omega) (by split <;> omega) (by split <;> omega)];simp only[AC]
 have xM:0 < ((prs o).length:Int):=by have:=Pe.mpr (Z Y);omega
 obtain⟨I,e4,-⟩:=XB (ρ:=List ZPi) (l:=DN (f:Int) ((if (63:Int) < (ns.length:Int)then(63:Int)else(ns.length:Int)) - (f:Int)).toNat) (s0:=s1) (q:=λJ L=>BO (((atI ns L).bind λN=>Ye N ((prs o).length:Int)).bind (λO=>atI (prs o) O) |>.bind λQ=>some (.nx Q)) λR=>EB (λyD=>yD) ((if (!(An J R).isSome)=true then some true else(An J R).bind λS=>some (!S)).bind λT=>(JK J R T).bind λU=>some (.nx U))) (λm s=>s.length<=21+m.length) (Aw l1 C) (by
  intro m x s hx H hs;have A:=H.length_le;rw[Ak,BU,Bx]at A;obtain⟨hx1,X⟩:=Ch.mp hx;obtain⟨y,ey,-⟩:=bF (l:=ns) (i:=x) (by omega) (by split at X <;> omega);rw[ey];simp only[AC];rw[Wv xM];simp only[AC];obtain⟨t,et,-⟩:=XS (l:=prs o) y (Z Y);rw[et];simp only[AC,BY]
  have hb:∃b,(if (!(An s t).isSome)=true then some true else(An s t).bind λS=>some (!S))=some b:=by
   cases An s t with
   | none=>exact⟨true,rfl⟩
   | some b=>exact⟨!b,rfl⟩
  obtain⟨b,hb⟩:=hb;rw[hb];simp only[AC];refine⟨CK s t b,?_,?_⟩
  ·rw[show JK s t b=some (CK s t b)from qX (by split at A <;> omega)]
   rfl
  ·rw[Ak,BU]
   exact Aw (RY _ _ _) (by omega))
 refine⟨λx=>match An I x with | some b=>b | none=>false,?_⟩;have B:=e4;simp only[Option.bind_assoc,AC]at B ⊢;rw[B];simp only[BY]
 rw[Mn (P:=λx=>match An I x with | some b=>b | none=>false) (by omega) (by
  intro x _
  cases An I x with
  | none=>rfl
  | some b=>rfl)]
 rfl
structure PZ(o:Nat)(ts:List ZPi):Prop where
 rg:∀x∈ts,0<=x.1/\x.1 < x.2/\x.2 < o
 nd:ts.Nodup
 ln:ts.length<=21
 dg:∀y:Nat,y < 7->(ts.filter λx=>decide ((y:Int)∈[x.1,x.2])).length<=6
theorem mZ(ho:o < 8)(P:Int×Int->Bool):PZ o ((prs o).filter P):=by
 obtain⟨-,l,m,s,-,A⟩:=Vf o ho;refine⟨λx B=>l x (Bp.mp B).1,m.filter _,Aw (ES _ _) s,λy C=>?_⟩;refine Aw ?_ (A y C);exact(xC _ Ph).length_le
theorem ju(ns:ZLi)(m:ts.length<=1000):∃l,Im ns ts=some l/\(l=ts∨l=ts.reverse.map λx=>(x.2,x.1)):=by
 unfold Im Ik;rw[show CL ns 0=some (ns.getD 0 0)from UT ns 0];simp only[AC]
 by_cases c:ns.getD 0 0 / 42 % 2=0
 ·rw[wX c,qX rfl]
  exact⟨ts,rfl,.inl rfl⟩
 ·rw[wY c,qY AH]
  simp only[BY];rw[FL (f:=λx:Int×Int=>(x.2,x.1)) (by rw[dS];omega) λx _=>rfl];exact⟨_,rfl,.inr rfl⟩
theorem PZ.nrm(h:PZ o ts):ts.map nrm=ts:=by
 conv=>rhs;rw[<-Sb ts]
 exact Ct λx l=>jA (h.rg x l).2.1
theorem PZ.fit(h:PZ o ts):GR o ts:=by
 refine⟨λx l=>?_,by rw[h.nrm];exact h.nd⟩;have:=h.rg x l;unfold Fit;rw[jA this.2.1];omega
theorem PZ.mem(h:PZ o ts):t∈Ix ts↔t∈ts:=by
 rw[(Qi ts).mem_iff,h.nrm]
theorem PZ.web(h:PZ o ts)(A:1<=o)(ho:o<=60)(e:l=ts∨l=ts.reverse.map λx=>(x.2,x.1)):gj (o:Int) l=some (o,Ix ts):=by
 have m:(l.map M.nrm).Perm (ts.map M.nrm):=by
  rcases e with rfl | rfl
  ·exact List.Perm.refl _
  ·rw[BF,show(M.nrm∘λx:Int×Int=>(x.2,x.1))=M.nrm from funext λx=>jB x,lE]
   exact List.reverse_perm _
 have s:l.length=ts.length:=by have:=m.length_eq;rwa [AF,AF]at this
 unfold gj;rw[qX ⟨by omega,by omega,GR.of m h.fit,by rw[s];have:=h.ln;omega⟩,mW m,Az]
theorem Tq:z∈DL us x↔((x:Int),z)∈us∨(z,(x:Int))∈us:=by
 rw[<-jC];exact OK.symm
theorem Vi:∀{us:List ZPi},us.Nodup->(∀t∈us,t.1 < t.2)->(DL us x).Nodup
 | [],_,_=>Gj
 | t :: us,h,l=>by
  have m:=Vi (x:=x) (Bu.mp h).2 λs C=>l s (AQ _ C)
  have B:=(Bu.mp h).1;have lt:=l t AW
  have e:DL (t :: us) x=((if t.1=(x:Int)then[t.2]else[])++(if t.2=(x:Int)then[t.1]else[]))++DL us x:=by
   unfold DL;rw[RL]
  rw[e]
  have lt':∀a b:Int,(a,b)∈us->a < b:=λa b E=>l _ (AQ _ E)
  by_cases o:t.1=(x:Int)
  ·rw[qX o,qY (by lia),Bh]
   show(t.2 :: DL us x).Nodup;rw[Bu];refine⟨λz=>?_,m⟩
   rcases Tq.mp z with z | z
   ·rw[<-o]at z;exact B z
   ·have:=lt' _ _ z;lia
  ·rw[qY o,lY]
   by_cases A:t.2=(x:Int)
   ·rw[qX A]
    show(t.1 :: DL us x).Nodup;rw[Bu];refine⟨λz=>?_,m⟩
    rcases Tq.mp z with z | z
    ·have:=lt' _ _ z;lia
    ·rw[<-A]at z;exact B z
   ·rw[qY A];exact m
theorem PZ.ties(h:PZ o ts)(ho:o<=60):PY o (Ix ts):=by
 have A:∀g:Int,0<=g->g < o->∀x∈nr (Ix ts) g.toNat,0<=x/\x < o/\x≠g:=λg m s x l=>by
  rw[jC,h.mem,h.mem,BH m]at l
  rcases l with l | l
  ·have:0<=g/\g < x/\x < o:=h.rg _ l;lia
  ·have:0<=x/\x < g/\g < o:=h.rg _ l;lia
 have B:∀g:Int,0<=g->g < o->(nr (Ix ts) g.toNat).Nodup:=λg _ _=>by
  refine(FA _).nodup_iff.mpr (Vi ?_ λt C=>?_)
  ·rw[(Qi ts).nodup_iff,h.nrm];exact h.nd
  ·exact(h.rg t (h.mem.mp C)).2.1
 refine⟨ho,λg m s=>?_,A,B⟩;have E:(g :: nr (Ix ts) g.toNat).Nodup:=Bu.mpr ⟨λz=>(A g m s g z).2.2 rfl,B g m s⟩
 have:=He (k:=DN 0 o) E λx l=>by
  rw[Ch]
  rcases Ai.mp l with rfl | l
  ·lia
  ·have:=A g m s x l;lia
 rw[Bx,Aj]at this
 lia
theorem sZ(e:Lo)(S:Sto):∃y,jP (Tz (mC (.str "there are more than ")) (Tz (sd (mC (.int 400))) (Tz (mC (.str " standings")) oW))) e S=.ok (.str y) S:=⟨_,rfl⟩
section
variable{W:Wd}{w:Nat×List ZPi}{S:Sto}{wn:Nat}{g way n:Int}{kd:Str}{C:AT}{d:D}{S':Sto}
theorem oO(hw:S[wn]?=some (D4 W w))(h:¬(1<=g/\g<=(w.1:Int))):∃S',IX W [.ref wn,.int g] S=.err W.BadGuards S'/\Keeps S S':=by
 have m:Kj S [.z (D4 W w),.v (D.int g)] [.ref wn,.int g]:=⟨⟨wn,rfl,hw⟩,rfl,trivial⟩;have t:VB [.z (D4 W w),.v (D.int g)] (Qy (mB (m3 leD leD (mC (.int 1)) (AD 1) (DY W.Web "places" (AD 0))))) _:=Zy (Ff (Ss Y4 Y4 (Br rfl) (AM rfl) (Ga (DK rfl))))
 obtain⟨o,s,A⟩:=t true (by
  simp only[AC]
  by_cases l:(1:Int)<=g
  ·rw[wX l,qX rfl,wY (λq=>h ⟨l,q⟩)]
   rfl
  ·rw[wY l,qY AH]
   rfl) S _ _ S (Vs.start (n:=2) m)
 refine⟨o,L2.Qs (e:=Dy 2 [.ref wn,.int g]) ?_,A⟩;unfold Mo;refine Qn ?_;rw[Gn s,qX rfl];exact YU (ds:=[.str "a web has standings of 1 guard up to as many as places"]) rfl (by decide)
def Why(W:Wd)(w:Nat×List ZPi)(g:Int)(C:AT):Prop:=(C=W.BadGuards/\¬(1<=g/\g<=(w.1:Int)))∨(C=W.TooLarge/\∃n,HB w g=some n/\400 < n)
theorem iL(hw:S[wn]?=some (D4 W w))(l:Why W w g C):∃S',HF W [.ref wn,.int g] S=.err C S'/\Keeps S S':=by
 rcases l with⟨rfl,h⟩ | ⟨rfl,n,B,h⟩
 ·obtain⟨S1,o,s⟩:=oO hw h
  refine⟨S1,L2.Qs (e:=Dy 2 [.ref wn,.int g]) ?_,s⟩;unfold JD;exact Qn (tG (wj (sf ((Hr (n:=2) (f:=IX W) (m:=AL (AD 0) (AL (AD 1) BJ)) (e:=Dy 2 [.ref wn,.int g]) (S:=S) (ds:=[.ref wn,.int g]) (S1:=S) rfl rfl).trans o))))
 ·have E:Kj S [.z (D4 W w),.v (D.int g)] [.ref wn,.int g]:=⟨⟨wn,rfl,hw⟩,rfl,trivial⟩
  have t:VB [.z (D4 W w),.v (D.int g)] (mB (m2 gtD (CM 2 (IX W) (AL (AD 0) (AL (AD 1) BJ))) (mC (.int 400)))) _:=Ff (Pr (CJ (Pt (DK rfl) (C2 (AM rfl) CP)) (λA=>S6 W A.1 A.2.1) (λ_=>rfl) FH) (Br rfl))
  obtain⟨S1,o,s⟩:=t true (by
   simp only[AC];rw[B];simp only[AC]
   rw[wX h]) S _ _ S (Vs.start (n:=2) E)
  refine⟨S1,L2.Qs (e:=Dy 2 [.ref wn,.int g]) ?_,s⟩;unfold JD;obtain⟨y,l⟩:=sZ (Dy 2 [.ref wn,.int g]) S1;refine Qn ?_;rw[Gn o,qX rfl];exact YU (ds:=[.str y]) (CU l rfl) (by simp)
theorem kF(hw:S[wn]?=some (D4 W w))(l:Why W w g C)(q:Nat):∃S',Ei W [.ref q,.ref wn,.int g,.str kd] S=.err C S'/\Keeps S S':=by
 obtain⟨S1,o,s⟩:=iL hw l;refine⟨S1,?_,s⟩
 have A:Ir W [.ref q,.ref wn,.int g,.str kd] S=.err C S1:=by
  refine L2.Qs (e:=Dy 7 [.ref q,.ref wn,.int g,.str kd]) ?_;unfold Mr;refine Qn ?_;unfold Jr;rw[(Hr (n:=2) (f:=HF W) (m:=AL (AD 1) (AL (AD 2) BJ)) (e:=Dy 7 [.ref q,.ref wn,.int g,.str kd]) (S:=S) (ds:=[.ref wn,.int g]) (S1:=S) rfl rfl).trans o];rfl
 unfold Ei Yi;rw[A]
theorem pE(hw:S[wn]?=some (D4 W w))(o:Why W w g C):∃S',HG W [.ref wn,.int g,.str kd] S=.err C S'/\Kh W [.ref wn,.int g,.str kd] S=.err C S'/\Keeps S S':=by
 have l:Keeps S (S++[.ins W.Field []]):=Keeps.app _ _;obtain⟨s,m,A⟩:=kF (kd:=kd) (l.at hw) o S.length;refine⟨s,L2.Qs (e:=Dy 4 [.ref wn,.int g,.str kd]) ?_,L2.Qs (e:=Dy 5 [.ref wn,.int g,.str kd]) ?_,l.trans A⟩
 ·unfold OW
  exact Qn (SG (Yj (ds:=[.ref wn,.int g,.str kd]) (S1:=S) rfl rfl m))
 ·unfold SV
  exact Qn (SG (Yj (ds:=[.ref wn,.int g,.str kd]) (S1:=S) rfl rfl m))
abbrev eC(wn:Nat)(g:Int)(kd:Str)(way:Int)(a z:Option D):Lo:=[sR wn,sI g,some (.str kd),sI way,a,z]
abbrev mL(W:Wd):ME:=CM 3 (HG W) (AL (AD 0) (AL (AD 1) (AL (AD 2) BJ)))
abbrev mF(W:Wd):ME:=CM 3 (Kh W) (AL (AD 0) (AL (AD 1) (AL (AD 2) BJ)))
theorem qA(a z:Option D):mL W (eC wn g kd way a z) S=HG W [.ref wn,.int g,.str kd] S:=Hr (ds:=[.ref wn,.int g,.str kd]) (S1:=S) rfl rfl
theorem qB(a z:Option D):mF W (eC wn g kd way a z) S=Kh W [.ref wn,.int g,.str kd] S:=Hr (ds:=[.ref wn,.int g,.str kd]) (S1:=S) rfl rfl
theorem gm(a z:Option D):mB (m2 (eqD false) (AD 3) (mC (.int 0))) (eC wn g kd way a z) S=.ok (decide (way=0)) S:=VM (EN rfl rfl rfl)
theorem bz(h:(if way=0 then HG W [.ref wn,.int g,.str kd] S else Kh W [.ref wn,.int g,.str kd] S)=.ok d S'):Dg W [.ref wn,.int g,.str kd,.int way] S=.ok d S':=by
 refine L2.Ku ?_;unfold N9;rw[CC (e:=Dy 6 [.ref wn,.int g,.str kd,.int way]) (e1:=eC wn g kd way (some .non) none) (S1:=S) rfl]
 rw[CC (e1:=eC wn g kd way (some d) none) (S1:=S') (qw (by
  rw[Gn (gm _ _)]
  by_cases c:way=0
  ·rw[qX c]at h
   rw[wX c,qX rfl];exact Jk (i:=4) ((qA _ _).trans h)
  ·rw[qY c]at h
   rw[wY c,qY AH]
   exact Jk (i:=4) ((qB _ _).trans h)))]
 exact Kv rfl
theorem mY{x y:Bool}(l:C∈W.excs)(m:HP W C=some x)(o:Iy W C=some y)(s:Gz W C=some true)(A:HG W [.ref wn,.int g,.str kd] S=.err C S')(B:Kh W [.ref wn,.int g,.str kd] S=.err C S'):Dg W [.ref wn,.int g,.str kd,.int way] S=.ok (.tup [.bl x,.bl y,.bl true]) S':=by
 refine L2.Ku ?_;unfold N9;rw[CC (e:=Dy 6 [.ref wn,.int g,.str kd,.int way]) (e1:=eC wn g kd way (some .non) none) (S1:=S) rfl]
 have e2:sIf (mB (m2 (eqD false) (AD 3) (mC (.int 0)))) (CY 4 (mL W)) (CY 4 (mF W)) (eC wn g kd way (some .non) none) S=.ok (.ex C (eC wn g kd way (some .non) none)) S':=by
  rw[Gn (gm _ _)]
  by_cases c:way=0
  ·rw[wX c,qX rfl]
   exact SG ((qA _ _).trans A)
  ·rw[wY c,qY AH]
   exact SG ((qB _ _).trans B)
 rw[CC (e1:=eC wn g kd way (some (.tup [.bl x,.bl y,.bl true])) none) (S1:=S') (qy (e2:=eC wn g kd way (some (.tup [.bl x,.bl y,.bl true])) (some (.exc C))) e2 l (Jk (i:=4) (S9 (CU (aj (C:=C) rfl m) (CU (aj (C:=C) rfl o) (CU (aj (C:=C) rfl s) rfl))) (by simp))))];exact Kv rfl
theorem tabs(m:W.excs.Nodup)(B:Why W w g C):C∈W.excs/\HP W C=some (decide (¬(1<=g/\g<=(w.1:Int))))/\Iy W C=some (decide (1<=g/\g<=(w.1:Int)))/\Gz W C=some true:=by
 have s:W.TooLarge≠W.BadGuards:=by
  intro e;unfold Wd.excs at m;rw[e]at m;simp at m
 unfold HP Iy Gz Wd.excs
 rcases B with⟨rfl,h⟩ | ⟨rfl,n,l,h⟩
 ·rw[wX h,wY h]
  refine⟨by simp,by simp,?_,by simp⟩;rw[qY (by simpa using s.symm),qX (by simp)]
 ·have A:1<=g/\g<=(w.1:Int):=Cn λz=>by
   unfold HB Jv at l
   by_cases o:(1:Int)<=g
   ·rw[wX o,qX rfl,wY (λq=>z ⟨o,q⟩)]at l
    cases l
   ·rw[wY o,qY AH]at l
    cases l
  rw[wX A,wY (λz=>z A)];refine⟨by simp,?_,by simp,by simp⟩;rw[qY (by simpa using s),qX (by simp)]
end
def JZ(w:Nat×List ZPi)(g:Int)(kd:Str)(l:Int):Option (List ZLi):=if l=0 then LX w g kd else none
def JY(w:Nat×List ZPi)(g:Int)(kd:Str)(l:Int):Option (List T3):=if l=0 then none else SI w g kd
def Dz(w:Nat×List ZPi)(g:Int)(kd:Str)(l:Int):Option (Bool×Bool×Bool):=if 1<=g/\g<=(w.1:Int)then(HB w g).bind λn=>if 400 < n then some (false,true,true)else none else some (true,false,true)
theorem WQ(W:Wd)(L:W.excs.Nodup)(w:Nat×List ZPi)(g:Int)(kd:Str)(l:Int):VF (Dg W) [.z (D4 W w),.v (D.int g),.v (D.str kd),.v (D.int l)] (rN (oL (eT D.int))) (JZ w g kd l):=λv m S s A=>by
 match s,A with
 | [d1,d2,d3,d4],⟨⟨o,B,hw⟩,C,E,G,_⟩=>
  cases B;cases C;cases E;cases G;unfold JZ at m;split at m
  ·rename_i c
   obtain⟨d,H,I,J⟩:=dh W w g kd v m S [.ref o,.int g,.str kd] ⟨⟨o,rfl,hw⟩,rfl,rfl,trivial⟩;exact⟨d,H,bz (by rw[qX c];exact I),J⟩
  ·cases m
theorem WP(W:Wd)(L:W.excs.Nodup)(w:Nat×List ZPi)(g:Int)(kd:Str)(l:Int):VF (Dg W) [.z (D4 W w),.v (D.int g),.v (D.str kd),.v (D.int l)] (rN (oL (eP3 (eT D.int) D.int D.int))) (JY w g kd l):=λv m S s A=>by
 match s,A with
 | [d1,d2,d3,d4],⟨⟨o,B,hw⟩,C,E,G,_⟩=>
  cases B;cases C;cases E;cases G;unfold JY at m;split at m
  ·cases m
  ·rename_i c
   obtain⟨d,H,I,J⟩:=mU W w g kd v m S [.ref o,.int g,.str kd] ⟨⟨o,rfl,hw⟩,rfl,rfl,trivial⟩;exact⟨d,H,bz (by rw[qY c];exact I),J⟩
theorem Pv(W:Wd)(A:W.excs.Nodup)(w:Nat×List ZPi)(g:Int)(kd:Str)(m:Int):VF (Dg W) [.z (D4 W w),.v (D.int g),.v (D.str kd),.v (D.int m)] (rV (eP3 D.bl D.bl D.bl)) (Dz w g kd m):=λv l S B E=>by
 match B,E with
 | [d1,d2,d3,d4],⟨⟨G,H,hw⟩,I,J,L,_⟩=>
  cases H;cases I;cases J;cases L
  have go:∀C,Why W w g C->v=(decide (¬(1<=g/\g<=(w.1:Int))),decide (1<=g/\g<=(w.1:Int)),true)->∃d o,Dg W [.ref G,.int g,.str kd,.int m] S=.ok d o/\Keeps S o/\d=eP3 D.bl D.bl D.bl v:=λC s e=>by
   obtain⟨N,O,P,Q⟩:=tabs A s;obtain⟨o,R,T,U⟩:=pE (kd:=kd) hw s;exact⟨_,o,mY N O P Q R T,U,by rw[e];rfl⟩
  unfold Dz at l;split at l
  ·rename_i c
   obtain⟨n,X,l⟩:=BA l;split at l
   ·rename_i hb
    cases l;exact go _ (.inr ⟨rfl,n,X,hb⟩) (by rw[wX c,wY (λz=>z c)])
   ·cases l
  ·rename_i c
   cases l;exact go _ (.inl ⟨rfl,c⟩) (by rw[wX c,wY c])
def Ij(l:(Nat×List ZPi))(A:Int)(T:Str):Option (Fw Bool Unit):=
 BO ((JZ l A T (0:Int)).bind λϱ=>some (.nx ϱ)) λm=>BO ((JY l A T (1:Int)).bind λX=>some (.nx X)) λo=>BO ((((En o (λU=>some true) (λU=>some U.1)).bind λY=>Q7 m Y).bind NZ).bind λB=>some (.nx B)) λC=>BO ((((Iz (l.1:Int) A).bind λE=>some (!decide (C=E))).bind λG=>if G=true then some true else(((some m).bind NZ).bind λZ=>some (!decide (Z=m))).bind λH=>if H=true then some true else(TJ o).bind λI=>some (!decide (I=o))).bind λJ=>if J=true then some (.rt false)else some (.nx ())) λ_=>BO (if (decide (A=(l.1:Int)))=true then(if (decide ((m.length:Int)=(1:Int)))=true then((some []).bind IV).bind λL=>some (decide (o=L))else some false).bind λΑ=>some (.rt Α)else some (.nx ())) λ_=>BO ((((some []).bind IV).bind λN=>some (decide (l.2=N))).bind λO=>if O=true then((((some []).bind IV).bind λP=>some (decide (m=P))).bind λQ=>if Q=true then(En o (λs=>some true) (λs=>some (decide (s.2.1=(1:Int))))).bind λR=>some (R.all id)else some false).bind λS=>some (.rt S)else some (.nx ())) λ_=>some (.rt true)
def G1(l:(Nat×List ZPi))(m:Int)(o:Str):Option Bool:=Gg (Ij l m o)
theorem Ur(W:Wd)(J:W.excs.Nodup)(m:(Nat×List ZPi))(o:Int)(s:Str):VF (K0 W) [.z ((D4 W) m),.v (D.int o),.v (D.str s)] (rV D.bl) (G1 m o s):=by
 refine Ex (n:=6) (b:=LC W) (p:=Ij m o s) (B:=λ_=>[]) ?_;show VS [.z ((D4 W) m),.v (D.int o),.v (D.str s),.u,.u,.u] _ _ _ _;unfold LC Ij;exact(BG (Ie (CJ (Pt (DK rfl) (C2 (AM rfl) (C2 (AM rfl) (C2 (Br rfl) CP)))) (λl=>WQ W J l.1 l.2.1 l.2.2.1 l.2.2.2.1) (λ_=>rfl) JR)) (λG=>(BG (Ie (CJ (Pt (DK rfl) (C2 (AM rfl) (C2 (AM rfl) (C2 (Br rfl) CP)))) (λE=>WP W J E.1 E.2.1 E.2.2.1 E.2.2.2.1) (λ_=>rfl) JR)) (λH=>(BG (Ie (Xu (HN (bv (Dk rfl) (HN (Cy (DR (VI.k (Pn rfl)) (λL=>Gb) (λL=>(qh (AM rfl)))))))))) (λA=>(BG (Gk (B:=(λ(_:Unit)=>[.z ((D4 W) m),.v (D.int o),.v (D.str s),.y ((oL (eT D.int)) G),.y ((oL (eP3 (eT D.int) D.int D.int)) H),.y ((oL (eT D.int)) A)])) (bx (Ff (Zu (Mj Co) (Dk rfl) (HN (CJ (C2 (Ga (DK rfl)) (C2 (AM rfl) CP)) (λC=>X5 W C.1 C.2.1) (λ_=>rfl) JR)))) (bx (Ff (Zu (Mj Co) (HN (Xu (Dk rfl))) (Dk rfl))) (Ff (Zu (OV (Mj Co) Co Co) (HN (gt (Dk rfl))) (Dk rfl))))) (E8 (Br rfl)) (HM (.refl _))) (λ_=>(BG (Gk (B:=(λ(_:Unit)=>[.z ((D4 W) m),.v (D.int o),.v (D.str s),.y ((oL (eT D.int)) G),.y ((oL (eP3 (eT D.int) D.int D.int)) H),.y ((oL (eT D.int)) A)])) (Ff (IE Co IR (AM rfl) (Ga (DK rfl)))) (E8 (WO (IE Co IR (Pp (Dk rfl)) (Br rfl)) (gz (OV (Mj Co) Co Co) (Dk rfl) (HN (Cy (Ev Eu)))))) (HM (.refl _))) (λ_=>(BG (Gk (B:=(λ(_:Unit)=>[.z ((D4 W) m),.v (D.int o),.v (D.str s),.y ((oL (eT D.int)) G),.y ((oL (eP3 (eT D.int) D.int D.int)) H),.y ((oL (eT D.int)) A)])) (Ff (IE (Mj (kM Co Co)) jE (mH (DK rfl)) (O2 Eu))) (E8 (WO (gz (Mj Co) (Dk rfl) (HN (Cy (Ev Eu)))) (qq (bo (HN (Cy (DR (VI.k (Pn rfl)) (λI=>Gb) (λI=>(IE Co IR (qg (AM rfl)) (Br rfl)))))))))) (HM (.refl _))) (λ_=>(E8 (Br rfl))))))))))))))
def cI(s:ZLi):Option (Fw Bool Unit):=
 BO ((CL s (0:Int)).bind λx7=>some (.nx x7)) λG=>BO (some (.nx (((2:Int)+(G % 5))+(if (decide (((G / 84) % 8)=(1:Int)))=true then 1 else 0)))) λv8=>BO ((Kg s (3:Int) v8).bind λyR=>some (.nx yR)) λI=>BO (if (decide (((G / 7) % 6)=(5:Int)))=true then EB (λJ=>J) (some (.nx ((11:Int)+((G / 84) % 50))))else some (.nx v8)) λl=>BO (((Im s I).bind λϙ=>gj l ϙ).bind λL=>some (.nx L)) λN=>BO ((CL s (1:Int)).bind λO=>some (.nx O)) λm=>BO ((((some (("one" : Str) :: (("all" : Str) :: []))).bind IV).bind λP=>((CL s (2:Int)).bind λQ=>some (Q % 2)).bind λR=>atI P R).bind λS=>some (.nx S)) λH=>BO (((((((some ((3:Int) :: ((5:Int) :: []))).bind IV).bind λT=>atI T (if (decide (l < (6:Int)))=true then 1 else 0)).bind λA=>some (if A < l then A else l)).bind λU=>Ye (m / 9) U).bind λX=>some ((1:Int)+X)).bind λY=>some (.nx Y)) λZ=>BO (if (decide ((m % 9)=(7:Int)))=true then EB (λv93=>v93) ((((some ((0:Int) :: (((-(1:Int)) - (m / 9)) :: ((l+(1:Int)) :: (((l+(1:Int))+(m / 9)) :: []))))).bind IV).bind λB=>atI B ((m / 9) % 4)).bind λϛ=>some (.nx ϛ))else some (.nx Z)) λC=>BO ((if (decide ((4:Int) < (m % 9)))=true then some (decide ((10:Int) < l))else some false).bind λϜ=>if Ϝ=true then EB (λG'=>G') (((Ye (m / 9) l).bind λϝ=>some ((1:Int)+ϝ)).bind λϞ=>some (.nx Ϟ))else some (.nx C)) λo=>BO ((if (decide (o < (1:Int)))=true then some true else some (decide (l < o))).bind λϟ=>if ϟ=true then EB (λJ'=>J') (some (.nx (true,false,true)))else EB (λMy=>My) (((Ja l o).bind λϠ=>some (decide ((400:Int) < Ϡ))).bind λϡ=>if ϡ=true then EB (λMO=>MO) (some (.nx (false,true,true)))else(if (decide ((10:Int) < l))=true then if (decide ((1:Int) < o))=true then if (decide ((12:Int) < l))=true then some true else some (decide (H=("all" : Str)))else some false else some false).bind λE=>if E=true then some (.rt true)else(G1 N o H).bind λϢ=>some (.rt Ϣ))) λzf=>(((Dz N o H (0:Int)).bind λϣ=>some (decide (ϣ=zf))).bind λϤ=>if Ϥ=true then(Dz N o H (1:Int)).bind λϥ=>some (decide (ϥ=zf))else some false).bind λϦ=>some (.rt Ϧ)
def iz(l:ZLi):Option Bool:=Gg (cI l)
theorem ux(W:Wd)(U:W.excs.Nodup)(m:ZLi):VF (cp W) [.v (eF m)] (rV D.bl) (iz m):=by
 refine Ex (n:=9) (b:=kt W) (p:=cI m) (B:=λ_=>[]) ?_;show VS [.v (eF m),.u,.u,.u,.u,.u,.u,.u,.u] _ _ _ _;unfold kt cI;exact(BG (DX (CJ (C2 (AM rfl) (C2 (Br rfl) CP)) (λZ=>GC W Z.1 Z.2.1) (λ_=>rfl) FH)) (λA=>(BG (DX (E9 (E9 (Br rfl) (Ig rfl (AM rfl))) (gy (IE Co IR (Ig rfl (Gy rfl (AM rfl))) (Br rfl))))) (λv8=>(BG (Ie (CJ (C2 (AM rfl) (C2 (Br rfl) (C2 (AM rfl) CP))) (λs=>X4 W s.1 s.2.1 s.2.2.1) (λ_=>rfl) JR)) (λl=>(BG (Gk (B:=(λ(X:Int)=>[.v (eF m),.v (D.int A),.v (D.int X),.y ((oL (eP D.int D.int)) l),.u,.u,.u,.u,.u])) (Ff (IE Co IR (Ig rfl (Gy rfl (AM rfl))) (Br rfl))) (DJ (DX (E9 (Br rfl) (Ig rfl (Gy rfl (AM rfl))))) (λv33=>(.refl _))) (HM (.refl _))) (λC=>(BG (Ie (qf (AM rfl) (HN (CJ (C2 (AM rfl) (Pt (Dk rfl) CP)) (λE=>Us W E.1 E.2.1) (λ_=>rfl) JR)))) (λG=>(BG (DX (CJ (C2 (AM rfl) (C2 (Br rfl) CP)) (λH=>GC W H.1 H.2.1) (λ_=>rfl) FH)) (λI=>(BG (DX (IM (HN (Cy (Ev (FZ (Br rfl) (FZ (Br rfl) Eu))))) (Ig rfl (CJ (C2 (AM rfl) (C2 (Br rfl) CP)) (λJ=>GC W J.1 J.2.1) (λ_=>rfl) FH)))) (λL=>(BG (DX (E9 (Br rfl) (Zv (Gy rfl (AM rfl)) (bq (AM rfl) (IM (HN (Cy (Ev (FZ (Br rfl) (FZ (Br rfl) Eu))))) (gy (gv (AM rfl) (Br rfl)))))))) (λv72=>(BG (Gk (B:=(λ(N:Int)=>[.v (eF m),.v (D.int A),.v (D.int C),.y ((oL (eP D.int D.int)) l),.y ((D4 W) G),.v (D.int I),.v (D.str L),.v (D.int N),.u])) (Ff (IE Co IR (Ig rfl (AM rfl)) (Br rfl))) (DJ (DX (IM (HN (Cy (Ev (FZ (Br rfl) (FZ (Jj (WL (Br rfl)) (Gy rfl (AM rfl))) (FZ (E9 (AM rfl) (Br rfl)) (FZ (E9 (E9 (AM rfl) (Br rfl)) (Gy rfl (AM rfl))) Eu))))))) (Ig rfl (Gy rfl (AM rfl))))) (λv93=>(.refl _))) (HM (.refl _))) (λs121=>(BG (Gk (B:=(λ(O:Int)=>[.v (eF m),.v (D.int A),.v (D.int C),.y ((oL (eP D.int D.int)) l),.y ((D4 W) G),.v (D.int I),.v (D.str L),.v (D.int O),.u])) (Sv (Ff (Pr (Ig rfl (AM rfl)) (Br rfl))) (Ff (Pr (AM rfl) (Br rfl)))) (DJ (DX (E9 (Br rfl) (Zv (Gy rfl (AM rfl)) (AM rfl)))) (λG'=>(.refl _))) (HM (.refl _))) (λY=>(BG (Gk (B:=(λ(P:(Bool×Bool×Bool))=>[.v (eF m),.v (D.int A),.v (D.int C),.y ((oL (eP D.int D.int)) l),.y ((D4 W) G),.v (D.int I),.v (D.str L),.v (D.int Y),.v ((eP3 D.bl D.bl D.bl) P)])) (bx (Ff (gv (AM rfl) (Br rfl))) (Ff (Pr (AM rfl) (AM rfl)))) (DJ (DX (Xt (Br rfl) (Br rfl) (Br rfl))) (λJ'=>(.refl _))) (DJ (Gk (B:=(λ(Q:(Bool×Bool×Bool))=>[.v (eF m),.v (D.int A),.v (D.int C),.y ((oL (eP D.int D.int)) l),.y ((D4 W) G),.v (D.int I),.v (D.str L),.v (D.int Y),.v ((eP3 D.bl D.bl D.bl) Q)])) (Ff (Pr (CJ (C2 (AM rfl) (C2 (AM rfl) CP)) (λo=>WR W o.1 o.2.1) (λ_=>rfl) FH) (Br rfl))) (DJ (DX (Xt (Br rfl) (Br rfl) (Br rfl))) (λMO=>(.refl _))) (Gk (B:=(λ(R:(Bool×Bool×Bool))=>[.v (eF m),.v (D.int A),.v (D.int C),.y ((oL (eP D.int D.int)) l),.y ((D4 W) G),.v (D.int I),.v (D.str L),.v (D.int Y),.v ((eP3 D.bl D.bl D.bl) R)])) (Sv (Ff (Pr (AM rfl) (Br rfl))) (Sv (Ff (Pr (AM rfl) (Br rfl))) (bx (Ff (Pr (AM rfl) (Br rfl))) (Ff (IE cw jF (AM rfl) (Br rfl)))))) (E8 (Br rfl)) (E8 (CJ (Pt (Dk rfl) (C2 (AM rfl) (C2 (AM rfl) CP))) (λϧ=>Ur W U ϧ.1 ϧ.2.1 ϧ.2.2.1) (λ_=>rfl) FH)))) (λMy=>(.refl _)))) (λzf=>(E8 (WO (IE (OV RA RA RA) Yc (CJ (Pt (Dk rfl) (C2 (AM rfl) (C2 (AM rfl) (C2 (Br rfl) CP)))) (λS=>Pv W U S.1 S.2.1 S.2.2.1 S.2.2.2.1) (λ_=>rfl) FH) (AM rfl)) (IE (OV RA RA RA) Yc (CJ (Pt (Dk rfl) (C2 (AM rfl) (C2 (AM rfl) (C2 (Br rfl) CP)))) (λT=>Pv W U T.1 T.2.1 T.2.2.1 T.2.2.2.1) (λ_=>rfl) FH) (AM rfl))))))))))))))))))))))))))
open L2 L4
open Srt (ltL)
theorem jS(a:ZLi):ltL a a=false:=by
 cases e:ltL a a with
 | false=>rfl
 | true=>exact(Srt.JA _ _ e).symm.trans e |>.symm
theorem cS{r q:ZLi}(a b:ZLi)(l:r.length=q.length)(h:ltL r q=true):ltL (r++a) (q++b)=true:=by
 rw[Srt.SL _ _ l,qY (by rintro rfl;rw[jS]at h;cases h)];exact h
theorem qJ(w:Nat):∀k:Nat,(TT w k).Pairwise (λa b=>ltL a b=true)
 | 0=>HK _ _
 | k+1=>by
  have hb:=ZB w k;refine Zl.mpr ⟨λs _=>?_,(qJ w k).imp_of_mem λ{s t} o A h x l y m=>?_⟩
  ·unfold ext
   rw[Bl]
   refine ZN.imp λ{i j} h=>?_
   rw[Srt.SL _ _ rfl,qX rfl];show(if Ez s+i=Ez s+j then _ else decide (Ez s+(i:Int) < Ez s+j))=true;rw[qY (by lia)];exact wX (by lia)
  ·unfold ext at l m
   obtain⟨i,_,rfl⟩:=BV.mp l;obtain⟨j,_,rfl⟩:=BV.mp m;exact cS _ _ ((hb s o).2.2.trans (hb t A).2.2.symm) h
theorem oR{w g:Nat}(C:w+g<=60)(E:ch (w+g) g<=400):Iz ((w+g:Nat):Int) (g:Int)=some (TT w g):=by
 refine Ok.is ?_;unfold Iz Kd;simp only[AC,pC,tw,BY];rw[MH (by lia) (by lia),Az];simp only[AC];refine OkF.out (OkF.seq (OkF.for (λl (s:List ZLi)=>s=TT w l.length) rfl ?_) ?_)
 ·rintro l x s S G rfl
  obtain⟨rfl,T⟩:=P2 G;have hb:=ZB w l.length;have m:(TT w (l.length+1)).length<=400:=Aw (bL w g (l.length+1) (by lia)) E;refine OkF.seq (OkF.for (λo (s:List ZLi)=>s=o.flatMap (ext w l.length)) rfl ?_) ?_
  ·rintro o t s H I rfl
   obtain⟨U,X,J⟩:=hb t H
   have L:(if (!decide (t=[]))=true then EB (λA=>A) (((atI t (-(1:Int))).bind λN=>some (N+(1:Int))).bind λO=>some (.nx O))else some (.nx (0:Int)))=(some (.nx (Ez t)):Option (Fw (List ZLi) Int)):=by
    rcases Fm t with rfl | ⟨P,y,rfl⟩
    ·rfl
    ·rw[Fn,show(!decide (P++[y]=[]))=true by simp,qX rfl,show(-(1:Int)) = -1 from rfl,Y9,IS]
     rfl
   rw[L];simp only[BY];rw[Wi (by lia) (by lia) (by lia) (by lia)];simp only[AC]
   have B:(o.flatMap (ext w l.length)).length+(ext w l.length t).length<=400:=by
    obtain⟨r,Q⟩:=I;refine Aw ?_ m;show _<=((TT w l.length).flatMap (ext w l.length)).length;rw[<-Q];simp
   have R:(((w+g:Nat):Int) - g+(0+(l.length:Int))+1 - Ez t).toNat=(w+l.length+1 - Ez t:Int).toNat:=by congr 1;lia
   rw[R,FL (f:=λx=>t++[x]) (by rw[Bx];lia) λx _=>QM (by rw[J];simp;lia)];simp only[AC];rw[<-PR,QM (by lia)];refine .nx ?_;simp
  ·rintro s rfl
   refine .nx ?_;rw[Ak,BU];rfl
 ·rintro s rfl
  rw[Bx];exact .rt rfl
theorem iR{l:List ZLi}(h:l.Pairwise (λa b=>ltL a b=true)):KY l=l:=LS (HA l) (NY l) (h.imp λh=>Srt.JA _ _ h)
theorem iQ{l:List T3}{m:Nat}(o:∀t∈l,t.1.length=m)(h:l.Pairwise (λa b=>ltL a.1 b.1=true)):RX l=l:=by
 refine(L8 l).eq_of_pairwise (λa b s hb A B=>?_) (YD l) (h.imp_of_mem λ{a b} s hb h=>Srt.JA _ _ (cS _ _ ((o a s).trans (o b hb).symm) h));exact jh ((o a ((L8 l).mem_iff.mp s)).trans (o b hb).symm) (Srt.Wy _ _ B A)
section
variable{o g:Nat}{us:List ZPi}{kd:Str}
theorem kK:(DN 0 (sts o g).length).map (evN o g)=sts o g:=by
 unfold DN;rw[BF]
 apply Fy
 intro i;rw[Ac]
 by_cases h:i < (sts o g).length
 ·rw[Cu h,Ap h]
  show some (evN o g (0+(i:Int)))=_;rw[ul,XF (Ap h)]
 ·rw[Bo (l:=B1 _) (by rw[RK];lia),Bo (by lia)]
  rfl
theorem t5(z:Sz o g){n:Int}(l:n∈DN 0 (sts o g).length):Stg o g (evN o g n):=by
 have:evN o g n∈sts o g:=by
  have:=Ji (f:=evN o g) l;rwa [kK]at this
 exact(Gc z).mp this
theorem Yv{r:ZLi}(m:Stg o o r){c:Int}(B:0<=c/\c < o):c∈r:=Cn λA=>by
 have:=He (l:=c :: r) (k:=DN 0 o) (Bu.mpr ⟨A,X6 m.2.2⟩) λy s=>by
  rw[Ch]
  rcases Ai.mp s with rfl | s
  ·lia
  ·have:=m.2.1 y s;lia
 rw[Aj,m.1,Bx]at this
 lia
theorem oB(ho:1<=o)(A:Sz o o):(sts o o).length=1:=by
 have B:sts o o≠[]:=λe=>by
  have:DN 0 o∈sts o o:=(Gc A).mpr ⟨Bx _ _,λx s=>by have:=Ch.mp s;lia,MF _ _⟩;rw[e]at this;cases this
 have C:∀r∈sts o o,r=DN 0 o:=λr m=>by
  have m:=(Gc A).mp m
  refine Nh m.2.2 (MF _ _) λx=>⟨λs=>?_,λs=>?_⟩
  ·rw[Ch];have:=m.2.1 x s;lia
  ·exact Yv m (by have:=Ch.mp s;lia)
 have:=He (l:=sts o o) (k:=[DN 0 o]) (Z8 A) λr m=>by rw[C r m];exact M1 _
 have:=Pe.mpr B
 simp at *
 lia
theorem kA(B:g < o){r:ZLi}(m:Stg o g r):∃c:Int,(0<=c/\c < o)/\c∉r:=Cn λs=>by
 have:=He (l:=DN 0 o) (k:=r) (X6 (MF _ _)) λy A=>Cn λz=>s ⟨y,by have:=Ch.mp A;lia,z⟩
 rw[m.1,Bx]at this
 lia
theorem iT(h:PY o us)(z:Sz o g):G1 (o,us) g kd=some true:=by
 have hl:=Lz z;have zl:=z.le;have sm:=z.sm;obtain⟨T,B,F,B0,R,e2⟩:=t8 (kd:=kd) h z;have up:(sts o g).Pairwise (λa b=>ltL a b=true):=qJ _ _
 have s:Iz (o:Int) (g:Int)=some (sts o g):=by
  have:=oR (w:=o - g) (g:=g) (by lia) (by rw[FR zl];exact z.fw);rwa [FR zl]at this
 generalize Z:(sts o g).length=N at *
 have H:∀n∈DN 0 N,Stg o g (evN o g n):=λn m=>t5 z (by rw[Z];exact m)
 have A:(DN 0 N).map (evN o g)=sts o g:=by rw[<-Z];exact kK
 generalize hP:(λn=>(An T n).isSome)=P at *
 have C:∀n,P n=(An T n).isSome:=λn=>by rw[<-hP]
 have R:LX (o,us) g kd=some (((DN 0 N).filter λn=>!P n).map (evN o g)):=by rw[R];congr 2;exact List.filter_congr λn _=>by rw[C]
 generalize I:((DN 0 N).filter λn=>!P n).map (evN o g)=stay at R;generalize S:(((DN 0 N).filter P).map λn=>(evN o g n,(An T n).getD (0,0)))=gone at e2
 have J:gone.map (·.1)=((DN 0 N).filter P).map (evN o g):=by rw[<-S,BF];rfl
 have l1:stay.length<=400:=by
  rw[<-I,AF];have:=ES (λn=>!P n) (DN 0 N);rw[Bx]at this
  lia
 have l2:gone.length<=400:=by
  rw[<-S,AF];have:=ES P (DN 0 N);rw[Bx]at this
  lia
 have L:stay.Sublist (sts o g):=by rw[<-I,<-A];exact Xb _ Ph
 have O:(gone.map (·.1)).Sublist (sts o g):=by rw[J,<-A];exact Xb _ Ph
 have ne:∀r∈sts o g,(!r.isEmpty)=true:=λr Q=>by
  have:=((Gc z).mp Q).1;have h1:=z.h1
  cases r with
  | nil=>simp at this;lia
  | cons=>rfl
 have pm:(stay++gone.map (·.1)).Perm (sts o g):=by
  rw[J,<-I,<-Bv,<-A];refine List.Perm.map _ (OG.trans (List.filter_append_perm P _))
 have s1:NZ (stay++gone.map (·.1))=some (sts o g):=by
  unfold NZ;rw[qX (E4.mpr λr Q=>ne r (pm.mem_iff.mp Q))];rw[LS ((HA _).trans pm) (NY _) (up.imp λh=>Srt.JA _ _ h)]
 have s2:NZ stay=some stay:=by
  unfold NZ;rw[qX (E4.mpr λr Q=>ne r (L.mem Q)),iR (up.sublist L)]
 have gl:∀t∈gone,t.1.length=g:=λt E=>((Gc z).mp (O.mem (Ji E))).1
 have s3:TJ gone=some gone:=by
  unfold TJ
  rw[qX (by
   intro t E;rw[gl t E]
   cases gone with
   | nil=>cases E
   | cons a l=>exact(gl a AW).symm),iQ gl (Bl.mp (up.sublist O))]
 unfold G1 Ij;rw[show JZ (o,us) g kd 0=some stay from(qX rfl).trans R,show JY (o,us) g kd 1=some gone from(qY (by decide)).trans e2];simp only[AC,BY,pC];rw[FL (f:=λx:T3=>x.1) (by lia) λx _=>rfl];simp only[AC];rw[QM (by rw[AF];lia)];simp only[AC];rw[s1];simp only[AC,BY];rw[s];simp only[AC];rw[s2,s3];simp only[AC,decide_true,Xe,Cj,if_false,BY]
 by_cases c1:g=o
 ·subst c1
  rw[wX rfl,qX rfl]
  have no:∀n∈DN 0 N,P n=false:=λn m=>by
   rw[C]
   cases U:An T n with
   | none=>rfl
   | some y=>
    obtain⟨G,n1⟩:=Ch.mp m;have:=(F.ok n.toNat y (by rw[BH G];exact U)).2.1;obtain⟨q1,q2⟩:=kg this;rw[BH G]at q2;exact zX (Yv (H n m) q1) q2
  have g0:gone=[]:=by
   rw[<-S,ZO.mpr λn m=>by rw[no n m];exact AH];rfl
  have xu:stay.length=1:=by
   rw[<-I,dW.mpr λn m=>by rw[no n m];rfl,AF,Bx,<-Z];exact oB z.h1 z
  rw[g0,xu];rfl
 rw[wY (show ¬((g:Int)=(o:Int)) by lia),qY AH];simp only[BY]
 by_cases X:us=[]
 ·rw[wX X,qX rfl]
  have al:∀n∈DN 0 N,∃y,An T n=some y/\y.1=1:=λn m=>by
   obtain⟨G,n1⟩:=Ch.mp m;obtain⟨c,hc1,yZ⟩:=kA (by lia) (H n m)
   have Y:c∈clS o g n.toNat:=by
    unfold clS;rw[BH G];exact Bp.mpr ⟨Ch.mpr ⟨hc1.1,by lia⟩,by simpa using yZ⟩
   cases U:An T n with
   | none=>
    obtain⟨j,hj,_⟩:=F.no n.toNat (by lia) (by rw[BH G];exact U) c Y;exact zX hj (B0 X _ _ _ Y)
   | some y=>
    refine⟨y,rfl,?_⟩;have q:=F.ok n.toNat y (by rw[BH G];exact U);have:=q.1
    exact Cn λϬ=>by
     obtain⟨j,hj,_⟩:=q.2.2.2.2 (by lia) c Y;exact B0 X _ _ _ Y hj
  have g0:stay=[]:=by
   rw[<-I,ZO.mpr λn m=>by
    obtain⟨y,hy,_⟩:=al n m;rw[C,hy]
    simp]
   rfl
  rw[g0,wX rfl,qX rfl,FL (f:=λx:T3=>decide (x.2.1=1)) (by lia) λx _=>rfl]
  have all1:(gone.map λx:T3=>decide (x.2.1=1)).all id=true:=E4.mpr λb hb=>by
   obtain⟨t,E,rfl⟩:=BV.mp hb;rw[<-S]at E;obtain⟨n,m,rfl⟩:=BV.mp E;obtain⟨y,hy,y1⟩:=al n (Bp.mp m).1;rw[hy];exact wX y1
  simp only[AC];rw[all1];rfl
 ·rw[wY X,qY AH]
  rfl
end
open L2 L4
theorem PZ.mono{o o':Nat}{ts:List ZPi}(h:PZ o ts)(l:o<=o'):PZ o' ts:=⟨λx m=>by have:=h.rg x m;lia,h.nd,h.ln,h.dg⟩
theorem wQ{o:Nat}{ts:List ZPi}(h:PZ o ts)(L:1<=o)(ho:o<=60)(g:Int)(kd:Str)(x:Bool) :
  Gg (σ:=Unit) (BO ((if (decide (g < (1:Int)))=true then some true else some (decide ((o:Int) < g))).bind λB=>if B=true then EB (λC=>C) (some (.nx (true,false,true)))else EB (λE=>E) (((Ja (o:Int) g).bind λG=>some (decide ((400:Int) < G))).bind λH=>if H=true then EB (λI=>I) (some (.nx (false,true,true)))else
   if x=true then some (.rt true)else(G1 (o,Ix ts) g kd).bind λϢ=>some (.rt Ϣ))) λs=>(((Dz (o,Ix ts) g kd (0:Int)).bind λϣ=>some (decide (ϣ=s))).bind λϤ=>if Ϥ=true then(Dz (o,Ix ts) g kd (1:Int)).bind λϥ=>some (decide (ϥ=s))else some false).bind λϦ=>some (.rt Ϧ))=some true:=by
 have J:=h.ties ho
 by_cases c:1<=g/\g<=(o:Int)
 ·obtain⟨k,rfl⟩:=ZQ (show 0<=g by lia)
  rw[wY (show ¬(k:Int) < 1 by lia),qY AH,wY (show ¬(o:Int) < (k:Int) by lia)];simp only[AC,Cj,if_false];rw[fb ho (by lia)];simp only[AC]
  by_cases m:(400:Int) < (ch o k:Int)
  ·rw[wX m,qX rfl]
   have t:∀l,Dz (o,Ix ts) k kd l=some (false,true,true):=λl=>by
    unfold Dz;rw[qX c,jM (by lia) (by lia) ho];exact qX m
   rw[t,t];rfl
  ·rw[wY m,qY AH,iT J ⟨by lia,by lia,ho,by lia⟩]
   cases x <;> rfl
 ·have t:∀l,Dz (o,Ix ts) g kd l=some (true,false,true):=λl=>qY c
  have e:(if (decide (g < (1:Int)))=true then some true else some (decide ((o:Int) < g)))=some true:=by
   by_cases A:g < 1
   ·rw[wX A,qX rfl]
   ·rw[wY A,qY AH,wX (show(o:Int) < g by lia)]
  rw[e,t,t];rfl
theorem v4(ns:ZLi)(S:ns.length<=63):iz ns=some true:=by
 unfold iz cI;rw[show CL ns 0=some (ns.getD 0 0)from UT ns 0,show CL ns 1=some (ns.getD 1 0)from UT ns 1,show CL ns 2=some (ns.getD 2 0)from UT ns 2];simp only[AC,BY];generalize ns.getD 0 0=s;generalize ns.getD 1 0=c;generalize ns.getD 2 0=T
 obtain⟨A,U,X,H⟩:∃A:Nat,(2:Int)+s % 5+(if decide (s / 84 % 8=1)=true then 1 else 0)=(A:Int)/\2<=A/\A < 8:=by
  refine⟨((2:Int)+s % 5+(if decide (s / 84 % 8=1)=true then 1 else 0)).toNat,?_,?_,?_⟩ <;> split <;> omega
 rw[U];obtain⟨P,eP⟩:=q9 ns S 3 (by lia) X H;rw[show((3:Nat):Int)=3 from rfl]at eP;rw[eP];simp only[AC,BY];have C:=mZ H P;generalize (prs A).filter P=ts at C
 obtain⟨o,Y,I,J,Z⟩:∃o:Nat,(if decide (s / 7 % 6=5)=true then EB (λE=>E) (some (.nx ((11:Int)+s / 84 % 50)))else some (.nx (A:Int)))=(some (.nx (o:Int)):Option (Fw Bool Int))/\1<=o/\o<=60/\A<=o:=by
  by_cases q:s / 7 % 6=5
  ·rw[wX q,qX rfl]
   refine⟨((11:Int)+s / 84 % 50).toNat,?_,by omega,by omega,by omega⟩;rw[BH (by omega)];rfl
  ·rw[wY q,qY AH]
   exact⟨A,rfl,by lia,by lia,AO _⟩
 rw[Y];simp only[BY];have L:=C.mono Z;obtain⟨hs,eh,hh⟩:=ju ns (ts:=ts) (by have:=C.ln;lia);rw[eh];simp only[AC];rw[L.web I J hh];simp only[AC,BY];rw[XC (show[("one" : Str), "all"].length<=1000000 by decide),XC (show[(3:Int),5].length<=1000000 by decide),XC (show[(0:Int),-1 - c / 9,(o:Int)+1,(o:Int)+1+c / 9].length<=1000000 by simp)];simp only[AC];obtain⟨N,O,-⟩:=XS (l:=[("one" : Str), "all"]) T (by simp);rw[show(([("one" : Str), "all"].length:Nat):Int)=2 from rfl]at O;rw[O];simp only[AC,BY]
 obtain⟨m,em,m0⟩:∃m:Int,atI [(3:Int),5] (if decide ((o:Int) < 6)=true then 1 else 0)=some m/\0 < m:=by
  split
  ·exact⟨5,rfl,by decide⟩
  ·exact⟨3,rfl,by decide⟩
 rw[em];simp only[AC];rw[Wv (show 0 < if m < (o:Int)then m else(o:Int) by split <;> lia)];simp only[AC,BY];generalize 1+c / 9 % (if m < (o:Int)then m else(o:Int))=Q
 obtain⟨B,e2⟩:∃B:Int,(if decide (c % 9=7)=true then EB (λG=>G) ((atI [(0:Int),-1 - c / 9,(o:Int)+1,(o:Int)+1+c / 9] (c / 9 % 4)).bind λϛ=>some (.nx ϛ))else some (.nx Q))=(some (.nx B):Option (Fw Bool Int)):=by
  split
  ·obtain⟨y,R,-⟩:=XS (l:=[(0:Int),-1 - c / 9,(o:Int)+1,(o:Int)+1+c / 9]) (c / 9) (by simp)
   rw[show(([(0:Int),-1 - c / 9,(o:Int)+1,(o:Int)+1+c / 9].length:Nat):Int)=4 from rfl]at R;rw[R];exact⟨y,rfl⟩
  ·exact⟨Q,rfl⟩
 rw[e2];simp only[BY]
 obtain⟨g,e3⟩:∃g:Int,((if decide ((4:Int) < c % 9)=true then some (decide ((10:Int) < (o:Int)))else some false).bind λϜ=>if Ϝ=true then EB (λG'=>G') (((Ye (c / 9) (o:Int)).bind λϝ=>some ((1:Int)+ϝ)).bind λϞ=>some (.nx Ϟ))else some (.nx B))=(some (.nx g):Option (Fw Bool Int)):=by
  rw[Wv (show(0:Int) < (o:Int) by lia)]
  have:∃b,(if decide ((4:Int) < c % 9)=true then some (decide ((10:Int) < (o:Int)))else some false)=some b:=by split <;> exact⟨_,rfl⟩
  obtain⟨b,eb⟩:=this;rw[eb];cases b
  ·exact⟨B,rfl⟩
  ·exact⟨_,rfl⟩
 rw[e3];simp only[BY]
 obtain⟨x,ex⟩:∃x:Bool,(if decide ((10:Int) < (o:Int))=true then if decide ((1:Int) < g)=true then if decide ((12:Int) < (o:Int))=true then some true else some (decide (N=("all" : Str)))else some false else some false)=some x:=by
  split
  ·split
   ·split <;> exact⟨_,rfl⟩
   ·exact⟨_,rfl⟩
  ·exact⟨_,rfl⟩
 rw[ex];exact wQ L I J g N x
theorem good(W:Wd)(l:W.excs.Nodup)(ns:ZLi)(m:ns.length<=63):∃S',cp W [.fro (ns.map D.int)] []=.ok (.bl true) S':=by
 obtain⟨d,S',o,s,rfl⟩:=ux W l ns true (v4 ns m) [] [.fro (ns.map D.int)] ⟨rfl,trivial⟩;exact⟨S',o⟩
end M
structure PySem.W.Fast:Prop where(tw1203855786295690233 tw1552475295988918280 tw14496256753094628814 tw4317509632979256095 tw7654061272067660109 tw10733608132838856597 tw7545027651448431299 tw12815068260340857091 tw17340918667545013414 tw15937344522307239781 tw4782131914515048457 tw15605620791767215078 tw14012444918849867357 tw12229026986643314508 tw11308684860391730660 tw15196504306060759320 tw3271305052315148587 tw8043083353696822415 tw13569356031703445209 tw10098820196033981815 tw2570931858616074204 tw13906520831764831357 tw3084960274184313090 tw11550570810881390737 tw11484686072829437250 tw15393888048066984623 tw13555948537201403475 tw8029421103920380146 tw18314711122286867675 tw12150443523180863107 tw11669084402270020303 tw14737348951458130883 tw3188382640415569636 tw12731893204538465472 tw212903424841001905 tw5993824438563266315 tw3488572345088278736 tw11953431683636885577 tw10393770782846962405 tw11201261534170390452 tw9479044620425310653 tw11182507720859607855 tw6664385221406610298 tw4121876306679181529 tw14055928210036840333 tw14391110760388901027 tw15623210597620645423 tw11246814561241353649 tw17860077621786593570 tw9838607259789214508 tw6508108932585663740 tw16409057689119356596 tw11945308299360991041 tw9357733060063867244 tw138507501840049053 tw9925547647130986116 tw8315629104060535446 tw14348544571511402740 tw1777917705736195391 tw12423567630674732018 tw13849453081669838616 tw16150951007455714301 tw6496270527750868096 tw14949586461332051173 tw17272225238149068171 tw13346704675357323685 tw11820997283388951228 tw11233285797694100781 tw2742551067375360015 tw17191032522809924589 tw8890271681945482822 tw11868038204493662622 tw17049756959526207432 tw18160161679590890327 tw7832822754294981936 tw8679539992833402655 tw13615714668368387228 tw1513146565810585215 tw1942808842399863314 tw6104040115675594525 tw6926554195909933612 tw9244235799770622109 tw8205799161125736975 tw3550034688013118083 tw165169322261430244 tw17220798447637875712 tw3000637287192755256 tw15962635537992385939 tw5018899117213787180 tw4753339695168575430 tw1363895452473871491 tw1652851212418327012 tw10781421081639456340 tw7097332302977739408 tw17998205407234882138 tw11595312966322113469 tw14507695406764023318 tw13858952194222070076 tw10594320237429585414 tw5502114336432902065 tw7015277628541934180 tw1718959727852761704 tw11828428325132655365 tw10483652196705807220 tw4761328177850408902 tw14184134882458677523 tw3602256416443163201 tw12660127526047696918 tw12978110132133695671 tw11474697437635042080 tw5205407633817417717 tw10993328230367972444 tw17495968903742643574 tw14680196690545489649 tw8341600526976222750 tw12341754134020595645 tw12260399135635945625 tw17445658761089112813 tw9238091266286963112 tw9224393128715824124 tw8430061782927604354:True)
namespace M
open L2 PySem.W
theorem uG{l:OpenLaw}{w:CH}{K:Frag}{h:DA}{C:Str->Option AI}{fa:AT}(X:K.In h)(G:h.Ns BN C)(E:C "law" = some (.ref fa))
  {f1 f2 f3 f4 f5 f6 f7 f8 f9 H I J L N O P Q R S U Y Z f23 f24 f25 f26 f27 f28 f29 f30 f31 f32 f33 f34 f35 B o tx th A m:AT} {xJ xr:Tok}
  (o_Web:ClsAt K "Web" A)
  (o_Field:ClsAt K "Field" m)
  (a_GuardError:nsIn K BN "GuardError" = some (some (.ref o)))
  (a_TooLarge:nsIn K BN "TooLarge" = some (some (.ref tx)))
  (a_BadGuards:nsIn K BN "BadGuards" = some (some (.ref th)))
  (d1:EO K "checked_ties" Jn f1)
  (d2:EO K "near_sets_of" Jl f2)
  (d4:EO K "refuse_no_place" HR f4)
  (d5:EO K "near" aH f5)
  (d6:EO K "takes_of" O7 f6)
  (d7:EO K "bits_of" Qr f7)
  (d8:EO K "members" Qp f8)
  (d9:EO K "settle" TR f9)
  (d10:EO K "fits" aI H)
  (d11:EO K "with_step" Na I)
  (d12:EO K "sets_of" Qo J)
  (d13:EO K "ways_to_choose" IN L)
  (d14:EO K "how_many" O8 N)
  (d15:EO K "standings" Nb O)
  (d22:EO K "falling_now" Kq Z)
  (d23:EO K "fallen" TU f23)
  (d24:EO K "lasting_bits" Jm f24)
  (d25:EO K "lasting" Qq f25)
  (d26:EO K "falls" Wf f26)
  (d27:EO K "_law_cell_at" Jo f27)
  (d28:EO K "_law_pairs" MB f28)
  (d29:EO K "_law_first_ties" HS f29)
  (d30:EO K "_law_ties" Nd f30)
  (d31:EO K "_law_handed" Ks f31)
  (d32:EO K "_law_sets" Nf f32)
  (d33:EO K "_law_count" MC f33)
  (d34:EO K "_law_told" Nc f34)
  (d35:EO K "_law_shared" Kr f35)
  (d36:EO K "law" cE B)
  (d3:Ou K A "__init__" "Web.__init__" O9 f3)
  (d16:Ou K m "linked_by_one" "Field.linked_by_one" FS P)
  (d17:Ou K m "linked_by_all" "Field.linked_by_all" FT Q)
  (d18:Ou K m "__init__" "Field.__init__" MD R)
  (d19:Ou K m "calls" "Field.calls" Kt S)
  (d20:Ou K m "linked" "Field.linked" Jp U)
  (d21:Ou K m "behind" "Field.behind" Jq Y)
  (n_Web_places:findIn K (.ref A) "places" = some none)
  (n_Web_ties:findIn K (.ref A) "ties" = some none)
  (n_Web_near_sets:findIn K (.ref A) "near_sets" = some none)
  (n_Field_everything:findIn K (.ref m) "everything" = some none)
  (n_Field_kind:findIn K (.ref m) "kind" = some none)
  (n_Field_takes:findIn K (.ref m) "takes" = some none)
  (n_Field_numbers:findIn K (.ref m) "numbers" = some none)
  (n_Field_having:findIn K (.ref m) "having" = some none)
  (n_Field_place_bits:findIn K (.ref m) "place_bits" = some none)
  (n_Field_known:findIn K (.ref m) "known" = some none)
  (sp:specialIn K (.builtin "object.__class__") "__get__" = some (some (.builtin "getset_descriptor.__get__")))
  (tk:takesIn K (.builtin "object.__class__")=some true)
  (xnd:([tx,th]:List AT).Nodup)
  (xo_GuardError:mroIn K o (.type "object")=some true)
  (xb_GuardError:mroIn K o (.type "BaseException")=some true)
  (xt_GuardError:typeIn K (.ref o)=some (.type "type"))
  (xo_TooLarge:mroIn K tx (.type "object")=some true)
  (xb_TooLarge:mroIn K tx (.type "BaseException")=some true)
  (xt_TooLarge:typeIn K (.ref tx)=some (.type "type"))
  (xo_BadGuards:mroIn K th (.type "object")=some true)
  (xb_BadGuards:mroIn K th (.type "BaseException")=some true)
  (xt_BadGuards:typeIn K (.ref th)=some (.type "type"))
  (xe_TooLarge:excIn K tx Y6 "ValueError.__new__" = true)
  (xg_TooLarge:findIn K (.ref tx) "__getattribute__" = some (some (.builtin "BaseException.__getattribute__")))
  (xn_TooLarge:findIn K (.ref tx) "__getattr__" = some none)
  (xa_TooLarge:findIn K (.ref tx) "__class__" = some (some (.builtin "object.__class__")))
  (xs_TooLarge_GuardError:subIn K (.ref tx) (.ref o)=some true)
  (xi_TooLarge_BadGuards:kitOne K (.ref tx) (.ref th)=some false)
  (xi_TooLarge_TooLarge:kitOne K (.ref tx) (.ref tx)=some true)
  (xi_TooLarge_ValueError:kitOne K (.ref tx) (.type "ValueError")=some true)
  (xe_BadGuards:excIn K th Y6 "ValueError.__new__" = true)
  (xg_BadGuards:findIn K (.ref th) "__getattribute__" = some (some (.builtin "BaseException.__getattribute__")))
  (xn_BadGuards:findIn K (.ref th) "__getattr__" = some none)
  (xa_BadGuards:findIn K (.ref th) "__class__" = some (some (.builtin "object.__class__")))
  (xs_BadGuards_GuardError:subIn K (.ref th) (.ref o)=some true)
  (xi_BadGuards_BadGuards:kitOne K (.ref th) (.ref th)=some true)
  (xi_BadGuards_TooLarge:kitOne K (.ref th) (.ref tx)=some false)
  (xi_BadGuards_ValueError:kitOne K (.ref th) (.type "ValueError")=some true)
  (z_ValueError:nsIn K BN "ValueError" = some none)
  (z_all:nsIn K BN "all" = some none)
  (z_enumerate:nsIn K BN "enumerate" = some none)
  (z_int:nsIn K BN "int" = some none)
  (z_isinstance:nsIn K BN "isinstance" = some none)
  (z_len:nsIn K BN "len" = some none)
  (z_list:nsIn K BN "list" = some none)
  (z_max:nsIn K BN "max" = some none)
  (z_min:nsIn K BN "min" = some none)
  (z_range:nsIn K BN "range" = some none)
  (z_reversed:nsIn K BN "reversed" = some none)
  (z_sorted:nsIn K BN "sorted" = some none)
  (z_sum:nsIn K BN "sum" = some none)
  (z_tuple:nsIn K BN "tuple" = some none)
  (g_MOST_PLACES:nsIn K BN "MOST_PLACES" = some (some (.int 60 xJ)))
  (g_MOST_STANDINGS:nsIn K BN "MOST_STANDINGS" = some (some (.int 400 xr)))
  : ∃(W:Wd) (T:Txt K C W),fa=T.d_law.f/\W.excs.Nodup/\∀(s:AK) (v:AI),ZS s T.d_law.fd ⟨[v],[]⟩ [("script",v)]:=by
 obtain⟨zl,_,_,_,_,_,_,_,_,_,l,c,k⟩:=d36;have F:=j9 (st:=cE) l c k
 let W:Wd:=⟨o,tx,th,A,m⟩
 have xR:(clsIn K o).isSome=true:=PV xo_GuardError;have xZ:(clsIn K tx).isSome=true:=PV xo_TooLarge;have xX:(clsIn K th).isSome=true:=PV xo_BadGuards;have xS:XIs K tx:=⟨xZ,xg_TooLarge,xn_TooLarge,xa_TooLarge,sp,tk,xo_TooLarge,xb_TooLarge⟩;have xK:XIs K th:=⟨xX,xg_BadGuards,xn_BadGuards,xa_BadGuards,sp,tk,xo_BadGuards,xb_BadGuards⟩
 let T:Txt K C W:={
  d_checked_ties:=mkD X G d1 (bd2 λ_ _ _ _ _ _ _ _ _ _=>rfl)
  d_near_sets_of:=mkD X G d2 (bd2 λ_ _ _ _ _ _ _ _ _ _=>rfl)
  d_Web_init:=mkM d3 (bd3 λ_ _ _ _ _ _ _ _ _ _ _=>rfl)
  d_refuse_no_place:=mkD X G d4 (bd2 λ_ _ _ _ _ _ _ _ _ _=>rfl)
  d_near:=mkD X G d5 (bd2 λ_ _ _ _ _ _ _ _ _ _=>rfl)
  d_takes_of:=mkD X G d6 (bd1 λ_ _ _ _ _ _ _ _ _=>rfl)
  d_bits_of:=mkD X G d7 (bd1 λ_ _ _ _ _ _ _ _ _=>rfl)
  d_members:=mkD X G d8 (bd1 λ_ _ _ _ _ _ _ _ _=>rfl)
  d_settle:=mkD X G d9 (bd5 λ_ _ _ _ _ _ _ _ _ _ _ _ _=>rfl)
  d_fits:=mkD X G d10 (bd3 λ_ _ _ _ _ _ _ _ _ _ _=>rfl)
  d_with_step:=mkD X G d11 (bd3 λ_ _ _ _ _ _ _ _ _ _ _=>rfl)
  d_sets_of:=mkD X G d12 (bd2 λ_ _ _ _ _ _ _ _ _ _=>rfl)
  d_ways_to_choose:=mkD X G d13 (bd2 λ_ _ _ _ _ _ _ _ _ _=>rfl)
  d_how_many:=mkD X G d14 (bd2 λ_ _ _ _ _ _ _ _ _ _=>rfl)
  d_standings:=mkD X G d15 (bd2 λ_ _ _ _ _ _ _ _ _ _=>rfl)
  d_Field_linked_by_one:=mkM d16 (bd2 λ_ _ _ _ _ _ _ _ _ _=>rfl)
  d_Field_linked_by_all:=mkM d17 (bd2 λ_ _ _ _ _ _ _ _ _ _=>rfl)
  d_Field_init:=mkM d18 (bd4 λ_ _ _ _ _ _ _ _ _ _ _ _=>rfl)
  d_Field_calls:=mkM d19 (bd2 λ_ _ _ _ _ _ _ _ _ _=>rfl)
  d_Field_linked:=mkM d20 (bd2 λ_ _ _ _ _ _ _ _ _ _=>rfl)
  d_Field_behind:=mkM d21 (bd3 λ_ _ _ _ _ _ _ _ _ _ _=>rfl)
  d_falling_now:=mkD X G d22 (bd2 λ_ _ _ _ _ _ _ _ _ _=>rfl)
  d_fallen:=mkD X G d23 (bd1 λ_ _ _ _ _ _ _ _ _=>rfl)
  d_lasting_bits:=mkD X G d24 (bd2 λ_ _ _ _ _ _ _ _ _ _=>rfl)
  d_lasting:=mkD X G d25 (bd3 λ_ _ _ _ _ _ _ _ _ _ _=>rfl)
  d_falls:=mkD X G d26 (bd3 λ_ _ _ _ _ _ _ _ _ _ _=>rfl)
  d__law_cell_at:=mkD X G d27 (bd2 λ_ _ _ _ _ _ _ _ _ _=>rfl)
  d__law_pairs:=mkD X G d28 (bd1 λ_ _ _ _ _ _ _ _ _=>rfl)
  d__law_first_ties:=mkD X G d29 (bd2 λ_ _ _ _ _ _ _ _ _ _=>rfl)
  d__law_ties:=mkD X G d30 (bd3 λ_ _ _ _ _ _ _ _ _ _ _=>rfl)
  d__law_handed:=mkD X G d31 (bd2 λ_ _ _ _ _ _ _ _ _ _=>rfl)
  d__law_sets:=mkD X G d32 (bd2 λ_ _ _ _ _ _ _ _ _ _=>rfl)
  d__law_count:=mkD X G d33 (bd2 λ_ _ _ _ _ _ _ _ _ _=>rfl)
  d__law_told:=mkD X G d34 (bd4 λ_ _ _ _ _ _ _ _ _ _ _ _=>rfl)
  d__law_shared:=mkD X G d35 (bd3 λ_ _ _ _ _ _ _ _ _ _ _=>rfl)
  d_law:=⟨B,_,F,F.binds ((bd1 λ_ _ _ _ _ _ _ _ _=>rfl) _ _),ZY X G zl⟩
  c_Web:=mkO X G o_Web d3
  n_Web_places:=n_Web_places
  n_Web_ties:=n_Web_ties
  n_Web_near_sets:=n_Web_near_sets
  c_Field:=mkO X G o_Field d18
  n_Field_everything:=n_Field_everything
  n_Field_kind:=n_Field_kind
  n_Field_takes:=n_Field_takes
  n_Field_numbers:=n_Field_numbers
  n_Field_having:=n_Field_having
  n_Field_place_bits:=n_Field_place_bits
  n_Field_known:=n_Field_known
  m_Field_linked_by_one:=mkE d16
  m_Field_linked_by_all:=mkE d17
  m_Field_calls:=mkE d19
  m_Field_linked:=mkE d20
  m_Field_behind:=mkE d21
  xm_GuardError:=ZY X G a_GuardError
  x_TooLarge:=⟨⟨xe_TooLarge⟩,ZY X G a_TooLarge⟩
  x_BadGuards:=⟨⟨xe_BadGuards⟩,ZY X G a_BadGuards⟩
  nd:=xnd
  caught_GuardError:=(all_cons ⟨xt_GuardError,xR,xb_GuardError,xs_TooLarge_GuardError⟩ (all_cons ⟨xt_GuardError,xR,xb_GuardError,xs_BadGuards_GuardError⟩ Mt))
  is_BadGuards:=Z7 (al:=[th]) (ex:=[tx,th]) (all_cons ⟨xK,xi_BadGuards_BadGuards⟩ Mt) (all_cons (λ_=>⟨xS,xi_TooLarge_BadGuards⟩) (all_cons (λn=>zX (by simp) n) Mt))
  i_BadGuards:=⟨xX,xt_BadGuards⟩
  is_TooLarge:=Z7 (al:=[tx]) (ex:=[tx,th]) (all_cons ⟨xS,xi_TooLarge_TooLarge⟩ Mt) (all_cons (λn=>zX (by simp) n) (all_cons (λ_=>⟨xK,xi_BadGuards_TooLarge⟩) Mt))
  i_TooLarge:=⟨xZ,xt_TooLarge⟩
  is_ValueError:=Z7 (al:=[tx,th]) (ex:=[tx,th]) (all_cons ⟨xS,xi_TooLarge_ValueError⟩ (all_cons ⟨xK,xi_BadGuards_ValueError⟩ Mt)) (all_cons (λn=>zX (by simp) n) (all_cons (λn=>zX (by simp) n) Mt))
  b_ValueError:=D8 X G z_ValueError
  b_all:=D8 X G z_all
  b_enumerate:=D8 X G z_enumerate
  b_int:=D8 X G z_int
  b_isinstance:=D8 X G z_isinstance
  b_len:=D8 X G z_len
  b_list:=D8 X G z_list
  b_max:=D8 X G z_max
  b_min:=D8 X G z_min
  b_range:=D8 X G z_range
  b_reversed:=D8 X G z_reversed
  b_sorted:=D8 X G z_sorted
  b_sum:=D8 X G z_sum
  b_tuple:=D8 X G z_tuple
  g_MOST_PLACES:=⟨xJ,ZY X G g_MOST_PLACES⟩
  g_MOST_STANDINGS:=⟨xr,ZY X G g_MOST_STANDINGS⟩ }
 refine⟨W,T,?_,xnd,λs v=>.of_eq rfl⟩;have e:=E.symm.trans (ZY X G zl);cases e;rfl
theorem walk{l:OpenLaw}{q:Bf}{m:List Str}{I:(Str->Option AI)->DA->Prop}{C:CH->DA->Prop}{d:DefRec}{K:Params->Frag}(J:l.most=some 63)(B:d.params.defaults=[])
  (L:∀(w:CH) (h:DA),C w h->(K w.params).In h)
  (F:∀(w:CH) (o:Str->Option AI) (A:AT) (h:DA),(K w.params).In h->h.Ns BN o->o d.name=some (.ref A) ->
   ∃(W:Wd) (T:Txt (K w.params) o W),A=T.d_law.f/\W.excs.Nodup/\∀(s:AK) (v:AI),ZS s T.d_law.fd ⟨[v],[]⟩ [("script",v)])
  (good:∀(W:Wd),W.excs.Nodup->∀ns:ZLi,ns.length<=63->∃N,cp W [.fro (ns.map D.int)] []=.ok (.bl true) N) :
  WalkO q m I C l.row.toRowW d [] (λf vs=>dP f vs):=
 L2.lv (n:=63) (k:=75) (x:="script") (CX:=λw=>CXG l.prog w) (sp:=λw=>iN (K w.params)) J (by decide) B ⟨rfl,by decide,by decide⟩ L
  (λw o A h O G P=>by
   obtain⟨W,T,e,Q,hb⟩:=F w o A h O G P;subst e
   exact⟨T.d_law.fd,hb,λE _ _=>jZ (sW T) (good W Q)⟩)
  (λ_ _ a ns R S U=>⟨a,ns,rfl,tZ S U,R,λ_=>rfl⟩) (λw H s e X z=>uD z)
end M
open PySem.W
set_option maxRecDepth 100000 in
set_option maxHeartbeats 0 in
theorem PySem.Challenge.cw_guardround_k20_each_lasts_or_falls_holds : PySem.Challenge.rw_guardround_k20_each_lasts_or_falls.Holds := by
 w_on;o_law;k_head;(case hw=>w_witness2)
 k_fill
 refine M.walk (l:=Hu) rfl rfl (λw h Y=>by first | exact kIn_of Y | exact km_in_of Y) ?F M.good
 case F=>
  intro w mg fa h KX G Κ;refine' M.uG (l:=Hu) (w:=w) KX G Κ ?o_Web ?o_Field ?a_GuardError ?a_TooLarge ?a_BadGuards ?d1 ?d2 ?d4 ?d5 ?d6 ?d7 ?d8 ?d9 ?d10 ?d11 ?d12 ?d13 ?d14 ?d15 ?d22 ?d23 ?d24 ?d25 ?d26 ?d27 ?d28 ?d29 ?d30 ?d31 ?d32 ?d33 ?d34 ?d35 ?d36 ?d3 ?d16 ?d17 ?d18 ?d19 ?d20 ?d21 ?n_Web_places ?n_Web_ties ?n_Web_near_sets ?n_Field_everything ?n_Field_kind ?n_Field_takes ?n_Field_numbers ?n_Field_having ?n_Field_place_bits ?n_Field_known ?sp ?tk ?xnd ?xo_GuardError ?xb_GuardError ?xt_GuardError ?xo_TooLarge ?xb_TooLarge ?xt_TooLarge ?xo_BadGuards ?xb_BadGuards ?xt_BadGuards ?xe_TooLarge ?xg_TooLarge ?xn_TooLarge ?xa_TooLarge ?xs_TooLarge_GuardError ?xi_TooLarge_BadGuards ?xi_TooLarge_TooLarge ?xi_TooLarge_ValueError ?xe_BadGuards ?xg_BadGuards ?xn_BadGuards ?xa_BadGuards ?xs_BadGuards_GuardError ?xi_BadGuards_BadGuards ?xi_BadGuards_TooLarge ?xi_BadGuards_ValueError ?z_ValueError ?z_all ?z_enumerate ?z_int ?z_isinstance ?z_len ?z_list ?z_max ?z_min ?z_range ?z_reversed ?z_sorted ?z_sum ?z_tuple ?g_MOST_PLACES ?g_MOST_STANDINGS
  (case o_Web | o_Field=>exact⟨by k_is,by k_is,by k_is,by k_is,by k_is,by k_is,by k_is⟩)
  (case a_GuardError | a_TooLarge | a_BadGuards=>k_is)
  (case d1 | d2 | d4 | d5 | d6 | d7 | d8 | d9 | d10 | d11 | d12 | d13 | d14 | d15 | d22 | d23 | d24 | d25 | d26 | d27 | d28 | d29 | d30 | d31 | d32 | d33 | d34 | d35 | d36=>exact⟨by k_is,_,_,_,_,_,_,_,_,_,by k_is,by k_is,by k_is⟩)
  (case d3 | d16 | d17 | d18 | d19 | d20 | d21=>exact⟨by k_is,by k_is,_,_,_,_,_,_,_,_,_,by k_is,by k_is,by k_is⟩)
  (case n_Web_places | n_Web_ties | n_Web_near_sets | n_Field_everything | n_Field_kind | n_Field_takes | n_Field_numbers | n_Field_having | n_Field_place_bits | n_Field_known | sp | tk=>k_is)
  (case xnd=>decide)
  (case xo_GuardError | xb_GuardError | xt_GuardError | xo_TooLarge | xb_TooLarge | xt_TooLarge | xo_BadGuards | xb_BadGuards | xt_BadGuards=>k_is)
  (case xe_TooLarge=>k_exc)
  (case xg_TooLarge | xn_TooLarge | xa_TooLarge | xs_TooLarge_GuardError=>k_is)
  (case xi_TooLarge_BadGuards | xi_TooLarge_TooLarge | xi_TooLarge_ValueError=>kit_is)
  (case xe_BadGuards=>k_exc)
  (case xg_BadGuards | xn_BadGuards | xa_BadGuards | xs_BadGuards_GuardError=>k_is)
  (case xi_BadGuards_BadGuards | xi_BadGuards_TooLarge | xi_BadGuards_ValueError=>kit_is)
  (case z_ValueError | z_all | z_enumerate | z_int | z_isinstance | z_len | z_list | z_max | z_min | z_range | z_reversed | z_sorted | z_sum | z_tuple | g_MOST_PLACES | g_MOST_STANDINGS=>k_is)
#print axioms PySem.Challenge.cw_guardround_k20_each_lasts_or_falls_holds
