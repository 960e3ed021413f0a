import PyProof.Rows.All
import Wide.All
import OpenK.AllK
import Wide.FinOn
import Lean
import PyProof.EqAt
import PyProof.EqKinds
import PyProof.TupleCall
import PyProof.ExcBaseAll.ValueError
import PyProof.NsDelKeeps
import PyProof.NeKinds
import PyProof.Rows.SortShell
import PyProof.Rows.FStr
import PyProof.FString
import PyProof.ExcAttrAll.ValueError
import PyProof.ExcArgsOwn
import PyProof.Rows.SortRuns
import PyProof.TupleIter
import PyProof.Dict
import KE.KDictSum
import PyProof.Rows.SetFrom
import PyProof.SetRoads
import PyProof.Rows.Range3
import PyProof.WalksMore
import PyProof.Rows.SortRev
import PyProof.Rows.RuleB_bool
import PyProof.TupleOfSeq
import PyProof.EnumMake
import PyProof.SliceList
import PyProof.MinMaxWalk
import PyProof.Rows.EnumRows
import PyProof.WalkInts
import PyProof.Rows.SeqCalls
import KE.KRevIter
import PyProof.CollectIter
import PyProof.TupleOfGen
import PyProof.Rows.FactsT2
import PyProof.ListRange
import PyProof.Rows.CallKwBuiltin
import PyProof.ZipIter
import PyProof.Rows.ZipGen
import PyProof.Rows.RuleM_int
import PyProof.Rows.AssignMoreSeq
import KE.KIntText
import PyProof.Rows.StrKeys3
import PyProof.StrBlock
import PyProof.StrCalls2
import PyProof.StrWalks
import PyProof.Rows.RuleN_abs
import PyProof.ExcClass3
import PyProof.ExcInit
import PyProof.InstStoreFacts
import OpenK.KMake
import OpenK.KCls
import PyProof.LayNew
import PyProof.StrLawsTight
import PyProof.StrLawsChain
import PyProof.StrLawsIn
import PyProof.Rows.StrItems
import PyProof.FitsReplace
import PySem.Challenge.RW_guardround_k57_the_first_bad_row
set_option Elab.async false
set_option linter.all false
set_option maxRecDepth 100000
set_option maxHeartbeats 8000000
noncomputable abbrev ZLi:=List Int
noncomputable abbrev ZPi:=Int×Int
theorem qX{c:Prop}{h:Decidable c}(g:c){i:Sort u}{t e:i}:ite c t e=t:=if_pos g
theorem qY{c:Prop}{h:Decidable c}(g:Not c){i:Sort u}{t e:i}:ite c t e=e:=if_neg g
theorem wX{p:Prop}[i:Decidable p](h:p):decide p=true:=decide_eq_true h
theorem wY{p:Prop}[i:Decidable p](h:Not p):decide p=false:=decide_eq_false h
theorem zX{a b:Prop}(h:a)(n:Not a):b:=absurd h n
noncomputable section
open Array renaming append_assoc->Xa,find?_toList->XZ,getD_eq_getD_getElem?->D8,getElem?_eq_getElem->Hy,getElem?_eq_none->TJ,getElem?_eq_some_iff->C7,getElem?_setIfInBounds_ne->Nl,getElem?_toList->Ue,length_toList->BK,mem_extract_iff_getElem->OV,mem_of_getElem?->CQ,mem_toList_iff->BE,perm_iff_toList_perm->ER,toList->gd,toList_append->Ak,toList_inj->Y6,toList_map->Iy,toList_modify->WJ,toList_push->IQ,toList_reverse->EQ,toList_setIfInBounds->QU
open Array.Perm renaming refl->M6
open Bool renaming and_eq_true->Bl,and_eq_true_iff->LQ,false_eq_true->Ay,false_ne_true->Ac,false_or->gc,not_eq_true'->EF,not_false->Qx,not_true->Cd,or_false->gb,true_and->gZ
open Eq renaming trans->KB
open False renaming elim->CY
open ForInStep renaming yield->GD
open Int renaming emod_lt_of_pos->Bf,emod_nonneg->Bj,le_refl->DT,le_trans->kX,lt_of_le_of_lt->Y4,ne_of_gt->Ux,not_le->Rq,not_lt->Rp,toNat_natCast->Cp,toNat_of_nonneg->B2
open List renaming all_cons->gY,all_eq_true->By,all_map->Ub,any_cons->Ge,any_eq_false->Y1,any_eq_true->cF,any_toArray->Jq,append_assoc->BW,append_nil->BV,drop->cE,drop_drop->LO,drop_eq_getElem_cons->IP,drop_eq_nil_of_le->Ua,drop_succ_cons->G8,drop_zero->FW,ext_getElem?->IU,extract->Nj,filterMap_cons->MF,find?_cons->Co,foldl_append->Ni,forIn_cons->KL,forIn_nil->LN,getD_eq_getElem?_getD->Ed,getElem?_append_left->Af,getElem?_append_right->Au,getElem?_cons_succ->Jp,getElem?_drop->E4,getElem?_eq_getElem->BC,getElem?_eq_none->CV,getElem?_eq_none_iff->DL,getElem?_eq_some_iff->AI,getElem?_map->At,getElem?_range->Dh,getElem?_replicate->Cm,getElem?_set->IT,getElem?_set_ne->BF,getElem?_set_self->A4,getElem?_set_self'->TH,getElem?_take_of_lt->S6,getElem?_toArray->Uw,getElem?_zipIdx->WH,length->Ec,length_append->AW,length_cons->AU,length_drop->CC,length_map->AL,length_nil->B7,length_pos_iff->XY,length_replicate->Ku,length_set->cT,length_singleton->A1,length_take->Ba,lookup->Go,lookup_cons->BM,map->Qv,mapM_toArray->Y0,map_append->DO,map_congr_left->Cu,map_cons->Ao,map_id->WG,map_map->BZ,map_nil->Nh,map_take->gX,mem_append->Ax,mem_append_left->Eb,mem_append_right->A8,mem_cons->An,mem_cons_of_mem->AM,mem_cons_self->Aa,mem_filter->cS,mem_filterMap->Yo,mem_iff_getElem->WF,mem_map->Be,mem_of_getElem?->CB,mem_of_mem_drop->Gn,mem_of_mem_take->Gm,mem_range->Ea,mem_reverse->cD,mem_singleton->Ag,mergeSort_perm->XX,nodup_cons->KJ,nodup_nil->fR,not_mem_nil->Di,of_mem_zip->QI,pairwise_append->BL,pairwise_map->ED,pairwise_mergeSort->TF,pairwise_reverse->Kt,pairwise_singleton->TD,perm_append_comm->Uv,range->Bd,range_succ->QH,replicate->A7,singleton_append->GC,size_toArray->Aj,take_add_one->CL,take_append_drop->CU,take_length->C5,take_of_length_le->Bx,take_sublist->Yz,take_take->fQ,zipIdx_nil->cR,zip_cons_cons->Hb,zip_nil_left->Yy,zip_nil_right->Yn
open List.Pairwise renaming nil->kW
open List.Perm renaming append_left->Ix,append_right->QQ,of_eq->WI
open List.cons renaming inj->DG
open Nat renaming add_mul->mq,add_zero->kU,le_of_eq->Uu,le_of_lt->KI,le_of_not_lt->Oz,le_of_succ_le->OB,le_refl->AN,le_succ->Ip,le_trans->Ae,lt_irrefl->Cf,lt_of_le_of_lt->Dx,lt_of_lt_of_le->AY,lt_succ_of_lt->Io,lt_succ_self->Cb,lt_trans->kT,min_eq_left->QP,min_eq_right->cQ,min_le_right->cP,mod_eq_of_lt->cO,ne_of_gt->Fe,ne_of_lt->Al,not_lt->Hx,sub_self->kS,zero_add->En,zero_le->Eg
open Nat.succ renaming inj->cC
open Ne renaming symm->B8
open Option renaming bind_eq_some_iff->Rn,bind_some->Bw,getD_none->Ym,getD_some->Im,isSome_iff_exists->Qu,isSome_map->M4,isSome_some->WE,map->QG,map_eq_some_iff->Jo
open Option.some renaming inj->C4
open Or renaming inl->WD,inr->Sz
open Prod renaming ext->Qt
open PyProof.Rows renaming AllBare->HV,IntsAre->CG,IsTup->Yp,Keyed->A0,SortKind->NA,SortSt->A9,Subscript_->gV,arrOf->AS,boot_all->mn,boot_bool->mj,boot_int->Oy,boot_isinstance->MD,boot_max->Ox,boot_min->Ow,boot_sorted->mf,boot_str->md,boot_tuple->mZ,bubble->gR,callWith_builtin1->mY,callWith_type1->F3,elem'_eq->cK,envOfC->LY,failedOf->HX,firstOfTuple'->XT,general'->Uh,joinParts_cons->Ug,le_int->mX,len_partsBetween->Ld,listUpdate_at->XS,ltAt'->kC,lt_int->mW,mirror->Iv,mirror_perm->Sw,pairsOf->KA,pendingOf->AT,reverseSlice'->OS,reverseSlice'_eq->LC,seqEpoch_at->cJ,seqObj->Ht,slot_tuple_getitem->Ev,sortedHeap->gM,split_le->Ov,split_pos->OU,subscriptTail->XQ,subscriptTail_builtinR->Yu,tuples'->kA,wpS_bind->AH,wpS_forRange->Bh,wpS_get->GV,wpS_modify->Cz,wpS_mono->Cq,wpS_pure->AK
open PyProof.Rows.IsTup renaming new->Y2
open PyProof.Rows.SortSt renaming mk'->F0
open PySem renaming Addr->AJ,Around->BO,BindsTo->Ud,DictEntry->Ys,ExcBaseFacts->IV,FuncData->Gf,GenState->Uz,Heap->Bt,IsEnum->Y3,IsPart->Ro,Keyword->Nk,NameKind->ND,OwnTail->kH,Paired->Gc,PassesOwn->Yl,Program->A3,Scope->QO,Shared->AG,Stmt->Dr,Value->AD,Within->TB,World->BR,again->kD,argBest->Ga,assign->Ul,assignEach->Fc,atKey->Uk,attributeBase->EZ,backTo->CN,backToKw->GZ,behindInMarks->Ck,binaryOp->DN,bindArgs->cM,bindC->Yi,bindL->Yh,bootBuiltins->E1,boot_len->cN,builtinsNs->Uj,cLine->Dq,call->XW,callGetattribute->kO,callWith->cL,call_meets->Ui,callerA->QN,cellsFrom->Bg,checkBuiltinCall->G6,codeAny->LZ,codeAny_call_builtin->Dg,codeAny_mono->GY,codeAny_of_tree->mT,compareOp->BG,concat_meets->Yw,eval->Bi,excClassObj->HY,foldedSetIterable->Ei,getAttr->Yv,getAttrByItsOwn->mS,getItem->Ng,intText?->LD,isInstance->LX,isTrue->gP,keywordEach->Df,letOwnedTupleGo->MA,mainGlobals->As,mem_of_lookup->Cr,model->AR,newFunctionEnv->Uf,noFill_tuple_add->Rg,noteFrame->Yg,onTheHeap->Rf,pastItsLine_dict->kN,plainObj_wpAny_Assign_Attribute->Qs,pushCells->Dv,pushCells_keeps->S9,pyIter->gN,pyNext->Re,rawInt->EA,relabel->IR,seq_tuple_add->XR,setField->cI,sizeLine_eq->M9,sliceBounds->HW,slot_list_getitem->kB,starEach->AO,strValues->Yf,subscripted->Sv,swapsWith->EY,sysModules->D9,tupleKind->Rc,tupleKind_room_in1->Iu,typeIs_str->Os,typeLookup->Oq,valueAt->QM,wpAny->AZ,wpAny_Call_Name_kw->Fb,wpAny_Call_ofName->QK,wpAny_Name->gK,wpAny_assign_Name->j9,wpAny_attempt->FS,wpAny_bind->AA,wpAny_call->Fa,wpAny_callSpecial?_slot->Fy,wpAny_call_entry->Du,wpAny_comprehension_free->XO,wpAny_dictEntries->QJ,wpAny_dictEpoch->S8,wpAny_eqBool_int->Rb,wpAny_execs_cons->kM,wpAny_execs_nil->L9,wpAny_field->Et,wpAny_fieldsOf->M8,wpAny_forIn_list->kL,wpAny_holding->Bz,wpAny_isInstance->Ra,wpAny_isOneOf_keyiter->MH,wpAny_isSubtype_exc->fO,wpAny_isTrue_Compare1->cB,wpAny_loadPart->M7,wpAny_loadPart'->FU,wpAny_loadPart_at->GX,wpAny_lookBehind->kK,wpAny_mono->BX,wpAny_newObj_type->CP,wpAny_nextOf_list_end->cA,wpAny_of_eq->Su,wpAny_passesOwn->Hs,wpAny_pure->AE,wpAny_pyIter_enum->j8,wpAny_pyIter_list->De,wpAny_pyIter_tuple->Ir,wpAny_rule->gJ,wpAny_setField->Iq,wpAny_standAt->DE,wpAny_truthy_bool->CO,wpAny_tupleItemsOf->gH,wpAny_typeNameOfWhole_keyiter->D7,wpAny_typeNameOf_keyiter->FR,wpAny_typeOf->Yt
open PySem.Around renaming under->S7
open PySem.Builtin.Dict renaming dictSlotNone->my,showsAll->O3
open PySem.Builtin.Dict_items renaming ownsTuple->KC
open PySem.Builtin.List renaming listItems->Hc
open PySem.Builtin.ObjectAttr renaming bindTo->cG
open PySem.Builtin.Range renaming rangeSize->kf
open PySem.Builtin.Slice renaming sliceAdjust->Gg,sliceApplied->MN,sliceFields->ke,slicePartIndex->kd,slicePlaces->D1
open PySem.Builtin.Str renaming occurrences->El,partsBetween->HA,strKind->Qw
open PySem.Builtin.Tuple renaming tupleCompareSizes->kc,tupleExact->EE,tupleItemsOf->kb
open PySem.Calls renaming Name_function_global->QT,evalArgs_plain->U0
open PySem.Challenge renaming pw_guardround_k57_the_first_bad_row->gW,rw_guardround_k57_the_first_bad_row->FV
open PySem.CmpOf renaming ints_gt->fU,ints_lt->fS
open PySem.Code renaming frames->ka,isFrame->Uc,quiet_builtin->M5
open PySem.Data renaming fields->kZ
open PySem.EntryCells renaming newEntry->Rr
open PySem.F renaming args_bexc_ga->TC,args_dict_keyiterator_next_1->LF,args_str_split_2->OC,args_tuple_add_2->Hv,entry_bexc_ga->Sy,entry_dict_keyiterator_next->LM,entry_str_split->O0,entry_tuple_add->IS,excAttr_ValueError->EC,excBase_ValueError->Ou,plainAttrs_str->Rm,slot_dict_iter->Rj,slot_dict_keyiterator_next->B4,slot_enumerate_next->Yr,slot_str_split->QS,slot_tuple_add->Iw,slot_tuple_le->kJ
open PySem.Heap renaming ExtBut->kY,MadeExcOf->LP,SameBut->Ek,get?_none_of_le->Gp,get?_push_at->Y5,get?_push_of_some->AB,get?_push_size->AX,get?_some_iff->Yq,get?_update_ne->G9,get?_update_other->Cy,get?_update_self->DB,lt_size->AV,size_push->C8
open PySem.Heap.IsSliceOf renaming new->kI
open PySem.Heap.Ns1 renaming of_empty->Uy
open PySem.Heap.SameBut renaming refl->mw,update->QR
open PySem.NameKind renaming cell->CF,free->Ej
open PySem.Obj renaming cls_mapFields->OA,data_mapFields->Ca,isFreed_of_fields->GU,mapFields->Ce,mapSeq->Hw
open PySem.Paired renaming length->Ep,snoc->UZ
open PySem.SeqAt.RcAt renaming tuples->kP
open PySem.Str renaming append_assoc->Gb,cps_append->Ef,empty->MC,join->B3,length->DA,length_append->N7,ofString->Fd
open PySem.StrLaws renaming join_split->Uq,occ_length_le->Sx
open PySem.Txt renaming contains->Dw,join->XV,split->Dk
open PySem.Value renaming bool->Jw,builtin->MB,bytes->kG,float->Uo,int->N5,isInt->kF,isStrOf->fP,none->BY,ref->Ai,str->N4,type->E2
open PySem.W renaming Frag->AC,InstAt->DW,Looks->Em,callWith_K->Ut,cellsFrom_some->Ri,clsIn->CW,codeIn->Ot,emptyDict->CH,findIn->Bq,findObj->N9,findObj_own->UY,fnOf->Gq,handedIn->NC,hasDictIn->E6,hideAll->Jn,hideAll_get->UX,hideAll_none->KH,instObj->DF,isFn->Rh,isNs_of_in->Us,kdu_collect->UW,keepIn->E5,kia_one->Bs,kitAny->DV,kitOne->BH,kitx_dict->WC,kitx_list->WB,lookIn->KG,looks_find->Ur,looks_findIn->EB,looks_mroIn->UV,looks_subIn->UU,makesIn->Yk,methodObj->MM,mg_none_of->DM,mg_of->OT,mroIn->Hu,notCls->Yx,nsIn->MK,nsOkIn->G7,of_hideAll->Lb,plainGet->NB,plainOver->WA,specialIn->MJ,subIn->LL,tailIn->KF,tail_of_in->La,takerIn->N8,takesIn->Yj,typeIn->KD
open PySem.W.Looks renaming here->kR,ld->kQ
open PySem.W.WData renaming int->mU
open PySem.W.WShape renaming has->kE
open PySem.Walks renaming list->XU,tuple->Um
open PySem.Within renaming cons->mV
open Sum renaming inl->Il,inr->N6
open True renaming intro->Ds
namespace L2
open PySem PySem.Spec PyProof.Rows
noncomputable abbrev Key:=Sum Int Str
noncomputable def RJ:Key->AD->Bool
 | .inl k,v=>kF k v
 | .inr x,v=>fP x v
noncomputable def keyH(w:BR):Key->Int
 | .inl k=>hashInt k
 | .inr x=>hashStr w x
theorem Cw:∀{k:Key} {v:AD},RJ k v=true->(∃i t,k=Il i/\v=N5 i t)∨(∃x t,k=N6 x/\v=N4 x t)
 | .inl i,v,h=>by
  obtain⟨t,e⟩:=AD.isInt_shape (k:=i) (v:=v) h;exact .inl ⟨i,t,rfl,e⟩
 | .inr x,v,h=>by
  obtain⟨t,e⟩:=AD.isStrOf_shape (x:=x) (v:=v) h;exact .inr ⟨x,t,rfl,e⟩
theorem X7(i:Int)(t:Tok):RJ (.inl i) (.int i t)=true:=by simp[RJ,kF]
theorem X6(x:Str)(t:Tok):RJ (.inr x) (.str x t)=true:=by simp[RJ,fP]
theorem jN(a b:Int):decide ((Il a:Key)=Il b)=(a==b):=by
 by_cases e:a=b
 ·subst e;simp
 ·have h:¬(Il a:Key)=Il b:=λq=>e (Il.inj q)
  rw[wY h];exact(beq_eq_false_iff_ne.mpr e).symm
theorem jK(a b:Str):decide ((N6 a:Key)=N6 b)=decide (a=b):=by
 by_cases e:a=b
 ·subst e;simp
 ·have h:¬(N6 a:Key)=N6 b:=λq=>e (N6.inj q)
  rw[wY h,wY e]
theorem jM(a:Int)(b:Str):decide ((Il a:Key)=N6 b)=false:=wY (λq=>nomatch q)
theorem jL(a:Str)(b:Int):decide ((N6 a:Key)=Il b)=false:=wY (λq=>nomatch q)
noncomputable def D5(prog:A3)(w:BR):PySem.KeyKind prog w Key where
 is:=RJ
 hash:=keyH w
 inj:=λv a b m hb=>by
  rcases Cw m with⟨i,t,rfl,rfl⟩ | ⟨x,t,rfl,rfl⟩
  ·rcases Cw hb with⟨j,u,rfl,e⟩ | ⟨y,u,rfl,e⟩
   ·injection e with g _;rw[g]
   ·exact nomatch e
  ·rcases Cw hb with⟨j,u,rfl,e⟩ | ⟨y,u,rfl,e⟩
   ·exact nomatch e
   ·injection e with g _;rw[g]
 byValue:=λk v h=>by
  rcases Cw h with⟨i,t,rfl,rfl⟩ | ⟨x,t,rfl,rfl⟩ <;> rfl
 pyHash:=λl h=>by
  rcases Cw l with⟨i,t,rfl,rfl⟩ | ⟨x,t,rfl,rfl⟩
  ·exact wpAny_pyHash_int h
  ·exact wpAny_pyHash_str h
 eqBool:=λo l h=>by
  rcases Cw o with⟨i,t,rfl,rfl⟩ | ⟨x,t,rfl,rfl⟩
  ·rcases Cw l with⟨j,u,rfl,rfl⟩ | ⟨y,u,rfl,rfl⟩
   ·rw[jN]at h;exact Rb h
   ·rw[jM]at h;exact SeqAt.EqAt.int_str i t y u _ _ _ _ h
  ·rcases Cw l with⟨j,u,rfl,rfl⟩ | ⟨y,u,rfl,rfl⟩
   ·rw[jL]at h;exact SeqAt.EqAt.str_int x t j u _ _ _ _ h
   ·rw[jK]at h;exact wpAny_eqBool_str h
 «strs»:=λk x t v h=>by
  rcases Cw h with⟨i,u,rfl,e⟩ | ⟨y,u,rfl,e⟩
  ·exact nomatch e
  ·injection e with g _
   subst g
   cases v <;> rfl
theorem T1(prog:A3)(w:BR)(i:Int)(t:Tok):(D5 prog w).is (.inl i) (.int i t)=true:=X7 i t
theorem T0(prog:A3)(w:BR)(x:Str)(t:Tok):(D5 prog w).is (.inr x) (.str x t)=true:=X6 x t
inductive V where
 | non | bl (b:Bool) | int (i:Int) | str (x:Str) | byt (b:Array UInt8) | flt (b:UInt64) | ref (a:AJ) | ty (n:String)
 deriving DecidableEq
noncomputable def RelV:V->AD->Prop
 | .non,u=>u=BY
 | .bl b,u=>u=Jw b
 | .int i,u=>∃t,u=N5 i t
 | .str x,u=>∃t,u=N4 x t
 | .byt b,u=>∃t,u=kG b t
 | .flt b,u=>∃t,u=Uo b t
 | .ref a,u=>u=Ai a
 | .ty n,u=>u=E2 n
noncomputable abbrev Bb:List V->List AD->Prop:=Gc RelV
theorem Bb.length(r:Bb xs g):xs.length=g.length:=Ep r
theorem Bb.get:∀{xs:List V} {g:List AD} {i:Nat} {x:V},Bb xs g->xs[i]?=some x->∃u,g[i]?=some u/\RelV x u
 | _,_,_,_,.nil,e=>by simp at e
 | _,_,0,_,.cons r _,e=>by simp at e;subst e;exact⟨_,rfl,r⟩
 | _,_,i+1,x,.cons _ t,e=>by
  obtain⟨u,j,l⟩:=Bb.get (i:=i) (x:=x) t (by simpa using e);exact⟨u,by simpa using j,l⟩
theorem Bb.append:∀{xs ys:List V} {g ws:List AD},Bb xs g->Bb ys ws->Bb (xs++ys) (g++ws)
 | _,_,_,_,.nil,s=>s
 | _,_,_,_,.cons r t,s=>.cons r (Bb.append t s)
theorem Bb.take:∀{xs:List V} {g:List AD} (n:Nat),Bb xs g->Bb (xs.take n) (g.take n)
 | _,_,0,_=>.nil
 | _,_,_+1,.nil=>.nil
 | _,_,n+1,.cons r t=>.cons r (Bb.take n t)
theorem Bb.drop:∀{xs:List V} {g:List AD} (n:Nat),Bb xs g->Bb (xs.drop n) (g.drop n)
 | _,_,0,r=>r
 | _,_,_+1,.nil=>.nil
 | _,_,n+1,.cons _ t=>Bb.drop n t
noncomputable def Nf:Option V->Option AD->Prop
 | some v,some u=>RelV v u
 | none,none=>True
 | _,_=>False
noncomputable def KV{g:Type}:List (g×V)->List (g×AD)->Prop:=Gc λ(p:g×V) (q:g×AD)=>p.1=q.1/\RelV p.2 q.2
noncomputable def kV:Key->V
 | .inl i=>.int i
 | .inr x=>.str x
inductive HO where
 | lst (xs:List V)
 | tup (xs:List V)
 | dK (m8:List (Key×V)) | dT (m8:List (List Key×V))
 | set (S:Int->Bool) (n:Nat)
 | ins (C dx:AJ) (fs:List (Str×V))
 | own (x:AJ)
 | xd (fs:List (Str×V))
 | met (f x:AJ)
 | rng (lo hi:Int)
 | frz (o:Obj) (u:HO)
 | tbl (ps:Array AD)
 | ext (φ:Bt->Prop)
noncomputable abbrev Hp:=AJ->Option HO
noncomputable def upd(H:Hp)(a:AJ)(o:HO):Hp:=λb=>if b=a then some o else H b
theorem BU:upd H a o a=some o:=by unfold upd;rw[qX rfl]
theorem A5(h:b≠a):upd H a o b=H b:=by unfold upd;rw[qY h]
theorem lg{H:Hp}{a b:AJ}{o u:HO}(h:H a=some o)(h':H b=some u)(d:o≠u):a≠b:=by
 intro e;subst e;rw[h]at h';exact d (C4 h')
theorem BQ{H:Hp}{a b:AJ}{o:HO}(h:H a=some o)(h':H b=none):a≠b:=by
 intro e;subst e;rw[h]at h';cases h'
section
variable(P:A3)(w:BR)
noncomputable def CK(H:Hp)(h:Bt)(a:AJ):HO->Prop
 | .lst g=>g.length<=sizeLine/\∃(j:List AD) (n:Nat),Bb g j/\h.get? a=some { cls:=.type "list",data:=.seq j.toArray n }
 | .tup g=>(g.length<=sizeLine/\∃o,h.get? a=some o/\o.dict=none)/\∃j:List AD,Bb g j/\Yp h a j.toArray
 | .dK l=>l.length<=sizeLine/\(a==D9)=false/\∃A,KV l A/\h.DictOf (D5 P w) a A
 | .dT l=>l.length<=sizeLine/\(a==D9)=false/\∃g:List (List Key×AJ×AD),
   Gc (λ(p:List Key×V) (q:List Key×AJ×AD)=>p.1=q.1/\H q.2.1=some (.tup (p.1.map kV))/\RelV p.2 q.2.2) l g /\
   ∃o B I,h.get? a=some o/\o.ExactDict/\o.data=.dict B I/\B.toList=g.map (entryOfKey (Rc (D5 P w)))/\(g.map (·.1)).Nodup
 | .set S n=>h.SetOf (intKind P w) a S n
 | .ins C m fs=>H m=some (.own a)/\fs.length<=1000/\m≠a/\h.get? a=some (DF C m) /\
   ∃i,h.Ns1 m i/\(∀f,Nf (fs.lookup f) (i f))/\TB i (fs.map (·.1))
 | .own _=>∃o,h.get? a=some o
 | .xd fs=>∃i,h.Ns1 a i/\∀f,Nf (fs.lookup f) (i f)
 | .rng lo J=>∃t u v,h.get? a=some { cls:=.type "range",data:=.fields #[.int lo t,.int J u,.int 1 v] }
 | .frz o u=>h.get? a=some o/\CK H h a u
 | .tbl L=>h.get? a=some { cls:=.none,data:=.fields L }
 | .met f x=>h.get? a=some (MM (.ref f) (.ref x))
 | .ext s=>s h/\(∃o,h.get? a=some o)/\∀E G:Bt,s E->(∀o,E.get? a=some o->G.get? a=some o)->s G
noncomputable def HOk(H:Hp)(h:Bt):Prop:=∀a o,H a=some o->CK P w H h a o
end
section
variable{P:A3}{w:BR}{H H':Hp}{h h':Bt}{a:AJ}{o:HO}
theorem CK.lt(x:CK P w H h a o):a < h.objs.size:=by
 cases o with
 | lst g=>obtain⟨_,_,_,_,e⟩:=x;exact AV e
 | tup g=>obtain⟨_,_,_,p⟩:=x;exact p.lt
 | dK i=>obtain⟨_,_,_,_,o,_,_,e,_⟩:=x;exact AV e
 | dT i=>obtain⟨_,_,_,_,o,_,_,e,_⟩:=x;exact AV e
 | set S n=>obtain⟨o,_,_,_,e,_⟩:=x;exact AV e
 | ins C j fs=>obtain⟨_,_,_,e,_⟩:=x;exact AV e
 | own y=>obtain⟨_,e⟩:=x;exact AV e
 | xd fs=>obtain⟨_,⟨_,_,_,e,_⟩,_⟩:=x;exact AV e
 | rng lo l=>obtain⟨_,_,_,e⟩:=x;exact AV e
 | frz m u=>obtain⟨e,_⟩:=x;exact AV e
 | tbl s=>exact AV (show h.get? a=some _ from x)
 | met f y=>exact AV (show h.get? a=some _ from x)
 | ext A=>obtain⟨_,⟨_,e⟩,_⟩:=x;exact AV e
theorem Gc.mapP{j l:Type}{F G:j->l->Prop}:∀{g:List j} {i:List l},Gc F g i->(∀a b,F a b->G a b)->Gc G g i
 | _,_,.nil,_=>.nil
 | _,_,.cons r t,f=>.cons (f _ _ r) (Gc.mapP t f)
theorem CK.stay(x:CK P w H h a o)(k:∀b u,(b=a∨H b=some (.own a))->h.get? b=some u->h'.get? b=some u)
  (ho:∀b,H b=some (.own a)->H' b=some (.own a)) (E:∀b xs,H b=some (.tup xs)->H' b=some (.tup xs)):CK P w H' h' a o:=by
 induction o with
 | lst xs=>obtain⟨z,l,n,r,e⟩:=x;exact⟨z,l,n,r,k _ _ (.inl rfl) e⟩
 | tup xs=>obtain⟨⟨z,G,m,I⟩,l,r,g,e,c⟩:=x;exact⟨⟨z,G,k _ _ (.inl rfl) m,I⟩,l,r,g,k _ _ (.inl rfl) e,c⟩
 | dK J=>obtain⟨z,y,L,r,g,i,j,e,c⟩:=x;exact⟨z,y,L,r,g,i,j,k _ _ (.inl rfl) e,c⟩
 | dT J=>
  obtain⟨z,y,xs,r,g,i,j,e,c⟩:=x;exact⟨z,y,xs,Gc.mapP r λp q z=>⟨z.1,E _ _ z.2.1,z.2.2⟩,g,i,j,k _ _ (.inl rfl) e,c⟩
 | set S n=>obtain⟨g,i,j,t,e,c⟩:=x;exact⟨g,i,j,t,k _ _ (.inl rfl) e,c⟩
 | ins C Q fs=>
  obtain⟨d,z,N,e,s,⟨A,i,j,m,c⟩,r⟩:=x;exact⟨ho _ d,z,N,k _ _ (.inl rfl) e,s,⟨A,i,j,k _ _ (.inr d) m,c⟩,r⟩
 | own y=>obtain⟨g,e⟩:=x;exact⟨g,k _ _ (.inl rfl) e⟩
 | xd fs=>obtain⟨s,⟨A,i,j,e,c⟩,r⟩:=x;exact⟨s,⟨A,i,j,k _ _ (.inl rfl) e,c⟩,r⟩
 | rng lo R=>obtain⟨t,u,v,e⟩:=x;exact⟨t,u,v,k _ _ (.inl rfl) e⟩
 | frz g u O=>obtain⟨e,q⟩:=x;exact⟨k _ _ (.inl rfl) e,O q⟩
 | tbl B=>
  have e:h.get? a=some { cls:=.none,data:=.fields B }:=x;show h'.get? a=some { cls:=.none,data:=.fields B };exact k a _ (.inl rfl) e
 | met f y=>
  have e:h.get? a=some (MM (.ref f) (.ref y)):=x;show h'.get? a=some (MM (.ref f) (.ref y));exact k a _ (.inl rfl) e
 | ext T=>obtain⟨p,⟨o,e⟩,st⟩:=x;exact⟨st _ _ p λo q=>k _ _ (.inl rfl) q,⟨o,k _ _ (.inl rfl) e⟩,st⟩
theorem HOk.lt(x:HOk P w H h)(e:H a=some o):a < h.objs.size:=(x a o e).lt
theorem HOk.fresh(x:HOk P w H h)(e:h.objs.size<=a):H a=none:=by
 cases q:H a with
 | none=>rfl
 | some u=>exact zX (AY (x.lt q) e) (Cf _)
theorem HOk.kept(x:HOk P w H h)(k:∀b u,h.get? b=some u->h'.get? b=some u):HOk P w H h':=λa o e=>
 (x a o e).stay (λb u _ q=>k b u q) (λ_ q=>q) λ_ _ q=>q
theorem HOk.laid(x:HOk P w H h)(k:∀b u,h.get? b=some u->h'.get? b=some u)(i:h.objs.size<=a)(new:CK P w (upd H a o) h' a o):HOk P w (upd H a o) h':=λb u e=>by
 have g:=x.fresh i
 by_cases hb:b=a
 ·subst hb;rw[BU]at e;cases e;exact new
 ·rw[A5 hb]at e
  exact(x b u e).stay (λc v _ q=>k c v q) (λc q=>by rw[A5 (BQ q g)];exact q) λc j q=>by rw[A5 (BQ q g)];exact q
end
noncomputable def Rd(H:Hp)(a:AJ)(u:HO):Prop:=H a=some u∨∃o,H a=some (.frz o u)
theorem Rd.ok(r:Rd H a u)(x:HOk P w H h):CK P w H h a u:=by
 rcases r with r | ⟨o,r⟩
 ·exact x a u r
 ·obtain⟨_,q⟩:=x a _ r
  exact q
noncomputable def Mut:Option HO->Prop
 | some (.lst _)=>True
 | some (.dK _)=>True
 | some (.dT _)=>True
 | some (.set _ _)=>True
 | some (.ins _ _ _)=>True
 | some (.ext _)=>True
 | _=>False
section
variable{P:A3}{w:BR}{H:Hp}{h h':Bt}{x e:AJ}
theorem HOk.write(ok:HOk P w H h)(i:Mut (H x))(m:e=x∨H e=some (.own x))(k:∀b u,b≠e->h.get? b=some u->h'.get? b=some u)(B:∃u,h'.get? e=some u)
  (new:CK P w (upd H x o) h' x o):HOk P w (upd H x o) h':=λb u q=>by
 have s:∀c y,H c=some (.own y)->c≠x:=λc y r z=>by subst z;rw[r]at i;exact i
 have C:∀c j,H c=some (.tup j)->c≠x:=λc j r z=>by subst z;rw[r]at i;exact i
 by_cases hb:b=x
 ·subst hb;rw[BU]at q;cases q;exact new
 ·rw[A5 hb]at q
  by_cases g:b=e
  ·have A:H b=some (.own x):=by
    rcases m with z | z
    ·exact zX (g.trans z) hb
    ·rw[g];exact z
   rw[q]at A;cases A;obtain⟨v,E⟩:=B;exact⟨v,by rw[g];exact E⟩
  ·refine(ok b u q).stay (λc v l r=>k c v ?_ r) (λc r=>by rw[A5 (s c b r)];exact r) λc j r=>by rw[A5 (C c j r)];exact r
   rcases l with rfl | l
   ·exact g
   ·rintro rfl
    rcases m with z | z
    ·exact s c b l z
    ·rw[l]at z;cases z;exact hb rfl
end
structure Un(fs ex:List AJ)(H H':Hp)(h h':Bt):Prop where
 keep:∀b o,h.get? b=some o->H b=none->b∉fs->b∉ex->h'.get? b=some o
 slot:∀b o,h.get? b=some o->H b=none->b∈fs->b∉ex->∃sl,h'.get? b=some { o with slots:=sl }
 free:∀b o,h.get? b=some o->H b=none->b∉ex->H' b=none
 there:∀b o,h.get? b=some o->b∉ex->∃o',h'.get? b=some o'
 tups:∀b xs,H b=some (.tup xs)->H' b=some (.tup xs)
 frzs:∀b o u,H b=some (.frz o u)->H' b=some (.frz o u)
 tbls:∀b ps,H b=some (.tbl ps)->∃more,H' b=some (.tbl (ps++more))
section
variable{fs ex:List AJ}{H H1:Hp}{h h1 h':Bt}{a x e:AJ}{o:HO}
theorem Un.any(u:Un fs ex H H1 h h1)(q:h.get? b=some g)(n:H b=none)(i:b∉ex):∃sl,h1.get? b=some { g with slots:=sl }:=by
 by_cases hb:b∈fs
 ·exact u.slot b g q n hb i
 ·exact⟨g.slots,u.keep b g q n hb i⟩
theorem Un.kept(k:∀b u,h.get? b=some u->h'.get? b=some u):Un fs ex H H h h':=
 ⟨λb g q _ _ _=>k b g q,λb g q _ _ _=>⟨g.slots,k b g q⟩,λ_ _ _ n _=>n,λb g q _=>⟨g,k b g q⟩,λ_ _ q=>q,λ_ _ _ q=>q,λ_ i q=>⟨#[],by rw[q];simp⟩⟩
theorem Un.refl:Un fs ex H H h h:=Un.kept λ_ _ q=>q
theorem Un.laid(k:∀b u,h.get? b=some u->h'.get? b=some u)(i:h.objs.size<=a)(g:H a=none):Un fs ex H (upd H a o) h h' where
 keep:=λb u q _ _ _=>k b u q
 slot:=λb u q _ _ _=>⟨u.slots,k b u q⟩
 free:=λb u q n _=>by rw[A5 (Al (AY (AV q) i))];exact n
 there:=λb u q _=>⟨u,k b u q⟩
 tups:=λb j q=>by rw[A5 (BQ q g)];exact q
 frzs:=λb u j q=>by rw[A5 (BQ q g)];exact q
 tbls:=λb l q=>⟨#[],by rw[A5 (BQ q g),q];simp⟩
theorem Un.write(i:Mut (H x))(l:e=x∨H e=some (.own x))(k:∀b u,b≠e->h.get? b=some u->h'.get? b=some u)(m:∃u,h'.get? e=some u):Un fs ex H (upd H x o) h h':=by
 have j:∀b,H b=none->b≠x:=λb n z=>by subst z;rw[n]at i;exact i
 have hb:∀b,H b=none->b≠e:=λb n z=>by
  subst z
  rcases l with r | r
  ·exact j b n r
  ·rw[n]at r;cases r
 have hm:∀b u,H b=some u->¬Mut (some u)->b≠x:=λb u q s z=>by subst z;rw[q]at i;exact s i
 refine⟨λb u q n _ _=>k b u (hb b n) q,λb u q n _ _=>⟨u.slots,k b u (hb b n) q⟩,λb u q n _=>by rw[A5 (j b n)];exact n,λb u q _=>?_,
  λb A q=>by rw[A5 (hm b _ q λz=>z)];exact q,λb u A q=>by rw[A5 (hm b _ q λz=>z)];exact q,λb B q=>⟨#[],by rw[A5 (hm b _ q λz=>z),q];simp⟩⟩
 by_cases g:b=e
 ·subst g;exact m
 ·exact⟨u,k b u g q⟩
end
noncomputable def trk(h:Bt)(H:Hp):List AJ:=(Bd h.objs.size).filter λa=>(H a).isSome
noncomputable def SZ(h:Bt)(H:Hp):Bt:=Jn h (trk h H)
theorem YD(h:Bt)(H:Hp):(SZ h H).objs.size=h.objs.size:=PySem.W.hideAll_size _ _
theorem bA(e:h.get? b=some o)(n:H b=none):(SZ h H).get? b=some o:=
 UX _ e λhm=>by
  have q:(H b).isSome=true:=(cS.mp hm).2;rw[n]at q;simp at q
theorem dw(e:(SZ h H).get? b=some o):h.get? b=some o/\H b=none:=by
 have g:h.get? b=some o:=Lb (trk h H) e;refine⟨g,?_⟩
 cases q:H b with
 | none=>rfl
 | some x=>
  have hm:b∈trk h H:=cS.mpr ⟨Ea.mpr (AV g),by simp[q]⟩;have z:(SZ h H).get? b=none:=KH (trk h H) hm;rw[z]at e;cases e
structure Mod(K:AC)(mg:Str->Option AD)(base:Bt):Prop where
 kin:K.In base
 glob:base.Ns As mg
 blt:∃mb,base.Ns Uj mb/\∀x:Str,x≠"__name__"->mb x=E1 x
 nolimit:base.NoLimit
structure Cx where
 prog:A3
 w:BR
 K:AC
 mg:Str->Option AD
 base:Bt
 A:BO
 N:List Str
 s₀:AG
 H₀:Hp
 env:Env
 outer:List Env
 stack:List Env
 ex:List AJ
 fn:Str->Bool
 calm:Bool
 pn:List (AJ×Obj)
 xe:AD->AG->Prop
noncomputable def frs(l:List Env):List AJ:=l.filterMap (·.frame)
noncomputable abbrev Cx.fs(X:Cx):List AJ:=frs X.outer
noncomputable def Vis(g:QO)(x:Str):Prop:=g.names.lookup x=some .local∨g.names.lookup x=some .cell∨g.names.lookup x=some .free
noncomputable def Loc(g:QO)(x:Str):Prop:=g.names.lookup x=some .local∨g.names.lookup x=some .cell
noncomputable def Look(env:Env)(h:Bt)(m:Str->Option AD)(x:Str)(u:AD):Prop:=
 (env.kindOf x=some .local/\m x=some u)∨((env.kindOf x=some .cell∨env.kindOf x=some .free)/\∃c,env.cells.lookup x=some c/\h.IsCell c (some u))
structure Cx.Ok(X:Cx):Prop where
 mod:Mod X.K X.mg X.base
 kind:X.env.scope.kind=.function
 glob:X.env.globals=As
 blt:X.env.builtins=Uj
 above:X.s₀.heap.objs.size<=X.env.locals
 inj:∀x y c,X.env.cells.lookup x=some c->X.env.cells.lookup y=some c->x=y
 has:∀x,(X.env.kindOf x=some .cell∨X.env.kindOf x=some .free)->∃c,X.env.cells.lookup x=some c
 cab:∀x c,X.fn x=true->X.env.cells.lookup x=some c->X.s₀.heap.objs.size<=c
 hd:X.calm=true->X.A.handled=none
 frames:X.A.frames=some X.stack
 stk:X.stack=X.outer∨(X.stack=X.env :: X.outer/\X.env.frame=some X.env.locals)
 exf:∀b∈X.ex,b≠X.env.locals/\∀x c,X.env.cells.lookup x=some c->c≠b
 bs:∀b o,X.base.get? b=some o->X.s₀.heap.get? b=some o/\X.H₀ b=none
 bsz:X.base.objs.size<=X.s₀.heap.objs.size
 noex:∀b o,X.base.get? b=some o->b∉X.ex
 exfs:∀b∈X.ex,b∉X.fs
 funs:X.s₀.heap.FunFrames X.base X.outer
 frf:∀b∈X.fs,X.H₀ b=none
structure Inv(X:Cx)(ζ:List (AJ×Obj))(σ:List (Option V))(H:Hp)(s:AG):Prop where
 ok:X.Ok
 os:s.os=X.s₀.os
 bare:HV s.gens
 base:Un X.fs X.ex X.H₀ H X.s₀.heap s.heap
 loc:∃m,s.heap.Ns X.env.locals m/\∀(i:Nat) (x:Str) (v:V),X.N[i]?=some x->σ[i]?=some (some v)->Vis X.env.scope x->∃u,RelV v u/\Look X.env s.heap m x u
 cell:∀x c,X.env.cells.lookup x=some c->∃v,s.heap.IsCell c v
 free:H X.env.locals=none
 freeC:∀x c,X.env.cells.lookup x=some c->H c=none
 pin:∀p∈X.pn++ζ,s.heap.get? p.1=some p.2/\H p.1=none/\p.1≠X.env.locals/\p.1∉X.fs/\∀v,p.2.data≠.cell v
 hok:HOk X.prog X.w H s.heap
 len:σ.length=X.N.length
section
variable{X:Cx}{ζ:List (AJ×Obj)}{σ:List (Option V)}{H H':Hp}{s:AG}{h':Bt}
theorem Cx.Ok.nofr(ok:X.Ok)(e:X.base.get? b=some o):b∉X.fs:=λhb=>by
 have:=(ok.funs.mem hb).1;rw[e]at this;cases this
theorem Inv.bs(I:Inv X ζ σ H s):∀b o,X.base.get? b=some o->s.heap.get? b=some o/\H b=none:=λb o e=>
 ⟨I.base.keep b o (I.ok.bs b o e).1 (I.ok.bs b o e).2 (I.ok.nofr e) (I.ok.noex b o e),I.base.free b o (I.ok.bs b o e).1 (I.ok.bs b o e).2 (I.ok.noex b o e)⟩
theorem Inv.bk(I:Inv X ζ σ H s):∀b o,X.base.get? b=some o->s.heap.get? b=some o:=λb o e=>(I.bs b o e).1
theorem Inv.mod(I:Inv X ζ σ H s):Mod X.K X.mg X.base:=I.ok.mod
theorem Inv.kIn(I:Inv X ζ σ H s):X.K.In s.heap:=I.ok.mod.kin.keeps I.bk
theorem Inv.lt(I:Inv X ζ σ H s):X.env.locals < s.heap.objs.size:=let ⟨_,g,_⟩:=I.loc;g.lt
theorem Inv.sz(I:Inv X ζ σ H s):X.s₀.heap.objs.size<=s.heap.objs.size:=Ae I.ok.above (KI I.lt)
theorem Inv.nofs(I:Inv X ζ σ H s)(h:s.heap.objs.size<=a):a∉X.fs:=λhb=>by
 obtain⟨_,o,g,_⟩:=I.ok.funs.mem hb;exact zX (AY (AV g) (Ae I.sz h)) (Cf _)
theorem Inv.cne(I:Inv X ζ σ H s):∀x c,X.env.cells.lookup x=some c->c≠X.env.locals:=λx c e z=>by
 obtain⟨v,o,g,i⟩:=I.cell x c e;obtain⟨m,⟨A,B,C,j,l,_⟩,_⟩:=I.loc;rw[z,j]at g;cases g;rw[l]at i;cases i
theorem Inv.funs(I:Inv X ζ σ H s):s.heap.FunFrames X.base X.outer:=by
 have all:∀(l:List Env),(∀b∈frs l,b∈X.fs)->X.s₀.heap.FunFrames X.base l->s.heap.FunFrames X.base l:=by
  intro l
  induction l with
  | nil=>intro _ _;trivial
  | cons m r A=>
   intro j B;obtain⟨C,⟨L,o,g,E,G,J⟩,N⟩:=B;have i:L∈X.fs:=j L (by unfold frs;rw[MF,g];exact Aa)
   obtain⟨sl,e⟩:=I.base.slot L o G (I.ok.frf L i) i λz=>I.ok.exfs L z i
   exact⟨C,⟨L,_,g,E,e,J⟩,A (λb hb=>j b (by unfold frs;rw[MF,g];exact AM _ hb)) N⟩
 exact all X.outer (λ_ hb=>hb) I.ok.funs
theorem Inv.stack(I:Inv X ζ σ H s):s.heap.FunFrames X.base X.stack:=by
 rcases I.ok.stk with e | ⟨e,g⟩
 ·rw[e];exact I.funs
 ·rw[e]
  obtain⟨m,i,_⟩:=I.loc;refine .cons (by rw[I.ok.kind];decide) g i ?_ I.funs;exact Gp (Ae I.ok.bsz I.ok.above)
theorem Inv.stkSub(I:Inv X ζ σ H s):∀b∈frs X.stack,b∈X.env.locals :: X.fs:=λb hb=>by
 rcases I.ok.stk with e | ⟨e,g⟩
 ·rw[e]at hb;exact AM _ hb
 ·rw[e]at hb
  unfold frs at hb;rw[MF,g]at hb;exact hb
theorem Inv.stkFree(I:Inv X ζ σ H s):∀b∈frs X.stack,H b=none:=λb hb=>by
 rcases An.mp (I.stkSub b hb)with e | hb
 ·rw[e];exact I.free
 ·obtain⟨_,o,g,_⟩:=I.ok.funs.mem hb
  exact I.base.free b o g (I.ok.frf b hb) λz=>I.ok.exfs b z hb
theorem Inv.step{g':Array Uz}{t':Nat}{d':Drawn}{ch:List AJ}(I:Inv X ζ σ H s)
  (E:∀b∈ch,(b∈X.ex∨X.s₀.heap.objs.size<=b)/\b≠X.env.locals/\(∀x c,X.env.cells.lookup x=some c->c≠b)/\∀p∈X.pn++ζ,p.1≠b)
  (keep:∀b o,b≠X.env.locals->b∉X.fs->b∉ch->s.heap.get? b=some o->H b=none->h'.get? b=some o)
  (B:∀b o,b≠X.env.locals->b∈X.fs->b∉ch->s.heap.get? b=some o->H b=none->∃sl,h'.get? b=some { o with slots:=sl }) (free:∀b o,b∉ch->s.heap.get? b=some o->H b=none->H' b=none)
  (there:∀b o,b∉ch->s.heap.get? b=some o->∃G,h'.get? b=some G)
  (J:∀b xs,H b=some (.tup xs)->H' b=some (.tup xs)) (L:∀b o u,H b=some (.frz o u)->H' b=some (.frz o u)) (N:∀b ps,H b=some (.tbl ps)->∃more,H' b=some (.tbl (ps++more)))
  (ns:∀m,s.heap.Ns X.env.locals m->h'.Ns X.env.locals m) (R:HOk X.prog X.w H' h') (hg:HV g') :
  Inv X ζ σ H' { s with heap:=h',gens:=g',drawn:=d',toks:=t' }:=by
 have T:∀b o,X.s₀.heap.get? b=some o->b≠X.env.locals:=λb o e=>Al (AY (AV e) I.ok.above)
 have Q:∀b o,X.s₀.heap.get? b=some o->b∉X.ex->b∉ch:=λb o e g hb=>by
  rcases(E b hb).1 with z | z
  ·exact g z
  ·exact zX (AY (AV e) z) (Cf _)
 have j:∀x c,X.env.cells.lookup x=some c->∀v,s.heap.IsCell c v->h'.IsCell c v:=by
  rintro x c e v ⟨o,C,S⟩
  have O:c∉ch:=λz=>(E c z).2.2.1 x c e rfl
  by_cases U:c∈X.fs
  ·obtain⟨sl,q⟩:=B c o (I.cne x c e) U O C (I.freeC x c e)
   exact⟨_,q,S⟩
  ·exact⟨o,keep c o (I.cne x c e) U O C (I.freeC x c e),S⟩
 refine⟨I.ok,I.os,hg,⟨λb o e n hb g=>?_,λb o e n hb g=>?_,λb o e n g=>?_,λb o e g=>?_,λb xs e=>J b xs (I.base.tups b xs e),λb o xs e=>L b o xs (I.base.frzs b o xs e),λb ps e=>?_⟩,?_,λx c e=>?_,?_,λx c e=>?_,λp Y=>?_,R,I.len⟩
 ·exact keep b o (T b o e) hb (Q b o e g) (I.base.keep b o e n hb g) (I.base.free b o e n g)
 ·obtain⟨sl,A⟩:=I.base.slot b o e n hb g
  obtain⟨vy,P⟩:=B b _ (T b o e) hb (Q b o e g) A (I.base.free b o e n g);exact⟨vy,P⟩
 ·obtain⟨G,A⟩:=I.base.there b o e g
  exact free b G (Q b o e g) A (I.base.free b o e n g)
 ·obtain⟨G,A⟩:=I.base.there b o e g
  exact there b G (Q b o e g) A
 ·obtain⟨m1,A⟩:=I.base.tbls b ps e
  obtain⟨m2,P⟩:=N b _ A;exact⟨m1++m2,by rw[P,Xa]⟩
 ·obtain⟨m,hn,hl⟩:=I.loc
  refine⟨m,ns m hn,λi x v A P e3=>?_⟩;obtain⟨u,r,l⟩:=hl i x v A P e3;refine⟨u,r,?_⟩
  rcases l with l | ⟨k,c,e,z⟩
  ·exact .inl l
  ·exact .inr ⟨k,c,e,j x c e _ z⟩
 ·obtain⟨v,z⟩:=I.cell x c e
  exact⟨v,j x c e v z⟩
 ·obtain⟨m,⟨o,_,_,C,_⟩,_⟩:=I.loc
  exact free _ o (λz=>(E _ z).2.1 rfl) C I.free
 ·obtain⟨v,o,C,S⟩:=I.cell x c e
  exact free c o (λz=>(E c z).2.2.1 x c e rfl) C (I.freeC x c e)
 ·obtain⟨e,n,Z,nf,d⟩:=I.pin p Y
  have O:p.1∉ch:=λz=>(E p.1 z).2.2.2 p Y rfl
  exact⟨keep p.1 p.2 Z nf O e n,free p.1 p.2 O e n,Z,nf,d⟩
theorem Inv.stepN{g':Array Uz}{t':Nat}{d':Drawn}{ch:List AJ}(I:Inv X ζ σ H s)
  (E:∀b∈ch,(b∈X.ex∨X.s₀.heap.get? b=none)/\b≠X.env.locals/\(∀x c,X.env.cells.lookup x=some c->c≠b)/\∀p∈X.pn++ζ,p.1≠b)
  (keep:∀b o,b≠X.env.locals->b∉X.fs->b∉ch->s.heap.get? b=some o->H b=none->h'.get? b=some o)
  (B:∀b o,b≠X.env.locals->b∈X.fs->b∉ch->s.heap.get? b=some o->H b=none->∃sl,h'.get? b=some { o with slots:=sl }) (free:∀b o,b∉ch->s.heap.get? b=some o->H b=none->H' b=none)
  (there:∀b o,b∉ch->s.heap.get? b=some o->∃G,h'.get? b=some G)
  (J:∀b xs,H b=some (.tup xs)->H' b=some (.tup xs)) (L:∀b o u,H b=some (.frz o u)->H' b=some (.frz o u)) (N:∀b ps,H b=some (.tbl ps)->∃more,H' b=some (.tbl (ps++more)))
  (ns:∀m,s.heap.Ns X.env.locals m->h'.Ns X.env.locals m) (R:HOk X.prog X.w H' h') (hg:HV g') :
  Inv X ζ σ H' { s with heap:=h',gens:=g',drawn:=d',toks:=t' }:=by
 have T:∀b o,X.s₀.heap.get? b=some o->b≠X.env.locals:=λb o e=>Al (AY (AV e) I.ok.above)
 have Q:∀b o,X.s₀.heap.get? b=some o->b∉X.ex->b∉ch:=λb o e g hb=>by
  rcases(E b hb).1 with z | z
  ·exact g z
  ·rw[z]at e;cases e
 have j:∀x c,X.env.cells.lookup x=some c->∀v,s.heap.IsCell c v->h'.IsCell c v:=by
  rintro x c e v ⟨o,C,S⟩
  have O:c∉ch:=λz=>(E c z).2.2.1 x c e rfl
  by_cases U:c∈X.fs
  ·obtain⟨sl,q⟩:=B c o (I.cne x c e) U O C (I.freeC x c e)
   exact⟨_,q,S⟩
  ·exact⟨o,keep c o (I.cne x c e) U O C (I.freeC x c e),S⟩
 refine⟨I.ok,I.os,hg,⟨λb o e n hb g=>?_,λb o e n hb g=>?_,λb o e n g=>?_,λb o e g=>?_,λb xs e=>J b xs (I.base.tups b xs e),λb o xs e=>L b o xs (I.base.frzs b o xs e),λb ps e=>?_⟩,?_,λx c e=>?_,?_,λx c e=>?_,λp Y=>?_,R,I.len⟩
 ·exact keep b o (T b o e) hb (Q b o e g) (I.base.keep b o e n hb g) (I.base.free b o e n g)
 ·obtain⟨sl,A⟩:=I.base.slot b o e n hb g
  obtain⟨vy,P⟩:=B b _ (T b o e) hb (Q b o e g) A (I.base.free b o e n g);exact⟨vy,P⟩
 ·obtain⟨G,A⟩:=I.base.there b o e g
  exact free b G (Q b o e g) A (I.base.free b o e n g)
 ·obtain⟨G,A⟩:=I.base.there b o e g
  exact there b G (Q b o e g) A
 ·obtain⟨m1,A⟩:=I.base.tbls b ps e
  obtain⟨m2,P⟩:=N b _ A;exact⟨m1++m2,by rw[P,Xa]⟩
 ·obtain⟨m,hn,hl⟩:=I.loc
  refine⟨m,ns m hn,λi x v A P e3=>?_⟩;obtain⟨u,r,l⟩:=hl i x v A P e3;refine⟨u,r,?_⟩
  rcases l with l | ⟨k,c,e,z⟩
  ·exact .inl l
  ·exact .inr ⟨k,c,e,j x c e _ z⟩
 ·obtain⟨v,z⟩:=I.cell x c e
  exact⟨v,j x c e v z⟩
 ·obtain⟨m,⟨o,_,_,C,_⟩,_⟩:=I.loc
  exact free _ o (λz=>(E _ z).2.1 rfl) C I.free
 ·obtain⟨v,o,C,S⟩:=I.cell x c e
  exact free c o (λz=>(E c z).2.2.1 x c e rfl) C (I.freeC x c e)
 ·obtain⟨e,n,Z,nf,d⟩:=I.pin p Y
  have O:p.1∉ch:=λz=>(E p.1 z).2.2.2 p Y rfl
  exact⟨keep p.1 p.2 Z nf O e n,free p.1 p.2 O e n,Z,nf,d⟩
theorem Inv.un{t':Nat}(I:Inv X ζ σ H s)(u:Un X.fs [] H H' s.heap h')(g:HOk X.prog X.w H' h'):Inv X ζ σ H' { s with heap:=h',toks:=t' }:=by
 obtain⟨m,⟨o,E,G,i,r⟩,_⟩:=id I.loc;obtain⟨sl,l⟩:=u.any i I.free (by simp)
 exact I.step (g':=s.gens) (d':=s.drawn) (ch:=[]) (λ_ z=>nomatch z) (λb o _ hb _ e n=>u.keep b o e n hb (by simp)) (λb o _ hb _ e n=>u.slot b o e n hb (by simp)) (λb o _ e n=>u.free b o e n (by simp)) (λb o _ e=>u.there b o e (by simp)) u.tups u.frzs u.tbls (λJ hm=>by
  obtain⟨L,A,B,j,C⟩:=hm;rw[i]at j;cases j
  exact⟨_,A,B,l,C⟩) g I.bare
theorem Inv.call{g':Array Uz}{t':Nat}{d':Drawn}{ch:List AJ}(I:Inv X ζ σ H s)(u:Un (frs X.stack) ch H H' s.heap h')(i:HOk X.prog X.w H' h')(C:HV g')
  (l:∀b∈ch,(b∈X.ex∨X.s₀.heap.objs.size<=b)/\b≠X.env.locals/\(∀x c,X.env.cells.lookup x=some c->c≠b)/\∀p∈X.pn++ζ,p.1≠b) :
  Inv X ζ σ H' { s with heap:=h',gens:=g',drawn:=d',toks:=t' }:=by
 obtain⟨m,⟨o,L,N,A,r⟩,_⟩:=id I.loc
 obtain⟨sl,j⟩:=u.any A I.free λz=>(l _ z).2.1 rfl
 exact I.step (ch:=ch) l (λb o j hb g e n=>u.keep b o e n (λz=>(An.mp (I.stkSub b z)).elim j hb) g) (λb o _ _ g e n=>u.any e n g) (λb o g e n=>u.free b o e n g) (λb o g e=>u.there b o e g) u.tups u.frzs u.tbls (λO hm=>by
  obtain⟨P,E,G,B,J⟩:=hm;rw[A]at B;cases B
  exact⟨_,E,G,j,J⟩) i C
theorem Inv.turned{t':Nat}{it:AJ}(I:Inv X ζ σ H s)(k:∀b o,b≠it->s.heap.get? b=some o->h'.get? b=some o)(l:H it=none)(i:it≠X.env.locals)
  (A:it∈X.ex∨X.s₀.heap.objs.size<=it) (B:∀x c,X.env.cells.lookup x=some c->c≠it) (C:∀p∈X.pn++ζ,p.1≠it):Inv X ζ σ H { s with heap:=h',toks:=t' }:=by
 have j:∀b u,H b=some u->b≠it:=λb u e z=>by rw[z,l]at e;cases e
 refine I.step (g':=s.gens) (d':=s.drawn) (ch:=[it]) (λb hb=>?_) (λb o _ _ g e _=>k b o (λz=>g (by simp[z])) e) (λb o _ _ g e _=>⟨o.slots,k b o (λz=>g (by simp[z])) e⟩) (λ_ _ _ _ n=>n)
  (λb o g e=>⟨o,k b o (λz=>g (by simp[z])) e⟩) (λ_ _ e=>e) (λ_ _ _ e=>e) (λb L e=>⟨#[],by rw[e];simp⟩) (λm hm=>?_) (λb u e=>?_) I.bare
 ·have e:b=it:=by simpa using hb
  subst e;exact⟨A,i,B,C⟩
 ·obtain⟨o,E,G,J,r⟩:=hm
  exact⟨o,E,G,k _ o (B8 i) J,r⟩
 ·refine(I.hok b u e).stay (λc v g q=>k c v ?_ q) (λ_ q=>q) λ_ _ q=>q
  rcases g with z | z
  ·rw[z];exact j b u e
  ·exact j c _ z
theorem Inv.tok(I:Inv X ζ σ H s)(t:Nat):Inv X ζ σ H { s with toks:=t }:=I.un (h':=s.heap) (t':=t) Un.refl I.hok
theorem Inv.kept(I:Inv X ζ σ H s)(k:∀b u,s.heap.get? b=some u->h'.get? b=some u):Inv X ζ σ H { s with heap:=h',toks:=t' }:=I.un (Un.kept k) (I.hok.kept k)
theorem Inv.laid(I:Inv X ζ σ H s)(k:∀b u,s.heap.get? b=some u->h'.get? b=some u)(g:s.heap.objs.size<=a)(new:CK X.prog X.w (upd H a o) h' a o) :
  Inv X ζ σ (upd H a o) { s with heap:=h',toks:=t' }:=I.un (Un.laid k g (I.hok.fresh g)) (I.hok.laid k g new)
theorem Inv.write(I:Inv X ζ σ H s)(g:Mut (H x))(i:e=x∨H e=some (.own x))(k:∀b u,b≠e->s.heap.get? b=some u->h'.get? b=some u)(j:∃u,h'.get? e=some u)
  (new:CK X.prog X.w (upd H x o) h' x o):Inv X ζ σ (upd H x o) { s with heap:=h',toks:=t' }:=I.un (Un.write g i k j) (I.hok.write g i k j new)
theorem Inv.pins_of(I:Inv X ζ σ H s)(h:∀p∈pins',s.heap.get? p.1=some p.2/\H p.1=none/\p.1≠X.env.locals/\p.1∉X.fs/\∀v,p.2.data≠.cell v):Inv X pins' σ H s:=
 ⟨I.ok,I.os,I.bare,I.base,I.loc,I.cell,I.free,I.freeC,λp g=>(Ax.mp g).elim (λz=>I.pin p (Eb _ z)) (h p),I.hok,I.len⟩
theorem Pk{N:List Str}(g:N.Nodup){i j:Nat}{x:Str}(a:N[i]?=some x)(b:N[j]?=some x):i=j:=by
 obtain⟨o,l⟩:=AI.mp a;obtain⟨A,m⟩:=AI.mp b;exact(List.getElem_inj g).mp (l.trans m.symm)
theorem Q6{M:Model}{A:BO}{E:AD->AG->Prop}{i:Nat}{x:Str}{v:V}{u:AD}{Q:Unit->AG->Prop}(I:Inv X ζ σ H s)(hN:X.N.Nodup)(hi:X.N[i]?=some x)(G:Loc X.env.scope x)(r:RelV v u)
  (h:∀s',Inv X ζ (σ.set i (some v)) H s'->(∃a,Ek a s.heap s'.heap/\(a=X.env.locals∨X.env.cells.lookup x=some a))->Q () s') (hf:X.fn x=true∨X.env.scope.names.lookup x=some .local:=by first | exact .inl rfl | exact .inr rfl | assumption):AZ M A (storeName X.env x u) Q E s:=by
 obtain⟨m,T,hl⟩:=id I.loc
 have vA:(X.env.scope.kind==.class||(X.env.scope.kind==.module&&X.env.locals != X.env.globals))=false:=by rw[I.ok.kind];rfl
 have yr:i < σ.length:=by rw[I.len];exact(AI.mp hi).1
 have cne:=I.cne
 have l:∀{a:AJ} {h':Bt},(∃o,s.heap.get? a=some o/\H a=none)->Ek a s.heap h'->HOk X.prog X.w H h':=λ{a h'} ha g b ob e=>by
  obtain⟨_,_,qO⟩:=ha
  refine(I.hok b ob e).stay (λc w' C q=>(g.2 c ?_).trans q) (λ_ q=>q) λ_ _ q=>q
  rintro rfl
  rcases C with rfl | C
  ·rw[qO]at e;cases e
  ·rw[qO]at C;cases C
 rcases G with L | L
 ·refine wpAny_storeName_local L T (λh' oE g=>?_) vA
  obtain⟨oL,_,_,yt,_⟩:=id T;refine h _ ⟨I.ok,I.os,I.bare,⟨λb o e n hb G=>?_,λb o e n hb G=>?_,I.base.free,λb o e G=>?_,I.base.tups,I.base.frzs,I.base.tbls⟩,⟨_,oE,λj y U B J Y=>?_⟩,λy c e=>?_,I.free,I.freeC,λp Z=>?_,l ⟨oL,yt,I.free⟩ g,by simpa using I.len⟩ ⟨_,g,.inl rfl⟩
  ·exact(g.2 b (Al (AY (AV e) I.ok.above))).trans (I.base.keep b o e n hb G)
  ·obtain⟨sl,B⟩:=I.base.slot b o e n hb G
   exact⟨sl,(g.2 b (Al (AY (AV e) I.ok.above))).trans B⟩
  ·obtain⟨o',B⟩:=I.base.there b o e G
   exact⟨o',(g.2 b (Al (AY (AV e) I.ok.above))).trans B⟩
  ·by_cases O:j=i
   ·subst O
    rw[hi]at B;cases B;rw[A4 yr]at J;cases J;exact⟨u,r,.inl ⟨L,by simp⟩⟩
   ·rw[BF (B8 O)]at J
    obtain⟨u',r',q⟩:=hl j y U B J Y;refine⟨u',r',?_⟩
    rcases q with⟨k,e⟩ | ⟨k,c,e,z⟩
    ·refine .inl ⟨k,?_⟩
     have:y≠x:=λe=>O (Pk hN B (e▸hi))
     simp[this,e]
    ·exact .inr ⟨k,c,e,z.sameBut g (cne y c e)⟩
  ·obtain⟨w',z⟩:=I.cell y c e
   exact⟨w',z.sameBut g (cne y c e)⟩
  ·obtain⟨e,n,R,nf,d⟩:=I.pin p Z
   exact⟨(g.2 p.1 R).trans e,n,R,nf,d⟩
 ·have vB:X.fn x=true:=by
   rcases hf with z | z
   ·exact z
   ·rw[z]at L;cases L
  obtain⟨c,C⟩:=I.ok.has x (.inl L);obtain⟨w',z⟩:=I.cell x c C;refine wpAny_storeName_cell I.ok.kind L C z (λh' qP g=>?_);obtain⟨oc,yu,vC⟩:=id z;refine h { s with heap:=h' } ⟨I.ok,I.os,I.bare,⟨λb o e n hb G=>?_,λb o e n hb G=>?_,I.base.free,λb o e G=>?_,I.base.tups,I.base.frzs,I.base.tbls⟩,⟨m,T.sameBut g (B8 (cne x c C)),λj y U B J Y=>?_⟩,λy S e=>?_,I.free,I.freeC,λp Z=>?_,l ⟨oc,yu,I.freeC x c C⟩ g,by simpa using I.len⟩ ⟨c,g,.inr C⟩
  ·exact(g.2 b (Al (AY (AV e) (I.ok.cab x c vB C)))).trans (I.base.keep b o e n hb G)
  ·obtain⟨sl,B⟩:=I.base.slot b o e n hb G
   exact⟨sl,(g.2 b (Al (AY (AV e) (I.ok.cab x c vB C)))).trans B⟩
  ·obtain⟨o',B⟩:=I.base.there b o e G
   exact⟨o',(g.2 b (Al (AY (AV e) (I.ok.cab x c vB C)))).trans B⟩
  ·by_cases O:j=i
   ·subst O
    rw[hi]at B;cases B;rw[A4 yr]at J;cases J;exact⟨u,r,.inr ⟨.inl L,c,C,qP⟩⟩
   ·rw[BF (B8 O)]at J
    obtain⟨u',r',q⟩:=hl j y U B J Y;refine⟨u',r',?_⟩
    rcases q with q | ⟨k,S,e,z'⟩
    ·exact .inl q
    ·refine .inr ⟨k,S,e,z'.sameBut g ?_⟩
     rintro rfl;exact O (Pk hN B (I.ok.inj _ _ _ e C▸hi))
  ·by_cases P:S=c
   ·subst P;exact⟨_,qP⟩
   ·obtain⟨w2,z2⟩:=I.cell y S e
    exact⟨w2,z2.sameBut g P⟩
  ·obtain⟨e,n,R,nf,d⟩:=I.pin p Z
   refine⟨(g.2 p.1 ?_).trans e,n,R,nf,d⟩;intro q;rw[q,yu]at e;have q':oc=p.2:=C4 e;exact d w' (by rw[<-q'];exact vC)
theorem PN(I:Inv X ζ σ H s)(g:X.N.Nodup)(hi:X.N[i]?=some x)(j:Loc X.env.scope x)(r:RelV v u)
  (h:∀s',Inv X ζ (σ.set i (some v)) H s'->Q () s') (l:X.fn x=true∨X.env.scope.names.lookup x=some .local:=by first | exact .inl rfl | exact .inr rfl | assumption):AZ M A (storeName X.env x u) Q E s:=
 Q6 I g hi j r (λs' m _=>h s' m) l
theorem Inv.call'(I:Inv X ζ σ H s)(ho:s'.os=s.os)(u:Un (frs X.stack) ch H H' s.heap s'.heap)(g:HOk X.prog X.w H' s'.heap)(i:HV s'.gens)
  (j:∀b∈ch,(b∈X.ex∨X.s₀.heap.objs.size<=b)/\b≠X.env.locals/\(∀x c,X.env.cells.lookup x=some c->c≠b)/\∀p∈X.pn++ζ,p.1≠b):Inv X ζ σ H' s':=by
 obtain⟨h',g',d',t',l⟩:=s';have e:l=s.os:=ho;subst e;exact I.call (g':=g') (t':=t') (d':=d') u g i j
end
noncomputable abbrev XK:=AD->Option AJ->Hp->Prop
noncomputable abbrev St:=List (Option V)
noncomputable abbrev VK:=V->Hp->Prop
noncomputable abbrev TE:=St->Hp->VK->Prop
noncomputable abbrev TT:=St->Hp->(Bool->Hp->Prop)->Prop
noncomputable abbrev TA:=St->Hp->(List V->Hp->Prop)->Prop
structure V7 where
 nx:St->Hp->Prop
 rt:VK
 bk:St->Hp->Prop:=λ_ _=>False
 ct:St->Hp->Prop:=λ_ _=>False
noncomputable abbrev TS:=V7->St->Hp->Prop
noncomputable def EP(X:Cx)(i:List (AJ×Obj))(j:St)(Q:VK)(u:AD)(s':AG):Prop:=∃v g,Inv X i j g s'/\RelV v u/\Q v g
noncomputable def TP(X:Cx)(i:List (AJ×Obj))(j:St)(Q:Bool->Hp->Prop)(b:Bool)(s':AG):Prop:=∃g,Inv X i j g s'/\Q b g
noncomputable def AP(X:Cx)(j:List (AJ×Obj))(l:St)(Q:List V->Hp->Prop)(m:List AD)(s':AG):Prop:=∃g i,Inv X j l i s'/\Bb g m/\Q g i
noncomputable def SP(X:Cx)(j:List (AJ×Obj))(D:V7)(f:Flow)(s':AG):Prop:=
 match f with
 | .next=>∃g i,Inv X j g i s'/\D.nx g i
 | .brk=>∃g i,Inv X j g i s'/\D.bk g i
 | .cont=>∃g i,Inv X j g i s'/\D.ct g i
 | .ret u=>∃v g i,Inv X j g i s'/\RelV v u/\D.rt v i
noncomputable def PE(X:Cx)(e:Expr)(t:TE):Prop:=
 ∀(i:List (AJ×Obj)) (s:AG) (g:St) (H:Hp) (Q:VK),Inv X i g H s->t g H Q->AZ (AR X.prog X.w) X.A (Bi e X.env) (EP X i g Q) X.xe s
noncomputable def PT(X:Cx)(e:Expr)(t:TT):Prop:=
 ∀(i:List (AJ×Obj)) (s:AG) (g:St) (H:Hp) (Q:Bool->Hp->Prop),Inv X i g H s->t g H Q->AZ (AR X.prog X.w) X.A (gP e X.env (Bi e X.env)) (TP X i g Q) X.xe s
noncomputable def PW(X:Cx)(e:Expr)(t:TT):Prop:=
 ∀(g:Sem AD) (j:List (AJ×Obj)) (s:AG) (i:St) (H:Hp) (Q:Bool->Hp->Prop),Inv X j i H s->t i H Q->AZ (AR X.prog X.w) X.A (gP e X.env g) (TP X j i Q) X.xe s
theorem PW.pt(h:PW X e t):PT X e t:=h _
noncomputable def PA(X:Cx)(es:List Expr)(t:TA):Prop:=
 ∀(g:Pos) (j:List (AJ×Obj)) (s:AG) (i:St) (H:Hp) (Q:List V->Hp->Prop),Inv X j i H s->t i H Q->AZ (AR X.prog X.w) X.A (spliced (CN g (AO es X.env))) (AP X j i Q) X.xe s
noncomputable def PS(X:Cx)(st:Dr)(t:TS):Prop:=
 ∀(g:List (AJ×Obj)) (s:AG) (i:St) (H:Hp) (D:V7),Inv X g i H s->t D i H->AZ (AR X.prog X.w) X.A (exec st X.env) (SP X g D) X.xe s
noncomputable def PSs(X:Cx)(st:List Dr)(t:TS):Prop:=
 ∀(g:List (AJ×Obj)) (s:AG) (i:St) (H:Hp) (D:V7),Inv X g i H s->t D i H->AZ (AR X.prog X.w) X.A (execs st X.env) (SP X g D) X.xe s
theorem thn{g:Type}{t:Sem g}{Q i:g->AG->Prop}{M:Model}{A:BO}{E:AD->AG->Prop}{s:AG}(h:AZ M A t Q E s)(j:∀a s,Q a s->i a s):AZ M A t i E s:=BX h j λ_ _ x=>x
section
variable{X:Cx}
noncomputable def TZ(i:Nat):TE:=λg H Q=>∃v,g[i]?=some (some v)/\Q v H
noncomputable def tC(v:V):TE:=λ_ H Q=>Q v H
theorem Pe(B:X.N[i]?=some x)(C:Vis X.env.scope x)(j:(x==("__debug__" : Str))=false:=by decide) (E:(x==("__classdict__" : Str))=false:=by decide):PE X (.Name x pos) (TZ i):=by
 intro G s J H Q I h;obtain⟨v,e,h⟩:=h;obtain⟨m,L,O⟩:=I.loc;obtain⟨u,r,l⟩:=O i x v B e C;have fin:EP X G J Q u s:=⟨v,H,I,r,h⟩
 rcases l with⟨g,hm⟩ | ⟨g,c,o,A⟩
 ·exact gK (wpAny_loadName_local I.ok.kind g L hm fin) j
 ·rcases g with g | g
  ·exact gK (wpAny_loadName_cell I.ok.kind g o A fin) j
  ·exact gK (wpAny_loadName_free I.ok.kind g o A fin E) j
theorem Z4{i j pos}:PE X (.Constant (.int i) j pos) (tC (.int i)):=λ_ _ _ H _ I h=>wpAny_Constant_int ⟨.int i,H,I.tok _,⟨_,rfl⟩,h⟩
theorem lN{b j pos}:PE X (.Constant (.bool b) j pos) (tC (.bl b)):=λ_ _ _ H _ I h=>Constant_bool ⟨.bl b,H,I,rfl,h⟩
theorem ie{j pos}:PE X (.Constant .none j pos) (tC .non):=λ_ _ _ H _ I h=>Constant_none ⟨.non,H,I,rfl,h⟩
theorem VZ{x j pos}:PE X (.Constant (.str x) j pos) (tC (.str x)):=λ_ _ _ H _ I h=>Calls.Constant_str ⟨.str x,H,I.tok _,⟨_,rfl⟩,h⟩
noncomputable def Gl(X:Cx)(x:Str):Prop:=X.env.kindOf x=some .globalImplicit
theorem K6(I:Inv X j l H s)(g:Gl X x)(hm:X.mg x=some u)(h:Q u s)
  (i:(x==("__debug__" : Str))=false:=by decide):AZ (AR X.prog X.w) X.A (Bi (.Name x pos) X.env) Q E s:=
 QT I.ok.kind g (Calls.loadGlobal_global (by rw[I.ok.glob];exact I.mod.glob.keeps I.bk) hm h) i
theorem NV(I:Inv X B C H s)(g:Gl X x)(hm:X.mg x=none)(i:E1 x=some u)(h:Q u s)
  (j:x≠"__name__":=by decide) (l:(x==("__debug__" : Str))=false:=by decide):AZ (AR X.prog X.w) X.A (Bi (.Name x pos) X.env) Q E s:=by
 obtain⟨G,m,o⟩:=I.mod.blt;exact QT I.ok.kind g (Calls.loadGlobal_builtin (by rw[I.ok.glob];exact I.mod.glob.keeps I.bk) hm (by rw[I.ok.blt];exact m.keeps I.bk) ((o x j).trans i) h) l
theorem K0(g:Gl X x)(hm:X.mg x=some u)(r:RelV v u)(i:(x==("__debug__" : Str))=false:=by decide):PE X (.Name x pos) (tC v):=
 λ_ _ _ H _ I h=>K6 I g hm ⟨v,H,I,r,h⟩ i
theorem SI(g:Gl X x)(hm:X.mg x=none)(i:E1 x=some u)(r:RelV v u)(j:x≠"__name__":=by decide) (l:(x==("__debug__" : Str))=false:=by decide):PE X (.Name x pos) (tC v):=
 λ_ _ _ H _ I h=>NV I g hm i ⟨v,H,I,r,h⟩ j l
variable{a b:Expr}{ta tb:TE}{pos:Pos}
noncomputable def PC(X:Cx)(op:CmpOp)(a b:Expr)(t:TE):Prop:=
 ∀(l:List (AJ×Obj)) (s:AG) (j:St) (H:Hp) (Q:VK),Inv X l j H s->t j H Q ->
  AZ (AR X.prog X.w) X.A (Bi a X.env) (λv g=>AZ (AR X.prog X.w) X.A (Bi b X.env) (λu i=>AZ (AR X.prog X.w) X.A (BG op v u) (EP X l j Q) X.xe i) X.xe g) X.xe s
noncomputable def tB(t:TE):TT:=λg H Q=>t g H λx i=>∃c,x=.bl c/\Q c i
theorem Zu(h:PC X op a b t)(g:Ck op b=false:=by first | exact nobehind _ (by decide) (by decide) | rfl):PT X (.Compare a [op] [b] pos) (tB t):=by
 intro i s j H Q I hw;refine cB (thn (h i s j H _ I hw) λv C g=>thn g λu E l=>thn l λc G ⟨x,m,o,A,B⟩=>?_) g;obtain⟨d,rfl,q⟩:=B;cases A;exact CO ⟨m,o,q⟩
theorem iP(h:PE X e t)(i:∀g,gP e X.env g=(do let v <-g;standAt e.pos;holding [v] (truthy v)):=by intro _;rfl):PT X e (tB t):=by
 intro j s l H Q I hw;refine isTrue_plain (thn (h j s l H _ I hw) λv C ⟨x,m,o,A,B⟩=>?_) (i _);obtain⟨d,rfl,q⟩:=B;cases A;exact CO ⟨m,o,q⟩
variable{tA uX:TT}{rest:List Expr}
noncomputable def k8(t u:TT):TT:=λg H Q=>t g H λc i=>if c=true then u g i Q else Q false i
noncomputable def tOr(t u:TT):TT:=λg H Q=>t g H λc i=>if c=true then Q true i else u g i Q
noncomputable def tNot(t:TT):TT:=λg H Q=>t g H λc i=>Q (!c) i
theorem dP(g:PT X a tA):PW X (.BoolOp .And [a] pos) tA:=by
 intro l i s j H Q I h;refine isTrue_and (thn (g i s j H Q I h) λc m e=>?_)
 cases c with
 | true=>exact isTrue_and_nil e
 | false=>exact e
theorem iN(g:PT X a tA):PW X (.BoolOp .Or [a] pos) tA:=by
 intro l i s j H Q I h;refine isTrue_or (thn (g i s j H Q I h) λc m e=>?_)
 cases c with
 | false=>exact isTrue_or_nil e
 | true=>exact e
theorem iO(o:PT X a tA)(hb:PW X (.BoolOp .And (b :: rest) pos) uX):PW X (.BoolOp .And (a :: b :: rest) pos) (k8 tA uX):=by
 intro A g s i H Q I h;refine isTrue_and (thn (o g s i H _ I h) λc B ⟨j,l,m⟩=>?_)
 cases c with
 | true=>exact hb A g B i j Q l m
 | false=>exact⟨j,l,m⟩
theorem lH(o:PT X a tA)(hb:PW X (.BoolOp .Or (b :: rest) pos) uX):PW X (.BoolOp .Or (a :: b :: rest) pos) (tOr tA uX):=by
 intro A g s i H Q I h;refine isTrue_or (thn (o g s i H _ I h) λc B ⟨j,l,m⟩=>?_)
 cases c with
 | true=>exact⟨j,l,m⟩
 | false=>exact hb A g B i j Q l m
theorem iQ(g:PT X a tA):PT X (.UnaryOp .Not a pos) (tNot tA):=by
 intro i s j H Q I h;exact isTrue_not (g i s j H (λc l=>Q (!c) l) I h)
noncomputable def k7(ta tb:TE):TE:=λg H Q=>ta g H λx i=>∃c,x=.bl c/\if c=true then tb g i Q else Q (.bl false) i
noncomputable def km(ta:TE):TE:=λg H Q=>ta g H λx i=>∃c,x=.bl c/\Q (.bl (!c)) i
theorem iZ{op}{t}(h:PE X a t):PE X (.BoolOp op [a] pos) t:=λg s i H Q I hw=>BoolOp_one (h g s i H Q I hw)
theorem ij(o:PE X a ta)(hb:PE X (.BoolOp .And (b :: rest) pos) tb):PE X (.BoolOp .And (a :: b :: rest) pos) (k7 ta tb):=by
 intro i s j H Q I h;refine BoolOp_and (thn (o i s j H _ I h) λv A ⟨x,l,m,B,g⟩=>?_);obtain⟨c,rfl,g⟩:=g;cases B;refine CO ?_
 cases c with
 | true=>exact hb i A j l Q m g
 | false=>exact⟨.bl false,l,m,rfl,g⟩
theorem ic(i:PE X a ta):PE X (.UnaryOp .Not a pos) (km ta):=by
 intro j s l H Q I h;refine UnaryOp_ (thn (i j s l H _ I h) λv B ⟨x,m,o,A,g⟩=>?_);obtain⟨c,rfl,g⟩:=g;cases A;exact not_of (CO ⟨.bl (!c),m,o,rfl,g⟩)
end
noncomputable def SqL(K:AC)(H:Hp)(a:AJ)(xs:List V):Prop:=
 Rd H a (.lst xs) ∨
  ∃(o:Obj) (g:Array AD) (n:Nat),K.lookup a=some o/\o.cls=.type "list"/\o.dict=none/\o.data=.seq g n/\g.size<=sizeLine/\Bb xs g.toList
noncomputable def SqT(K:AC)(H:Hp)(a:AJ)(xs:List V):Prop:=
 Rd H a (.tup xs) ∨
  ∃(o:Obj) (g:Array AD) (n:Nat),K.lookup a=some o/\o.cls=.type "tuple"/\o.data=.seq g n/\g.size<=sizeLine/\Bb xs g.toList
noncomputable def absV:AD->Option V
 | .none=>some .non
 | .bool b=>some (.bl b)
 | .int i _=>some (.int i)
 | .str x _=>some (.str x)
 | .bytes b _=>some (.byt b)
 | .float b _=>some (.flt b)
 | .ref a=>some (.ref a)
 | .type n=>some (.ty n)
 | _=>none
theorem RelV.abs(r:RelV x u):absV u=some x:=by
 cases x with
 | non=>cases r;rfl
 | bl _=>cases r;rfl
 | int _=>obtain⟨t,rfl⟩:=r;rfl
 | str _=>obtain⟨t,rfl⟩:=r;rfl
 | byt _=>obtain⟨t,rfl⟩:=r;rfl
 | flt _=>obtain⟨t,rfl⟩:=r;rfl
 | ref _=>cases r;rfl
 | ty _=>cases r;rfl
theorem RelV.inj(r:RelV x u)(q:RelV y u):x=y:=C4 (r.abs.symm.trans q.abs)
theorem Bb.inj:∀{xs ys:List V} {g:List AD},Bb xs g->Bb ys g->xs=ys
 | _,_,_,.nil,.nil=>rfl
 | _,_,_,.cons r t,.cons i j=>by rw[r.inj i,Bb.inj t j]
section
variable{X:Cx}{ζ:List (AJ×Obj)}{σ:St}{H:Hp}{s:AG}{a:AJ}{xs ys:List V}
theorem Inv.list(I:Inv X ζ σ H s)(h:SqL X.K H a xs):∃g:List AD,Bb xs g/\PlainL s.heap a g.toArray/\xs.length<=sizeLine:=by
 rcases h with h | ⟨o,g,n,i,j,l,m,A,r⟩
 ·obtain⟨z,g,n,r,e⟩:=h.ok I.hok
  exact⟨g,r,⟨_,n,e,rfl,rfl,rfl⟩,z⟩
 ·refine⟨g.toList,r,⟨o,n,I.kIn a o i,j,l,by simpa using m⟩,?_⟩
  have e:=r.length;simp only[BK]at e
  lia
theorem Inv.tuple(I:Inv X ζ σ H s)(h:SqT X.K H a xs):∃g:List AD,Bb xs g/\Yp s.heap a g.toArray/\xs.length<=sizeLine:=by
 rcases h with h | ⟨o,g,n,i,j,l,m,r⟩
 ·obtain⟨z,g,r,p⟩:=h.ok I.hok
  exact⟨g,r,p,z.1⟩
 ·refine⟨g.toList,r,⟨o,I.kIn a o i,j,n,by simpa using l⟩,?_⟩
  have e:=r.length;simp only[BK]at e
  lia
theorem Inv.list_inj(I:Inv X ζ σ H s)(h:SqL X.K H a xs)(h':SqL X.K H a ys):xs=ys:=by
 obtain⟨j,r,⟨o,n,e,_,_,d⟩,_⟩:=I.list h;obtain⟨its',l,⟨m,A,g,_,_,i⟩,_⟩:=I.list h';rw[e]at g;cases g;rw[d]at i
 injection i with d1 _
 have:j=its':=by simpa using congrArg gd d1
 subst this;exact r.inj l
theorem Inv.tuple_inj(I:Inv X ζ σ H s)(h:SqT X.K H a xs)(h':SqT X.K H a ys):xs=ys:=by
 obtain⟨j,r,⟨o,e,_,n,d⟩,_⟩:=I.tuple h;obtain⟨its',l,⟨m,g,_,A,i⟩,_⟩:=I.tuple h';rw[e]at g;cases g;rw[d]at i
 injection i with d1 _
 have:j=its':=by simpa using congrArg gd d1
 subst this;exact r.inj l
end
section
variable{X:Cx}{st:Dr}{rest:List Dr}{t u:TS}{e:Expr}{te:TE}{pos:Pos}
noncomputable def ko:TS:=λD g H=>D.nx g H
noncomputable def kj(t u:TS):TS:=λD g H=>t { D with nx:=u D } g H
theorem dR:PSs X [] ko:=λ_ _ g H _ I h=>L9 ⟨g,H,I,h⟩
theorem Ts(j:PS X st t)(l:PSs X rest u):PSs X (st :: rest) (kj t u):=by
 intro i s m H D I h;refine kM (thn (j i s m H { D with nx:=u D } I h) λf o q=>?_)
 cases f with
 | next=>
  obtain⟨g,A,B,q⟩:=q;exact l i o g A D B q
 | ret v=>exact q
 | brk=>exact q
 | cont=>exact q
theorem Wi(g:PS X st t):PSs X [st] t:=by
 intro i s j H D I h;refine kM (thn (g i s j H D I h) λf l q=>?_)
 cases f with
 | next=>exact L9 q
 | ret v=>exact q
 | brk=>exact q
 | cont=>exact q
theorem Inv.quiet(I:Inv X g i H s):interactive X.env=false:=by simp[interactive,I.ok.kind]
noncomputable def fb(te:TE):TS:=λD g H=>te g H λ_ i=>D.nx g i
theorem Wj(i:PE X e te)(j:EY e none pos.line X.env=pure false:=by rfl):PS X (.Expr e pos) (fb te):=by
 intro l s g H D I h;exact wpAny_Expr_any (thn (i l s g H _ I h) λv B ⟨x,m,o,C,A⟩=>⟨g,m,o,A⟩) I.quiet j
noncomputable def tRet(te:TE):TS:=λD g H=>te g H D.rt
theorem iS(i:PE X e te):PS X (.Return (some e) pos) (tRet te):=by
 intro j s g H D I h;exact wpAny_Return_some (thn (i j s g H _ I h) λv B ⟨x,l,m,o,A⟩=>⟨x,g,l,m,o,A⟩)
noncomputable def tIfS(c:TT)(t u:TS):TS:=λD g H=>c g H λb i=>if b=true then t D g i else u D g i
theorem lI(A:PT X c tc)(B:PSs X a t)(hb:PSs X b u):PS X (.If c a b pos) (tIfS tc t u):=by
 intro g s i H D I h;refine wpAny_If (thn (A g s i H _ I h) λd j ⟨l,m,o⟩=>?_)
 cases d with
 | true=>exact B g j i l D m o
 | false=>exact hb g j i l D m o
noncomputable def iA:TS:=λ_ _ _=>False
theorem Zw:PS X st iA:=λ_ _ _ _ _ _ h=>h.elim
end
noncomputable abbrev TG:=V->St->Hp->(St->Hp->Prop)->Prop
noncomputable abbrev TGs:=List V->St->Hp->(St->Hp->Prop)->Prop
noncomputable def PG(X:Cx)(m:Expr)(t:TG):Prop:=
 ∀(i:List (AJ×Obj)) (s:AG) (j:St) (H:Hp) (v:V) (u:AD) (Q:St->Hp->Prop),Inv X i j H s->RelV v u->t v j H Q ->
  AZ (AR X.prog X.w) X.A (Ul m X.env u) (λ_ o=>∃g l,Inv X i g l o/\Q g l) X.xe s
noncomputable def PGs(X:Cx)(ts:List Expr)(t:TGs):Prop:=
 ∀(i:List (AJ×Obj)) (s:AG) (j:St) (H:Hp) (l:List V) (m:List AD) (Q:St->Hp->Prop),Inv X i j H s->Bb l m->t l j H Q ->
  AZ (AR X.prog X.w) X.A (assignInOrder ((Fc ts X.env).map (·.2)) m) (λ_ B=>∃g o,Inv X i g o B/\Q g o) X.xe s
section
variable{X:Cx}{pos:Pos}
noncomputable def W1(i:Nat):TG:=λv g H Q=>Q (g.set i (some v)) H
theorem db(g:X.N.Nodup)(hi:X.N[i]?=some x)(j:Loc X.env.scope x)(l:X.fn x=true∨X.env.scope.names.lookup x=some .local:=by first | exact .inl rfl | exact .inr rfl | assumption):PG X (.Name x pos) (W1 i):=by
 intro o s A H v u Q I r h;exact j9 (PN I g hi j r (λB m=>⟨_,H,m,h⟩) l)
noncomputable def gNil:TGs:=λg i H Q=>g=[]/\Q i H
noncomputable def mI(t:TG)(u:TGs):TGs:=λi j H Q=>∃v r,i=v :: r/\t v j H λg l=>u r g l Q
theorem da:PGs X [] gNil:=by
 intro i s g H j l Q I r h;obtain⟨e,h⟩:=h;subst e;cases r;exact assignInOrder_nil ⟨g,H,I,h⟩
theorem Z1(j:PG X e t)(l:PGs X es u)
  (m:(Fc (e :: es) X.env).map (·.2)=Ul e X.env :: (Fc es X.env).map (·.2):=by rfl):PGs X (e :: es) (mI t u):=by
 intro i s o H L N Q I r h;obtain⟨v,O,A,h⟩:=h;subst A
 cases r with
 | cons r B=>
  rw[m];refine assignInOrder_cons (thn (j i s o H _ _ _ I r h) λ_ C ⟨g,E,G,J⟩=>?_);exact l i C g E _ _ Q G B J
noncomputable def gTup(K:AC)(n:Nat)(t:TGs):TG:=λv i H Q=>∃a g,v=.ref a/\SqT K H a g/\g.length=n/\t g i H Q
theorem iX(l:X.calm=true)(h:PGs X es t)
  (m:(Fc es X.env).length=n:=by rfl) (A:(Fc es X.env).findIdx? (·.1)=none:=by rfl):PG X (.Tuple es k pos) (gTup X.K n t):=by
 intro g s i H v u Q I r hw;obtain⟨a,B,C,E,G,hw⟩:=hw;subst C;cases r;obtain⟨P,j,J,R⟩:=I.tuple E
 refine assign_Tuple_tuple (I.ok.hd l) J (by simp[m,<-G,j.length]) A λL N=>?_
 have O:Inv X g i H { s with heap:=L }:=I.kept (t':=s.toks) λb o e=>N b o (Al (AV e)) e
 exact h g _ i H B _ Q O (by simpa using j) hw
noncomputable def k6(te:TE)(g:TG):TS:=λD i H=>te i H λx j=>g x i j D.nx
theorem iR(j:X.N.Nodup)(hi:X.N[i]?=some x)(l:Loc X.env.scope x)(m:PE X e te)(o:EY e (some (.Name x g)) pos.line X.env=pure false:=by rfl)(A:X.fn x=true∨X.env.scope.names.lookup x=some .local:=by first | exact .inl rfl | exact .inr rfl | assumption) :
  PS X (.Assign [.Name x g] e pos) (k6 te (W1 i)):=by
 intro B s C H D I h;refine wpAny_Assign_Name (thn (m B s C H _ I h) λv P ⟨y,E,G,J,L⟩=>?_) o;exact PN G j hi l J (λQ O=>⟨_,E,O,L⟩) A
end
structure It where
 go:Nat->Hp->Prop
 yld:Nat->Hp->V->Hp->Prop
 stop:Nat->Hp->Prop
noncomputable def M2(X:Cx)(g:List (AJ×Obj))(H:Hp)(b:AJ):Prop:=
 H b=none/\b≠X.env.locals/\b∉X.fs/\(b∈X.ex∨X.s₀.heap.objs.size<=b)/\(∀x c,X.env.cells.lookup x=some c->c≠b)/\∀p∈X.pn++g,p.1≠b
theorem Inv.fpOk(I:Inv X g m H s)(hb:s.heap.objs.size<=b)(i:j b=none):M2 X g j b:=by
 refine⟨i,Fe (AY I.lt hb),I.nofs hb,.inr (Ae I.sz hb),λx c e z=>?_,λp l z=>?_⟩
 ·obtain⟨v,q⟩:=I.cell x c e
  exact zX (AY q.lt (by rw[z];exact hb)) (Cf _)
 ·exact zX (AY (AV (I.pin p l).1) (by rw[z];exact hb)) (Cf _)
structure UQ(P:A3)(w:BR)(K:AC)(tg:Expr)(J:It)(fp:List AJ)(it:AJ)(tn:Nat->Bt->Prop):Prop where
 mem:it∈fp
 obj:∀i h,tn i h->∀b∈fp,∃o,h.get? b=some o/\∀v,o.data≠.cell v
 keep:∀i h h',tn i h->(∀b∈fp,∀o,h.get? b=some o->h'.get? b=some o)->tn i h'
 item:∀(X:Cx),X.prog=P->X.w=w->X.K=K->X.calm=true->∀(i:Nat) (ζ:List (AJ×Obj)) (s:AG) (σ:St) (H:Hp) (E:AD->AG->Prop),Inv X ζ σ H s->(∀b∈fp,M2 X ζ H b)->tn i s.heap->J.go i H ->
  AZ (AR P w) X.A (Re (.ref it)) (λr s1=>∃u,r=some u /\
   AZ (AR P w) X.A (MA tg (.ref it) u) (λ_ s2=>∃x H',Inv X ζ σ H' s2/\RelV x u/\J.yld i H x H'/\tn (i+1) s2.heap/\∀b∈fp,H' b=none) E s1) E s
 done:∀(X:Cx),X.prog=P->X.w=w->X.K=K->X.calm=true->∀(i:Nat) (ζ:List (AJ×Obj)) (s:AG) (σ:St) (H:Hp) (E:AD->AG->Prop),Inv X ζ σ H s->(∀b∈fp,M2 X ζ H b)->tn i s.heap->J.stop i H ->
  AZ (AR P w) X.A (Re (.ref it)) (λr s1=>r=none/\Inv X ζ σ H s1) E s
 self:∀(A:BO) (i:Nat) (s:AG) (Q:AD->AG->Prop) (E:AD->AG->Prop),tn i s.heap->Q (.ref it) s->AZ (AR P w) A (gN (.ref it)) Q E s
noncomputable abbrev TI:=St->Hp->(It->Hp->Prop)->Prop
noncomputable def PIE(X:Cx)(j:List (AJ×Obj))(s:St)(A:Expr)(R:It->Hp->Prop)(g:AD)(l:AG):Prop:=
 ∃(it:AJ) (m:List AJ) (o:Nat->Bt->Prop) (J:It) (i:Hp),g=.ref it/\Inv X j s i l/\UQ X.prog X.w X.K A J m it o/\o 0 l.heap/\(∀b∈m,M2 X j i b)/\R J i
noncomputable def PI(X:Cx)(j iter:Expr)(l:TI):Prop:=
 ∀(i:List (AJ×Obj)) (s:AG) (g:St) (H:Hp) (R:It->Hp->Prop),Inv X i g H s->l g H R ->
  AZ (AR X.prog X.w) X.A (Bi iter X.env) (λv m=>AZ (AR X.prog X.w) X.A (gN v) (PIE X i g j R) X.xe m) X.xe s
theorem Wx(ho:s.heap.get? it=some o)(i:o.cls=.type n)(j:o.data=.fields l)
  (m:["enumerate", "zip", "dict_itemiterator", "dict_reverseitemiterator", "odict_iterator", "itertools.zip_longest", "itertools.pairwise"].contains n=false) (g:Q () s):AZ M A (MA B (.ref it) u) Q E s:=by
 unfold MA
 cases B <;> first
  | exact AE g
  | (cases u <;> first
    | exact AE g
    | (refine AA (wpAny_load ho ?_)
       rw[i,j];show AZ M A (if (["enumerate", "zip", "dict_itemiterator", "dict_reverseitemiterator", "odict_iterator", "itertools.zip_longest", "itertools.pairwise"].contains n&&l[0]?==some (EA _))=true then _ else _) Q E s;rw[qY (by intro h;rw[m,Bool.false_and]at h;cases h)]
       exact AE g))
noncomputable def Itl(K:AC)(a:AJ):It:=
 ⟨λi H=>∃g x,SqL K H a g/\g[i]?=some x,λi H x j=>j=H/\∀g,SqL K H a g->g[i]?=some x,λi H=>∃g,SqL K H a g/\g.length<=i⟩
noncomputable def Itt(K:AC)(a:AJ):It:=
 ⟨λi H=>∃g x,SqT K H a g/\g[i]?=some x,λi H x j=>j=H/\∀g,SqT K H a g->g[i]?=some x,λi H=>∃g,SqT K H a g/\g.length<=i⟩
noncomputable def Itr(lo:Int)(n:Nat):It:=⟨λi _=>i < n,λi H x g=>g=H/\x=.int (lo+i),λi _=>n<=i⟩
theorem Xf{P}{w}{K}{Y}(a it:AJ):UQ P w K Y (Itl K a) [it] it (λi h=>h.IsListIter it a i) where
 mem:=by simp
 obj:=λi h st b hb=>by
  have e:b=it:=by simpa using hb
  subst e;obtain⟨o,e,c,d⟩:=st;exact⟨o,e,λv z=>by rw[d]at z;cases z⟩
 keep:=λi h j st k=>st.at λo e=>k it (by simp) o e
 item:=by
  intro X A hw B S i T s U H E I l st C;subst A hw B;obtain⟨Z,x,m,G⟩:=C;obtain⟨f',J,p,hz⟩:=I.list m;obtain⟨u,hu,ru⟩:=J.get G;obtain⟨L,N,f2,O,Q,R⟩:=l it (by simp)
  refine wpAny_pyNext_list_item st p.isList (x:=u) (by simpa using hu) λj g sb=>?_
  have I1:Inv X T U H { s with heap:=j }:=I.turned (t':=s.toks) (λb o hb e=>(sb.2 b hb).trans e) L N O Q R;obtain⟨o,e,c,d⟩:=id g;exact⟨u,rfl,Wx (s:={ s with heap:=j }) e c d (by decide) ⟨x,H,I1,ru,⟨rfl,λys hy=>by rw[I.list_inj hy m];exact G⟩,g,λb hb=>(l b hb).1⟩⟩
 done:=by
  intro X A hw B S i T s U H E I l st C;subst A hw B;obtain⟨Z,m,G⟩:=C;obtain⟨f',J,p,hz⟩:=I.list m;obtain⟨L,N,f2,O,Q,R⟩:=l it (by simp);have hl:=J.length
  exact wpAny_pyNext_list_end (I.ok.hd S) st p.isList (by simp;lia) λj eb=>⟨rfl,I.turned (t':=s.toks) (λb o hb e=>eb b o hb e) L N O Q R⟩
 self:=λ_ _ _ _ _ st h=>wpAny_pyIter_listiter st h
theorem U6{P}{w}{K}{Z}(a it:AJ):UQ P w K Z (Itt K a) [it] it (λi h=>h.IsTupleIter it a i) where
 mem:=by simp
 obj:=λi h st b hb=>by
  have e:b=it:=by simpa using hb
  subst e;obtain⟨o,e,c,d⟩:=st;exact⟨o,e,λv z=>by rw[d]at z;cases z⟩
 keep:=λi h j st k=>st.at λo e=>k it (by simp) o e
 item:=by
  intro X A hw B T i U s Y H E I l st C;subst A hw B;obtain⟨xs,x,m,G⟩:=C;obtain⟨J,L,p,hz⟩:=I.tuple m;obtain⟨u,hu,ru⟩:=L.get G;obtain⟨N,O,f2,Q,R,S⟩:=l it (by simp)
  refine wpAny_pyNext_tuple_item st (show s.heap.IsTuple a J.toArray from p) (x:=u) (by simpa using hu) λj g sb=>?_
  have I1:Inv X U Y H { s with heap:=j }:=I.turned (t':=s.toks) (λb o hb e=>(sb.2 b hb).trans e) N O Q R S;obtain⟨o,e,c,d⟩:=id g;exact⟨u,rfl,Wx (s:={ s with heap:=j }) e c d (by decide) ⟨x,H,I1,ru,⟨rfl,λys hy=>by rw[I.tuple_inj hy m];exact G⟩,g,λb hb=>(l b hb).1⟩⟩
 done:=by
  intro X A hw B T i U s Y H E I l st C;subst A hw B;obtain⟨xs,m,G⟩:=C;obtain⟨J,L,p,hz⟩:=I.tuple m;obtain⟨N,O,f2,Q,R,S⟩:=l it (by simp);have hl:=L.length
  exact wpAny_pyNext_tuple_end (I.ok.hd T) st (show s.heap.IsTuple a J.toArray from p) (by simp;lia) λj eb=>⟨rfl,I.turned (t':=s.toks) (λb o hb e=>eb b o hb e) N O Q R S⟩
 self:=λ_ _ _ _ _ st h=>wpAny_pyIter_tupleiter st h
theorem U7{P}{w}{K}{S}(it:AJ)(lo:Int)(n:Nat):UQ P w K S (Itr lo n) [it] it (λi h=>IsRangeIter h it (lo+(i:Nat) * 1) ((n:Int) - (i:Nat)) 1) where
 mem:=by simp
 obj:=λi h st b hb=>by
  have e:b=it:=by simpa using hb
  subst e
  exact⟨_,st,λv z=>by
   have T:kZ _=Data.cell v:=z
   cases T⟩
 keep:=λi h j st k=>k it (by simp) _ st
 item:=by
  intro X m hw A B i Q s R H E I l st C;subst m hw A;obtain⟨G,J,U,L,N,O⟩:=l it (by simp);have W:=Walks.range (prog:=X.prog) (w:=X.w) (I.ok.hd B) it lo 1 n
  refine W.item i s _ _ C st λv j tk Y g Z=>?_
  obtain⟨t,rfl⟩:=Y;have I1:Inv X Q R H { s with heap:=j,toks:=tk }:=I.turned (λb o hb e=>Z b o (by simpa using hb) e) G J L N O;refine⟨_,rfl,Wx (s:={ s with heap:=j,toks:=tk }) (n:="range_iterator") g rfl rfl (by decide) ⟨.int (lo+i),H,I1,⟨t,?_⟩,⟨rfl,rfl⟩,g,λb hb=>(l b hb).1⟩⟩;rw[Int.mul_one]
 done:=by
  intro X m hw A B i Q s R H E I l st C;subst m hw A;obtain⟨G,J,U,L,N,O⟩:=l it (by simp)
  exact wpAny_pyNext_range_end (I.ok.hd B) st (by have:n<=i:=C;lia) λj eb=>⟨rfl,I.turned (t':=s.toks) (λb o hb e=>eb b o hb e) G J L N O⟩
 self:=λ_ _ _ _ _ st h=>wpAny_pyIter_rangeiter st h
section
variable{X:Cx}
noncomputable def mG(K:AC)(i:TE):TI:=λj H R=>i j H λx g=>∃a,x=.ref a/\(∃l,SqL K g a l)/\R (Itl K a) g
noncomputable def iTup(K:AC)(i:TE):TI:=λj H R=>i j H λx g=>∃a,x=.ref a/\(∃l,SqT K g a l)/\R (Itt K a) g
theorem dZ{l}{j}(m:PE X l j):PI X L l (mG X.K j):=by
 intro A s B H R I h
 refine thn (m A s B H _ I h) λv g ⟨x,C,i,E,G⟩=>?_
 obtain⟨a,e,⟨N,J⟩,q⟩:=G;subst e;cases E;obtain⟨O,P,p,Q⟩:=i.list J;refine De p.isList ?_;refine⟨g.heap.objs.size,[g.heap.objs.size],_,_,C,rfl,i.kept (t':=g.toks) λb o e=>AB _ e,Xf a _,⟨_,AX _ rfl,rfl,rfl⟩,λb hb=>?_,q⟩
 have e:b=g.heap.objs.size:=by simpa using hb
 subst e;exact i.fpOk (AN _) (i.hok.fresh (AN _))
theorem iV{l}{j}(m:PE X l j):PI X N l (iTup X.K j):=by
 intro A s B H R I h
 refine thn (m A s B H _ I h) λv g ⟨x,C,i,E,G⟩=>?_
 obtain⟨a,e,⟨O,J⟩,q⟩:=G;subst e;cases E;obtain⟨L,P,p,Q⟩:=i.tuple J;refine Ir (show g.heap.IsTuple a L.toArray from p) ?_;refine⟨g.heap.objs.size,[g.heap.objs.size],_,_,C,rfl,i.kept (t':=g.toks) λb o e=>AB _ e,U6 a _,⟨_,AX _ rfl,rfl,rfl⟩,λb hb=>?_,q⟩
 have e:b=g.heap.objs.size:=by simpa using hb
 subst e;exact i.fpOk (AN _) (i.hok.fresh (AN _))
theorem Tr{g}{i}{H}{s}{R}{E}{lo hi}{t u v}{tk}(I:Inv X g i H s)(l:-(2 ^ 62)<=lo)(m:lo < 2 ^ 62)(B:-(2 ^ 62)<=hi)(C:hi < 2 ^ 62)
  (q:R (Itr lo (hi - lo).toNat) H):AZ (AR X.prog X.w) X.A (gN (.ref s.heap.objs.size)) (PIE X g i L R) E { s with heap:=s.heap.push { cls:=.type "range",data:=.fields #[.int lo t,.int hi u,.int 1 v] },toks:=tk }:=by
 refine wpAny_pyIter_range (IsRange.new ..) (small_one l m B C) ?_
 have j:Inv X g i H { s with heap:=s.heap.push { cls:=.type "range",data:=.fields #[.int lo t,.int hi u,.int 1 v] },toks:=tk }:=I.kept λb o e=>AB _ e
 refine⟨(s.heap.push { cls:=.type "range",data:=.fields #[.int lo t,.int hi u,.int 1 v] }).objs.size,[(s.heap.push { cls:=.type "range",data:=.fields #[.int lo t,.int hi u,.int 1 v] }).objs.size],_,_,H,rfl,
  j.kept (t':=tk) λb o e=>AB _ e,U7 _ lo (hi - lo).toNat,?_,λb hb=>?_,q⟩
 ·have G:lo+((0:Nat):Int) * 1=lo:=by simp
  have J:(((hi - lo).toNat:Nat):Int) - ((0:Nat):Int)=kf lo hi 1:=by rw[rangeSize_one];split <;> lia
  show IsRangeIter _ _ (lo+((0:Nat):Int) * 1) ((((hi - lo).toNat:Nat):Int) - ((0:Nat):Int)) 1;rw[G,J];exact AX _ rfl
 ·have e:b=(s.heap.push { cls:=.type "range",data:=.fields #[.int lo t,.int hi u,.int 1 v] }).objs.size:=by simpa using hb
  subst e;exact j.fpOk (AN _) (j.hok.fresh (AN _))
noncomputable def mE(g:TA):TI:=λi H R=>g i H λl m=>∃j:Int,l=[.int j]/\-(2 ^ 62)<=j/\j < 2 ^ 62/\R (Itr 0 j.toNat) m
noncomputable def mD(g:TA):TI:=λl H R=>g l H λm o=>∃i j:Int,m=[.int i,.int j]/\(-(2 ^ 62)<=i/\i < 2 ^ 62/\-(2 ^ 62)<=j/\j < 2 ^ 62)/\R (Itr i (j - i).toNat) o
theorem Xy{a}{i}{p pos}(l:Gl X "range") (hm:X.mg "range" = none) (m:PA X [a] i) (o:AO [a] X.env=[(false,Bi a X.env)]:=by rfl):PI X L (.Call (.Name "range" p) [a] [] pos) (mE i):=by
 intro A s B H R I h;refine Call_ (NV I l hm boot_range (F3 (thn (m pos A s B H _ I h) λN O ⟨P,Q,C,E,g⟩=>?_) o rfl));obtain⟨j,e,g,G,q⟩:=g;subst e
 cases E with
 | cons r J=>
  cases J;obtain⟨t,rfl⟩:=r;exact call_range_1 (Tr C (by lia) (by lia) g G (by simpa using q))
theorem Xx(o:Gl X "range") (hm:X.mg "range" = none) (A:PA X [a,b] B) (C:AO [a,b] X.env=[(false,Bi a X.env),(false,Bi b X.env)]:=by rfl) (m:AO [b] X.env=[(false,Bi b X.env)]:=by rfl) :
  PI X S (.Call (.Name "range" p) [a,b] [] pos) (mD B):=by
 intro E s G H R I h;refine Call_ (NV I o hm boot_range (F3 (thn (A pos E s G H _ I h) λT U ⟨Y,Z,J,L,g⟩=>?_) (by rw[C,m]) (by rw[m];rfl)));obtain⟨i,j,e,⟨g,N,O,P⟩,q⟩:=g;subst e
 cases L with
 | cons r l=>
  cases l with
  | cons Q l=>
   cases l;obtain⟨t,rfl⟩:=r;obtain⟨t',rfl⟩:=Q;exact call_range_2 (Tr J g N O P q)
noncomputable def tFor(B:TI)(g:TG)(C:TS):TS:=λD j H=>B j H λJ E=>∃W:Nat->Nat->St->Hp->Prop,(∃m,W 0 m j E)/\∀i m j H,W i m j H ->
 (J.stop i H/\D.nx j H)∨(J.go i H/\∃N:St->Hp->Prop,(∀l o,N l o->∃A,A < m/\W (i+1) A l o)/\∀x o,J.yld i H x o->g x j o λs G=>C { D with nx:=N,ct:=N,bk:=D.nx } s G)
noncomputable def Pd(fp:List AJ)(h:Bt):List (AJ×Obj):=fp.filterMap λb=>(h.get? b).map λo=>(b,o)
theorem JQ(hb:b∈fp)(e:h.get? b=some o):(b,o)∈Pd fp h:=Yo.mpr ⟨b,hb,by rw[e];rfl⟩
theorem X4(g:p∈Pd fp h):p.1∈fp/\h.get? p.1=some p.2:=by
 obtain⟨b,hb,e⟩:=Yo.mp g
 cases q:h.get? b with
 | none=>rw[q]at e;cases e
 | some o=>
  rw[q]at e;have i:(b,o)=p:=C4 e;subst i;exact⟨hb,q⟩
theorem Inv.pinned(I:Inv X g j H s)(l:∀b∈fp,M2 X g H b)(ho:∀b∈fp,∃o,s.heap.get? b=some o/\∀v,o.data≠.cell v):Inv X (g++Pd fp s.heap) j H s:=
 I.pins_of λp m=>(Ax.mp m).elim (λz=>I.pin p (A8 _ z)) λz=>by
  obtain⟨hb,e⟩:=X4 z;obtain⟨A,B,C,_⟩:=l p.1 hb;obtain⟨o,i,d⟩:=ho p.1 hb;rw[e]at i;cases i;exact⟨e,A,B,C,d⟩
theorem Inv.unpinned(I:Inv X (g++pl) i H s):Inv X g i H s:=I.pins_of λp j=>I.pin p (A8 _ (Eb _ j))
theorem iT(O:Yl (AR X.prog X.w) X.A X.env X.xe)(hc:X.calm=true)(hi:PI X tg iter wi)(hg:PG X tg g)(hb:PSs X body tb)
  (hs:∀x,Ei iter X.env x=pure x:=by intro _;rfl):PS X (.For tg iter body [] pos) (tFor wi g tb):=by
 intro L s σ H D I h;refine wpAny_For (thn (hi L s σ H _ I h) λv s1 h1=>thn h1 λitv s2 h2=>?_) hs;obtain⟨it,P,tn,J,H2,e,I2,T,n8,f2,W,⟨m0,w0⟩,turn⟩:=h2;subst e
 have Y:∀{H':Hp},(∀b∈P,H' b=none)->∀b∈P,M2 X L H' b:=λhn b hb=>⟨hn b hb,(f2 b hb).2⟩
 refine codeAny_forLoop_any (λn s'=>∃i l H',Inv X L l H' s'/\tn i s'.heap/\(∀b∈P,H' b=none)/\W i n l H') ?_ m0 ⟨0,σ,H2,I2,n8,λb hb=>(f2 b hb).1,w0⟩;rintro n s3 ⟨i,B,U,I3,oY,Q,w3⟩
 rcases turn i n B U w3 with⟨R,qn⟩ | ⟨go,N,hN,step⟩
 ·refine Hs O (thn (T.done X rfl rfl rfl hc i L s3 B U X.xe I3 (Y Q) oY R) λr s4 ⟨Z,I4⟩=>?_)
  subst Z;exact L9 ⟨B,U,I4,qn⟩
 ·refine Hs O (thn (T.item X rfl rfl rfl hc i L s3 B U X.xe I3 (Y Q) oY go) λr s4 ⟨u,Z,h4⟩=>?_)
  subst Z;refine Hs O (thn h4 λ_ s5 ⟨x,H5,I5,r5,y5,qv,fr5⟩=>?_);have vD:=I5.pinned (Y fr5) (T.obj _ _ qv);refine Hs O (thn (hg _ s5 B H5 x u _ vD r5 (step x H5 y5)) λ_ s6 ⟨σ6,H6,I6,q6⟩=>?_);refine Hs O (thn (hb _ s6 σ6 H6 _ I6 q6) λf s7 G=>?_)
  have kD:∀{j:St} {C:Hp},Inv X (L++Pd P s5.heap) j C s7->N j C->∃m,m < n/\∃i l H',Inv X L l H' s7/\tn i s7.heap/\(∀b∈P,H' b=none)/\W i m l H':=λ{j C} E S=>by
   obtain⟨m',hm,w7⟩:=hN j C S;refine⟨m',hm,i+1,j,C,E.unpinned,T.keep _ _ _ qv λb hb o e=>(E.pin (b,o) (A8 _ (A8 _ (JQ hb e)))).1,λb hb=>?_,w7⟩;obtain⟨o,e,d⟩:=T.obj _ _ qv b hb;exact(E.pin (b,o) (A8 _ (A8 _ (JQ hb e)))).2.1
  cases f with
  | next=>obtain⟨j,C,E,S⟩:=G;exact kD E S
  | cont=>obtain⟨j,C,E,S⟩:=G;exact kD E S
  | brk=>obtain⟨j,C,E,G⟩:=G;exact⟨j,C,E.unpinned,G⟩
  | ret v=>obtain⟨x7,j,C,E,r7,G⟩:=G;exact⟨x7,j,C,E.unpinned,r7,G⟩
end
noncomputable abbrev R2:=V->V->Hp->VK->Prop
noncomputable def OpR(X:Cx)(f:AD->AD->Sem AD)(r:R2):Prop:=
 ∀(g:List (AJ×Obj)) (s:AG) (i:St) (H:Hp) (x y:V) (v u:AD) (Q:VK),Inv X g i H s->RelV x v->RelV y u->r x y H Q ->
  AZ (AR X.prog X.w) X.A (f v u) (EP X g i Q) X.xe s
noncomputable def UnR(X:Cx)(f:AD->Sem AD)(r:V->Hp->VK->Prop):Prop:=
 ∀(g:List (AJ×Obj)) (s:AG) (i:St) (H:Hp) (x:V) (v:AD) (Q:VK),Inv X g i H s->RelV x v->r x H Q ->
  AZ (AR X.prog X.w) X.A (f v) (EP X g i Q) X.xe s
noncomputable def GR(X:Cx)(f:AD)(r:List V->Hp->VK->Prop):Prop:=
 ∀(g:List (AJ×Obj)) (s:AG) (i:St) (H:Hp) (j:List V) (l:List AD) (Q:VK),Inv X g i H s->Bb j l->r j H Q ->
  AZ (AR X.prog X.w) X.A (call f l) (EP X g i Q) X.xe s
noncomputable def tOp(r:R2)(i j:TE):TE:=λg H Q=>i g H λx l=>j g l λy m=>r x y m Q
noncomputable def tUn(r:V->Hp->VK->Prop)(g:TE):TE:=λi H Q=>g i H λx j=>r x j Q
noncomputable def rI(C:Int->Int->Prop)(g:Int->Int->V):R2:=λx y H Q=>∃i j,x=.int i/\y=.int j/\C i j/\Q (g i j) H
noncomputable def rI0(g:Int->Int->V):R2:=λx y H Q=>∃i j,x=.int i/\y=.int j/\Q (g i j) H
noncomputable def rU(g:Int->V):V->Hp->VK->Prop:=λx H Q=>∃i,x=.int i/\Q (g i) H
section
variable{X:Cx}{a b:Expr}{ta tb:TE}{pos:Pos}
theorem jv(C:PE X a ta)(hb:PE X b tb){m:List (AJ×Obj)}{s:AG}{g:St}{H:Hp}{R:V->V->Hp->Prop}(I:Inv X m g H s)
  (h:ta g H λx B=>tb g B λy i=>R x y i) {Q:AD->AG->Prop} {f:AD->AD->Sem AD}
  (E:∀v u o x y i,Inv X m g i o->RelV x v->RelV y u->R x y i->AZ (AR X.prog X.w) X.A (f v u) Q X.xe o) :
  AZ (AR X.prog X.w) X.A (Bi a X.env) (λv j=>AZ (AR X.prog X.w) X.A (Bi b X.env) (λu l=>AZ (AR X.prog X.w) X.A (f v u) Q X.xe l) X.xe j) X.xe s:=by
 refine thn (C m s g H _ I h) λv G ⟨x,B,J,L,N⟩=>?_
 refine thn (hb m G g B _ J N) λu o ⟨y,i,O,P,S⟩=>?_
 exact E v u o x y i O L P S
theorem lL{op:Operator}{r:R2}(ho:OpR X (DN op) r)(g:PE X a ta)(hb:PE X b tb):PE X (.BinOp a op b pos) (tOp r ta tb):=by
 intro i s j H Q I h;exact wpAny_BinOp (jv g hb I h λv u l x y m o A B q=>ho i l j m x y v u Q o A B q)
theorem lK(ho:UnR X (unaryOp op) r)(j:PE X a ta):PE X (.UnaryOp op a pos) (tUn r ta):=by
 intro g s i H Q I h;exact UnaryOp_ (thn (j g s i H _ I h) λv l ⟨x,m,o,A,B⟩=>ho g l i m x v Q o A B)
theorem opI{f:AD->AD->Sem AD}{C:Int->Int->Prop}{g:Int->Int->Int}
  (rule:∀(i j:Int) (t u:Tok) (s:AG) (Q:AD->AG->Prop) (E:AD->AG->Prop),C i j->Q (.int (g i j) s.toks) { s with toks:=s.toks+1 }->AZ (AR X.prog X.w) X.A (f (.int i t) (.int j u)) Q E s) :
  OpR X f (rI C λi j=>.int (g i j)):=by
 intro G s J H x y v u Q I l m h;obtain⟨i,j,rfl,rfl,o,q⟩:=h;obtain⟨t,rfl⟩:=l;obtain⟨B,rfl⟩:=m;exact rule i j t B s _ _ o ⟨.int (g i j),H,I.tok _,⟨_,rfl⟩,q⟩
theorem lT{f:AD->AD->Sem AD}{g:Int->Int->Int}
  (rule:∀(i j:Int) (t u:Tok) (s:AG) (Q:AD->AG->Prop) (E:AD->AG->Prop),Q (.int (g i j) s.toks) { s with toks:=s.toks+1 }->AZ (AR X.prog X.w) X.A (f (.int i t) (.int j u)) Q E s) :
  OpR X f (rI0 λi j=>.int (g i j)):=by
 intro B s C H x y v u Q I l m h;obtain⟨i,j,rfl,rfl,q⟩:=h;obtain⟨t,rfl⟩:=l;obtain⟨o,rfl⟩:=m;exact rule i j t o s _ _ ⟨.int (g i j),H,I.tok _,⟨_,rfl⟩,q⟩
theorem dv{f:AD->AD->Sem AD}{g:Int->Int->Bool}
  (rule:∀(i j:Int) (t u:Tok) (s:AG) (Q:AD->AG->Prop) (E:AD->AG->Prop),Q (.bool (g i j)) s->AZ (AR X.prog X.w) X.A (f (.int i t) (.int j u)) Q E s) :
  OpR X f (rI0 λi j=>.bl (g i j)):=by
 intro B s C H x y v u Q I l m h;obtain⟨i,j,rfl,rfl,q⟩:=h;obtain⟨t,rfl⟩:=l;obtain⟨o,rfl⟩:=m;exact rule i j t o s _ _ ⟨.bl (g i j),H,I,rfl,q⟩
noncomputable def bz(i j:Int):Prop:=0 < j/\j < 1073741824
noncomputable def V9(i j:Int):Prop:=(-(2 ^ 64) < i/\i < 2 ^ 64)∨(-(2 ^ 64) < j/\j < 2 ^ 64)
theorem V9.ok(h:V9 i j):IntMulOk i j:=by
 rcases h with⟨g,l⟩ | ⟨g,l⟩
 ·exact .of_left (intBits_le_64 g l)
 ·exact .of_right (intBits_le_64 g l)
theorem iz:OpR X (DN .Add) (rI0 λi j=>.int (i+j)):=lT λ_ _ _ _ _ _ _ q=>add_int q
theorem ip:OpR X (DN .Sub) (rI0 λi j=>.int (i - j)):=lT λ_ _ _ _ _ _ _ q=>sub_int q
theorem iq:OpR X (DN .Mult) (rI V9 λi j=>.int (i * j)):=opI λ_ _ _ _ _ _ _ g q=>mul_int q g.ok
theorem dq:OpR X (DN .FloorDiv) (rI bz λi j=>.int (i / j)):=opI λi j _ _ _ _ _ g q=>by
 have l:(0:Int) < j:=g.1;have m:j < 1073741824:=g.2;exact floordiv_int (by lia) (by rw[Int.fdiv_eq_ediv_of_nonneg i (by lia)];exact q) (.inl (PyProof.noPylong_small (by omega)))
theorem ir:OpR X (DN .Mod) (rI (λ_ j=>0 < j) λi j=>.int (i % j)):=opI λi j _ _ _ _ _ g q=>by
 have l:(0:Int) < j:=g;exact mod_int' (by lia) (by rw[Int.fmod_eq_emod_of_nonneg i (by lia)];exact q)
theorem unI{f:AD->Sem AD}{g:Int->Int}
  (rule:∀(i:Int) (t:Tok) (s:AG) (Q:AD->AG->Prop) (E:AD->AG->Prop),Q (.int (g i) s.toks) { s with toks:=s.toks+1 }->AZ (AR X.prog X.w) X.A (f (.int i t)) Q E s) :
  UnR X f (rU λi=>.int (g i)):=by
 intro l s m H x v Q I j h;obtain⟨i,rfl,q⟩:=h;obtain⟨t,rfl⟩:=j;exact rule i t s _ _ ⟨.int (g i),H,I.tok _,⟨_,rfl⟩,q⟩
theorem g9:UnR X (unaryOp .USub) (rU λi=>.int (-i)):=unI λ_ _ _ _ _ q=>neg_int q
end
section
variable{X:Cx}{a b c:Expr}{ta tb tc:TE}{pos:Pos}
theorem jl(I:Inv X g i H s)(q:Q (.bl k) H)(e:k=j):EP X g i Q (.bool j) s:=by
 subst e;exact⟨.bl k,H,I,rfl,q⟩
theorem lP:OpR X (BG .Lt) (rI0 λi j=>.bl (decide (i < j))):=dv λ_ _ _ _ _ _ _ q=>lt_int q
theorem lQ:OpR X (BG .LtE) (rI0 λi j=>.bl (decide (i<=j))):=dv λ_ _ _ _ _ _ _ q=>le_int q
theorem lR:OpR X (BG .Gt) (rI0 λi j=>.bl (decide (j < i))):=dv λ_ _ _ _ _ _ _ q=>gt_int q
theorem lS:OpR X (BG .GtE) (rI0 λi j=>.bl (decide (j<=i))):=dv λ_ _ _ _ _ _ _ q=>ge_int q
theorem iw:OpR X (BG .Is) (λx y H Q=>y=.non/\Q (.bl (decide (x=.non))) H):=by
 intro j s l H x y v u Q I g i h;obtain⟨rfl,q⟩:=h;cases i;refine is_none_gen (jl I q ?_)
 cases x <;> first
  | (cases g;rfl)
  | (obtain⟨t,rfl⟩:=g;rfl)
theorem OpR.or(h:OpR X f r)(h':OpR X f m):OpR X f (λx y H Q=>r x y H Q∨m x y H Q):=by
 intro g s i H x y v u Q I j l q
 rcases q with q | q
 ·exact h g s i H x y v u Q I j l q
 ·exact h' g s i H x y v u Q I j l q
theorem Bp(b:Expr)(h:op≠.In:=by decide)(g:op≠.NotIn:=by decide):Ck op b=false:=by
 have i:(op==CmpOp.In)=false:=by cases op <;> first | rfl | exact zX rfl h
 have j:(op==CmpOp.NotIn)=false:=by cases op <;> first | rfl | exact zX rfl g
 cases b <;> simp[Ck,i,j]
theorem dj{op:CmpOp}{r:R2}(ho:OpR X (BG op) r)(g:PE X a ta)(hb:PE X b tb)(hm:Ck op b=false):PE X (.Compare a [op] [b] pos) (tOp r ta tb):=by
 intro i s j H Q I h;exact wpAny_Compare1 (jv g hb I h λv u l x y m o A B q=>ho i l j m x y v u Q o A B q) hm
noncomputable def fZ(t:TE):TT:=λg H Q=>t g H λx i=>∃k,x=.bl k/\Q k i
theorem dQ(ho:OpR X (BG op) r)(j:PE X a ta)(hb:PE X b tb)(hm:Ck op b=false):PT X (.Compare a [op] [b] pos) (fZ (tOp r ta tb)):=by
 intro g s i H Q I h
 refine cB (thn (j g s i H _ I h) λv l ⟨x,m,o,A,B⟩=>thn (hb g l i m _ o B) λu C ⟨y,E,G,J,L⟩=>
  thn (ho g C i E x y v u _ G A J L) λc S ⟨z,N,O,P,k,e,R⟩=>?_) hm
 subst e;cases P;exact CO ⟨N,O,R⟩
noncomputable def Za(r j:R2)(ta tb tc:TE):TE:=λg H Q=>ta g H λx l=>tb g l λy m=>r x y m λz i=>∃k,z=.bl k /\
 (if k=true then tc g i λw' o=>j y w' o Q else Q (.bl false) i)
theorem Zv(ho:OpR X (BG op) r)(B:OpR X (BG g) C)(E:PE X a ta)(hb:PE X b tb)(G:PE X c tc)
  (hm:lastMarks [op,g] [b,c]=false:=by with_unfolding_all rfl):PT X (.Compare a [op,g] [b,c] pos) (fZ (Za r C ta tb tc)):=by
 intro i s j H Q I h
 refine isTrue_chain (thn (E i s j H _ I h) λv J ⟨x,L,N,O,P⟩=>test_link (thn (hb i J j L _ N P) λu R ⟨y,S,T,l,U⟩=>
  thn (ho i R j S x y v u _ T O l U) λd Y ⟨z,m,o,Z,k,e,A⟩=>?_)) hm
 subst e;cases Z;refine CO ?_
 cases k with
 | false=>
  obtain⟨k',e',q'⟩:=A;cases e';exact ite_ff ⟨m,o,q'⟩
 | true=>
  refine ite_tt (test_last (thn (G i Y j m _ o A) λw' s4 ⟨z',H4,I4,r4,q4⟩=>thn (B i s4 j H4 y z' u w' _ I4 l r4 q4) λd' s5 ⟨z2,H5,I5,r5,k2,e2,q5⟩=>?_));subst e2;cases r5;exact CO ⟨H5,I5,q5⟩
theorem Pp:(sizeLine:Nat) < 2 ^ 63:=by rw[M9];decide
theorem vals1(r:Bb [x] g):∃u,g=[u]/\RelV x u:=by
 cases r with
 | cons i j=>cases j;exact⟨_,rfl,i⟩
theorem vals2(r:Bb [x,y] g):∃u w',g=[u,w']/\RelV x u/\RelV y w':=by
 cases r with
 | cons i j=>
  cases j with
  | cons l m=>cases m;exact⟨_,_,rfl,i,l⟩
theorem YZ(l:X.calm=true):GR X (.builtin "max") (λxs H Q=>∃i j,xs=[.int i,.int j]/\Q (.int (if j > i then j else i)) H):=by
 intro m s o H xs A Q I r h;obtain⟨i,j,rfl,q⟩:=h;obtain⟨u,w',rfl,⟨t,rfl⟩,⟨B,rfl⟩⟩:=vals2 r
 refine max_two_ints (I.ok.hd l) λC tk k=>⟨_,H,I.kept k,?_,q⟩
 by_cases g:j > i
 ·rw[qX g,qX g];exact⟨_,rfl⟩
 ·rw[qY g,qY g];exact⟨_,rfl⟩
theorem YX(l:X.calm=true):GR X (.builtin "min") (λxs H Q=>∃i j,xs=[.int i,.int j]/\Q (.int (if j < i then j else i)) H):=by
 intro m s o H xs A Q I r h;obtain⟨i,j,rfl,q⟩:=h;obtain⟨u,w',rfl,⟨t,rfl⟩,⟨B,rfl⟩⟩:=vals2 r
 refine min_two_ints (I.ok.hd l) λC tk k=>⟨_,H,I.kept k,?_,q⟩
 by_cases g:j < i
 ·rw[qX g,qX g];exact⟨_,rfl⟩
 ·rw[qY g,qY g];exact⟨_,rfl⟩
end
structure Ye(h:Bt)(x dx C:AJ)(mA:Str->Option AD):Prop where
 obj:h.get? x=some (DF C dx)
 ns:h.Ns1 dx mA
 ne:dx≠x
theorem RH{h:Bt}{g:AJ}{i:Str->Option AD}(n:h.Ns1 g i):∃j,h.get? g=some j/\∀name,KG name j=some (i name):=by
 obtain⟨o,l,G,m,s,A,_,hm⟩:=n;refine⟨o,m,λname=>?_⟩;have e:=hm name;unfold nsFind findBy at e;rw[<-XZ]at e;unfold KG;rw[s];dsimp only;split
 ·rename_i y q
  rw[q]at e;exact congrArg some e
 ·rename_i q
  rw[q]at e
  have a:l.toList.any (·.refKey)=false:=by
   rw[Y1];intro y B;obtain⟨z,t,C⟩:=A y (BE.mp B);simp[Ys.refKey,C]
  have E:¬l.toList.any (·.refKey)=true:=by rw[a];exact Ac
  rw[qY E];exact congrArg some e
theorem Ye.look{h}{x i C}{j}(I:Ye h x i C j):∃g,DW h x (DF C i) C (some g)/\∀name,KG name g=some (j name):=
 let ⟨g,l,m⟩:=RH I.ns
 ⟨g,⟨I.obj,rfl,rfl,l⟩,m⟩
section
variable{prog:A3}{w:BR}{A:BO}{E:AD->AG->Prop}{s:AG}{K:AC}{x dx C f:AJ}{mA:Str->Option AD}{name:Str}{v:AD}
theorem eX(X:K.In s.heap)(I:Ye s.heap x dx C mA)(g:NB K C name=true)(i:E6 K C=true)
  (j:Bq K (.ref C) name=some none) (l:mA name=some v) (m:NC v=true) (h:Q v { s with toks:=s.toks+1 }) :
  AZ (AR prog w) A (Yv (.ref x) name expr) Q E s:=by
 obtain⟨B,J,o⟩:=I.look;exact PySem.W.get_value X J (PySem.W.plainGet_of g).1 (UY i j rfl (by rw[o,l])) m h
theorem dF(X:K.In s.heap)(I:Ye s.heap x dx C mA)
  (j:Bq K (.ref C) "__setattr__" = some (some (.builtin "object.__setattr__"))) (l:WA K C=true) (m:N8 K C name=some none) (o:E6 K C=true)
  (hw:TB mA ns) (hsz:ns.length<=sizeLine)
  (h:∀h',Ye h' x dx C (λy=>if y=name then some v else mA y)->Ek dx s.heap h'->Q () { s with heap:=h',toks:=s.toks+2 }) :
  AZ (AR prog w) A (setAttr (.ref x) name v) Q E s:=by
 obtain⟨P,J,R⟩:=I.look;refine PySem.W.set_plain X J j (PySem.W.osa_open (s:={ s with toks:=s.toks+1 }) (r:=none) X J l m λb=>?_);obtain⟨S,B,G⟩:=PySem.W.any_some o;have H:s.heap.get? x=some ⟨.ref C,some dx,.plain,#[]⟩:=I.obj;refine AA (AE (AA (AA (M7 H (AA (kR (s:={ s with toks:=s.toks+1 }) (PySem.W.looks_clsIn X B) ?_))))));rw[G];refine AE (a:=some dx) (AA (AE (AA ?_)))
 refine wpAny_nsSet1 (s:={ s with toks:=s.toks+1 }) I.ns λh' g i=>?_
 obtain⟨T,U,Y,L,N,O⟩:=g.count (mV name v hw);refine AA (kK L (by rw[N];exact kN (Ae O (by rw[AU];lia))) ?_);exact AE (h _ ⟨(i.2 _ (B8 I.ne)).trans I.obj,g,I.ne⟩ i)
theorem aS(X:K.In s.heap)(hm:Yk K C=true)
  (hi:Bq K (.ref C) "__init__" = some (some (.ref f))) (l:KD K (.ref f)=some (.type "function"))
  (h:LZ (AR prog w) (A.under (.builtin "type.__call__" ⟨.ref C :: i,j⟩)) (.call (.ref f) ⟨.ref (s.heap.objs.size+1) :: i,j⟩) (PySem.W.InitBack (s.heap.objs.size+1) R)
   { s with heap:=(s.heap.push CH).push (DF C s.heap.objs.size) }) :
  LZ (AR prog w) A (.call (.ref C) ⟨i,j⟩) R s:=by
 obtain⟨m,g,d,t,os⟩:=s;exact PySem.W.make_core (PySem.W.makes_of X hm) (EB X hi) (λself=>PySem.W.bind_fn X self l) (.inl rfl) h
end
noncomputable def putF(f:Str)(v:V):List (Str×V)->List (Str×V)
 | []=>[(f,v)]
 | (g,x) :: r=>if g=f then(g,v) :: r else(g,x) :: putF f v r
theorem Ny(f g:Str)(v:V):∀fs:List (Str×V),(putF f v fs).lookup g=if g=f then some v else fs.lookup g
 | []=>by
  show Go g [(f,v)]=_
  by_cases h:g=f
  ·have hb:(g==f)=true:=beq_iff_eq.mpr h
   simp only[Go,hb,qX h]
  ·have hb:(g==f)=false:=beq_eq_false_iff_ne.mpr h
   simp only[Go,hb,qY h]
 | (k,x) :: r=>by
  have j:=Ny f g v r;rw[show putF f v ((k,x) :: r)=(if k=f then(k,v) :: r else(k,x) :: putF f v r)from rfl]
  by_cases i:k=f
  ·rw[qX i]
   by_cases h:g=k
   ·have hb:(g==k)=true:=beq_iff_eq.mpr h
    simp only[Go,hb,qX (h.trans i)]
   ·have hb:(g==k)=false:=beq_eq_false_iff_ne.mpr h
    simp only[Go,hb,qY (λe:g=f=>h (e.trans i.symm))]
  ·rw[qY i]
   by_cases h:g=k
   ·have hb:(g==k)=true:=beq_iff_eq.mpr h
    simp only[Go,hb,qY (λe:g=f=>i (h.symm.trans e))]
   ·have hb:(g==k)=false:=beq_eq_false_iff_ne.mpr h
    simp only[Go,hb];exact j
theorem NW(f:Str)(v:V):∀fs:List (Str×V),f∈(putF f v fs).map (·.1)/\∀g,g∈fs.map (·.1)->g∈(putF f v fs).map (·.1)
 | []=>⟨by simp[putF],λg h=>by simp at h⟩
 | (k,x) :: r=>by
  obtain⟨j,l⟩:=NW f v r;rw[show putF f v ((k,x) :: r)=(if k=f then(k,v) :: r else(k,x) :: putF f v r)from rfl]
  by_cases i:k=f
  ·rw[qX i]
   subst i;exact⟨by simp,λg h=>by simpa using h⟩
  ·rw[qY i]
   refine⟨?_,λg h=>?_⟩
   ·rw[Ao]
    exact AM _ j
   ·rw[Ao]at h ⊢
    rcases An.mp h with e | e
    ·exact An.mpr (.inl e)
    ·exact AM _ (l g e)
theorem N0(f:Str)(v:V):∀fs:List (Str×V),(putF f v fs).length<=fs.length+1
 | []=>by simp[putF]
 | (k,x) :: r=>by
  have i:=N0 f v r;rw[show putF f v ((k,x) :: r)=(if k=f then(k,v) :: r else(k,x) :: putF f v r)from rfl]
  by_cases g:k=f
  ·rw[qX g,AU,AU];lia
  ·rw[qY g,AU,AU];lia
theorem Nf.some_of(r:Nf (some v) o):∃u,o=some u/\RelV v u:=by
 cases o with
 | none=>exact(show False from r).elim
 | some u=>exact⟨u,rfl,r⟩
theorem YE(r:RelV v u):NC u=true:=by
 cases v with
 | non=>cases(show u=BY from r);rfl
 | bl b=>cases(show u=Jw b from r);rfl
 | int i=>obtain⟨t,e⟩:=(show ∃t,u=N5 i t from r);cases e;rfl
 | str x=>obtain⟨t,e⟩:=(show ∃t,u=N4 x t from r);cases e;rfl
 | byt b=>obtain⟨t,e⟩:=(show ∃t,u=kG b t from r);cases e;rfl
 | flt b=>obtain⟨t,e⟩:=(show ∃t,u=Uo b t from r);cases e;rfl
 | ref a=>cases(show u=Ai a from r);rfl
 | ty n=>cases(show u=E2 n from r);rfl
section
variable{P:A3}{w:BR}{H:Hp}{h:Bt}{a C dx:AJ}{fs:List (Str×V)}
theorem SY(i:HOk P w H h)(e:H a=some (.ins C dx fs)):∃g,Ye h a dx C g/\(∀f,Nf (fs.lookup f) (g f))/\TB g (fs.map (·.1))/\fs.length<=1000/\H dx=some (.own a):=by
 obtain⟨d,z,j,l,g,n,r,q⟩:=(show CK P w H h a (.ins C dx fs)from i a _ e);exact⟨g,⟨l,n,j⟩,r,q,z,d⟩
end
structure Cls(K:AC)(C:AJ):Prop where
 pg:NB K C MC=true
 hd:E6 K C=true
 po:WA K C=true
 sa:Bq K (.ref C) "__setattr__" = some (some (.builtin "object.__setattr__"))
theorem Cls.get{K}{C}(c:Cls K C)(f:Str):NB K C f=true:=c.pg
noncomputable def HU(K:AC)(C:AJ)(f:Str):Prop:=Bq K (.ref C) f=some none
theorem HU.taker{K}{C}{f}(n:HU K C f):N8 K C f=some none:=by
 unfold N8;rw[show Bq K (.ref C) f=some none from n];rfl
section
variable{X:Cx}{ζ:List (AJ×Obj)}{σ:St}{H:Hp}{s:AG}{a C dx:AJ}{fs:List (Str×V)}{f:Str}{v:V}{A:BO}{E:AD->AG->Prop}
theorem Vp(I:Inv X ζ σ H s)(e:H a=some (.ins C dx fs))(c:Cls X.K C)(n:HU X.K C f)(l:fs.lookup f=some v)
  (h:∀u s',Inv X ζ σ H s'->RelV v u->Q u s'):AZ (AR X.prog X.w) A (Yv (.ref a) f b) Q E s:=by
 obtain⟨i,O,r,_,_,_⟩:=SY I.hok e;obtain⟨u,j,g⟩:=Nf.some_of (v:=v) (o:=i f) (by rw[<-l];exact r f);exact eX I.kIn O (c.get f) c.hd n j (YE g) (h u _ (I.tok _) g)
theorem VU(I:Inv X ζ σ H s)(e:H a=some (.ins C dx fs))(c:Cls X.K C)(n:HU X.K C f)(S:fs.length < 1000)(B:RelV y u)
  (h:∀s',Inv X ζ σ (upd H a (.ins C dx (putF f y fs))) s'->Q () s'):AZ (AR X.prog X.w) A (setAttr (.ref a) f u) Q E s:=by
 obtain⟨j,O,r,l,_,m⟩:=SY I.hok e
 have G:(fs.map (·.1)).length<=sizeLine:=by rw[AL,M9];lia
 refine dF I.kIn O c.sa c.po n.taker c.hd l G λJ i L=>h _ ?_
 have N:∃o,J.get? dx=some o:=let ⟨o,_,_,P,_⟩:=i.ns;⟨o,P⟩
 refine I.write (x:=a) (e:=dx) (by rw[e];exact Ds) (.inr m) (λb q hb z=>(L.2 b hb).trans z) N ?_;refine⟨by rw[A5 O.ne];exact m,?_,O.ne,i.obj,_,i.ns,λg=>?_,λg R=>?_⟩
 ·have:=N0 f y fs;lia
 ·show Nf ((putF f y fs).lookup g) (if g=f then some u else j g)
  rw[Ny]
  by_cases q:g=f
  ·rw[qX q,qX q];exact B
  ·rw[qY q,qY q];exact r g
 ·by_cases q:g=f
  ·rw[q];exact(NW f y fs).1
  ·refine(NW f y fs).2 g (l g λz=>R ?_)
   show(if g=f then some u else j g)=none;rw[qY q];exact z
theorem Inv.made(I:Inv X ζ σ H s):Inv X ζ σ (upd (upd H s.heap.objs.size (.own (s.heap.objs.size+1))) (s.heap.objs.size+1) (.ins C s.heap.objs.size []))
  { s with heap:=(s.heap.push CH).push (DF C s.heap.objs.size) }:=by
 have g:(s.heap.push CH).get? s.heap.objs.size=some CH:=AX s.heap rfl
 have j:((s.heap.push CH).push (DF C s.heap.objs.size)).get? (s.heap.objs.size+1)=some (DF C s.heap.objs.size):=by
  have:=AX (s.heap.push CH) (o:=DF C s.heap.objs.size) rfl;rwa [C8]at this
 have l:(s.heap.push CH).Ns s.heap.objs.size (λ_=>none):=⟨CH,#[],_,g,rfl,(λe m=>zX m (by simp)),λ_=>rfl⟩;have B:=I.laid (a:=s.heap.objs.size) (o:=.own (s.heap.objs.size+1)) (h':=s.heap.push CH) (t':=s.toks) (λb u q=>AB _ q) (AN _) ⟨_,g⟩;refine B.laid (a:=s.heap.objs.size+1) (o:=.ins C s.heap.objs.size []) (t':=s.toks) (λb u q=>AB _ q) (Uu (C8 _ _)) ?_;have i:s.heap.objs.size≠s.heap.objs.size+1:=Al (Cb _);refine⟨by rw[A5 i,BU],Eg _,i,j,λ_=>none,(Uy l).at λo q=>AB _ q,λ_=>Ds,λy G=>zX rfl G⟩
theorem XI(hb:EZ e f env (Bi e env)=Bi e env)
  (h:AZ (AR prog w) A (Bi e env) (λo g=>AZ (AR prog w) A (Yv o f true) Q E g) E s):AZ (AR prog w) A (Bi (.Attribute e f pos) env) Q E s:=
 Attribute_any_ h (by rw[arm_eval_Attribute,hb])
end
noncomputable def tFld(K:AC)(i:TE)(f:Str):TE:=λj H Q=>i j H λx g=>∃a C l fs v,x=.ref a/\g a=some (.ins C l fs)/\Cls K C/\HU K C f/\fs.lookup f=some v/\Q v g
noncomputable def sFld(K:AC)(l m:TE)(f:Str):TS:=λD g H=>m g H λy o=>l g o λx i=>∃a C j fs,x=.ref a/\i a=some (.ins C j fs)/\Cls K C/\HU K C f/\fs.length < 1000 /\
 D.nx g (upd i a (.ins C j (putF f y fs)))
section
variable{X:Cx}{o e value:Expr}{f:Str}{pos pos':Pos}{ta tv:TE}
theorem ii(g:PE X e ta)(hb:EZ e f X.env (Bi e X.env)=Bi e X.env):PE X (.Attribute e f pos) (tFld X.K ta f):=by
 intro i s j H Q I h;refine XI hb (thn (g i s j H _ I h) λu L ⟨x,m,A,B,a,C,N,fs,v,ex,E,c,n,l,q⟩=>?_);subst ex;obtain rfl:u=Ai a:=B
 exact Vp A E c n l λO P G J=>⟨v,m,G,J,q⟩
theorem iU(j:PE X o ta)(m:PE X value tv)(A:EY value (some (.Attribute o f pos')) pos.line X.env=pure false):PS X (.Assign [.Attribute o f pos'] value pos) (sFld X.K ta tv f):=by
 intro i s g H D I h;refine Qs (thn (m i s g H _ I h) λu B ⟨y,E,G,J,q⟩=>thn (j i B g E _ G q) λL S ⟨x,T,N,O,a,C,U,fs,ex,P,c,n,l,Q⟩=>?_) A;subst ex;obtain rfl:L=Ai a:=O
 exact VU N P c n l J λY R=>⟨g,_,R,Q⟩
end
section
variable{X:Cx}{ζ:List (AJ×Obj)}{σ:St}{H:Hp}{s:AG}{A:BO}{E:AD->AG->Prop}{Q:AD->AG->Prop}{c:AD}{b:Bool}
inductive M1(K:AC)(H:Hp):V->AD->Prop where
 | non:M1 K H .non (.type "NoneType")
 | bl (x:Bool):M1 K H (.bl x) (.type "bool")
 | int (i:Int):M1 K H (.int i) (.type "int")
 | str (x:Str):M1 K H (.str x) (.type "str")
 | flt (x:UInt64):M1 K H (.flt x) (.type "float")
 | lst {a:AJ} {xs:List V} (e:H a=some (.lst xs)):M1 K H (.ref a) (.type "list")
 | frz {a:AJ} {o:Obj} {xs:List V} (e:H a=some (.frz o (.lst xs))):M1 K H (.ref a) (.type "list")
 | tup {a:AJ} {xs:List V} (e:H a=some (.tup xs)):M1 K H (.ref a) (.type "tuple")
 | dK {a:AJ} {m8:List (Key×V)} (e:H a=some (.dK m8)):M1 K H (.ref a) (.type "dict")
 | dT {a:AJ} {m8:List (List Key×V)} (e:H a=some (.dT m8)):M1 K H (.ref a) (.type "dict")
 | ins {a C dx:AJ} {fs:List (Str×V)} (e:H a=some (.ins C dx fs)) (cl:Cls K C) (ha:Bq K (.ref C) "__class__" = some (some (.builtin "object.__class__")))
   (hn:MJ K (.builtin "object.__class__") "__get__" = some (some (.builtin "getset_descriptor.__get__"))) (yw:Yj K (.builtin "object.__class__")=some true)
   (hm:Hu K C (.type "object")=some true):M1 K H (.ref a) (.ref C)
theorem YA(I:Inv X ζ σ H s)(g:RelV x u)(ty:M1 X.K H x t)(e:BH X.K t c=some b)(h:∀tk,Q (.bool b) { s with toks:=tk }) :
  AZ (AR X.prog X.w) A (call (.builtin "isinstance") [u,c]) Q E s:=by
 cases ty with
 | non=>cases(show u=BY from g);exact Bs PySem.W.kitx_none I.kIn Ds e (λz=>nomatch z) h
 | bl y=>cases(show u=Jw y from g);exact Bs PySem.W.kitx_bool I.kIn Ds e (λz=>nomatch z) h
 | int i=>obtain⟨t,q⟩:=(show ∃t,u=N5 i t from g);cases q;exact Bs PySem.W.kitx_int I.kIn Ds e (λz=>nomatch z) h
 | str y=>obtain⟨t,q⟩:=(show ∃t,u=N4 y t from g);cases q;exact Bs PySem.W.kitx_str I.kIn Ds e (λz=>nomatch z) h
 | flt y=>obtain⟨t,q⟩:=(show ∃t,u=Uo y t from g);cases q;exact Bs PySem.W.kitx_float I.kIn Ds e (λz=>nomatch z) h
 | @lst a m j=>
  cases(show u=Ai a from g);obtain⟨_,_,n,_,l⟩:=(show CK X.prog X.w H s.heap a (.lst m)from I.hok a _ j);exact Bs WB I.kIn ⟨_,l,rfl⟩ e (λz=>nomatch z) h
 | @frz a N m j=>
  cases(show u=Ai a from g);obtain⟨_,_,_,n,_,l⟩:=(show CK X.prog X.w H s.heap a (.frz N (.lst m))from I.hok a _ j);exact Bs WB I.kIn ⟨_,l,rfl⟩ e (λz=>nomatch z) h
 | @tup a m j=>
  cases(show u=Ai a from g);obtain⟨_,_,_,p⟩:=(show CK X.prog X.w H s.heap a (.tup m)from I.hok a _ j);obtain⟨o,l,B,_⟩:=p;exact Bs PySem.W.kitx_tuple I.kIn ⟨o,l,B⟩ e (λz=>nomatch z) h
 | @dK a G j=>
  cases(show u=Ai a from g);obtain⟨_,_,Y,_,p⟩:=(show CK X.prog X.w H s.heap a (.dK G)from I.hok a _ j);obtain⟨o,P,R,l,B,_⟩:=p;exact Bs WC I.kIn ⟨o,l,B.1⟩ e (λz=>nomatch z) h
 | @dT a G j=>
  cases(show u=Ai a from g);obtain⟨_,_,m,_,o,P,R,l,B,_⟩:=(show CK X.prog X.w H s.heap a (.dT G)from I.hok a _ j);exact Bs WC I.kIn ⟨o,l,B.1⟩ e (λz=>nomatch z) h
 | @ins a C Z fs j L S T U hm=>
  cases(show u=Ai a from g);obtain⟨mA,O,_⟩:=SY I.hok j;obtain⟨od,J,_⟩:=O.look;exact Bs (PySem.W.kitx_own (L.get _) L.hd S T U hm) I.kIn J e (λz=>nomatch z) h
end
structure Fx(k:Nat)(A:BO):Prop where
 hd:A.handled=none
 dp:A.depth+3 * k+5 < recursionLimit
 un:A.units+16 * k+200 < Dq
theorem Fx.mono(r:Fx k A)(h:j<=k):Fx j A:=⟨r.hd,by have:=r.dp;lia,by have:=r.un;lia⟩
theorem Fx.deeper(r:Fx (k+1) A)(env:Env):Fx k (A.deeper env):=
 ⟨r.hd,by have:=r.dp;show A.depth+1+3 * k+5 < _;lia,by have:=r.un;show A.units+3+16 * k+200 < _;lia⟩
theorem Vh{A:BO}{C:AJ}{g:List AD}{i:List (Str×AD)}:(A.under (.builtin "type.__call__" ⟨.ref C :: g,i⟩)).depth=A.depth+1:=by
 first | rfl | simp[S7,Code.weight,Code.isCreation,Code.isGuard,Code.isCaller,ka,Uc,guardIds]
theorem Vg{A:BO}{C:AJ}{g:List AD}{i:List (Str×AD)}:(A.under (.builtin "type.__call__" ⟨.ref C :: g,i⟩)).units=A.units+1:=by
 first | rfl | simp[S7,Code.cUnits,ka,Uc]
theorem Fx.make{k}{A}(r:Fx (k+1) A)(C:AJ)(g:List AD)(i:List (Str×AD)):Fx k (A.under (.builtin "type.__call__" ⟨.ref C :: g,i⟩)):=
 ⟨r.hd,by have:=r.dp;rw[Vh];lia,by have:=r.un;rw[Vg];lia⟩
theorem Fx.depth(r:Fx k A):A.depth < recursionLimit:=by have:=r.dp;lia
theorem Fx.units(r:Fx k A):A.units+64 < Dq:=by have:=r.un;lia
noncomputable def kn:TA:=λ_ H Q=>Q [] H
noncomputable def ZY(i:TE)(tr:TA):TA:=λg H Q=>i g H λx j=>tr g j λl m=>Q (x :: l) m
section
variable{X:Cx}{e:Expr}{es:List Expr}{te:TE}{t:TA}{pos:Pos}
theorem Eu:PA X [] kn:=λ_ _ _ _ H Q I h=>Calls.spliced_nil ⟨[],H,I,.nil,h⟩
theorem C6(j:PE X e te)(l:PA X es t)(m:AO (e :: es) X.env=(false,Bi e X.env) :: AO es X.env:=by rfl):PA X (e :: es) (ZY te t):=by
 intro pos g s i H Q I h;rw[m];show AZ _ _ (spliced ((false,Bi e X.env) :: CN pos (AO es X.env))) _ _ s;refine Calls.spliced_cons (thn (j g s i H _ I h) λu o ⟨x,A,B,C,E⟩=>?_)
 exact thn (l pos g o i A _ B E) λP R ⟨G,J,L,N,O⟩=>⟨x :: G,J,L,.cons C N,O⟩
noncomputable def tTup(t:TA):TE:=λj H Q=>t j H λg i=>g.length<=sizeLine/\∀p,i p=none->Q (.ref p) (upd i p (.tup g))
noncomputable def tLst(t:TA):TE:=λj H Q=>t j H λg i=>g.length<=sizeLine/\∀p,i p=none->Q (.ref p) (upd i p (.lst g))
theorem Z2{x1}(h:PA X es t):PE X (.Tuple es x1 pos) (tTup t):=by
 intro l s m H Q I o;refine wpAny_Tuple_spliced (thn (h pos l s m H _ I o) λA g ⟨B,i,j,r,z,q⟩=>⟨by rw[<-r.length];exact z,?_⟩);have C:i g.heap.objs.size=none:=j.hok.fresh (AN _);refine⟨.ref g.heap.objs.size,upd i g.heap.objs.size (.tup B),j.laid (t':=g.toks) (λb u e=>AB _ e) (AN _) ?_,rfl,q _ C⟩;exact⟨⟨z,⟨_,AX _ rfl,rfl⟩⟩,A,r,⟨_,AX _ rfl,rfl,_,rfl⟩⟩
theorem ig(h:PA X es t):PE X (.List es pos) (tLst t):=by
 intro l s m H Q I o;refine wpAny_List_spliced (thn (h pos l s m H _ I o) λA g ⟨B,i,j,r,z,q⟩=>⟨by rw[<-r.length];exact z,?_⟩);have C:i g.heap.objs.size=none:=j.hok.fresh (AN _);refine⟨.ref g.heap.objs.size,upd i g.heap.objs.size (.lst B),j.laid (t':=g.toks) (λb u e=>AB _ e) (AN _) ?_,rfl,q _ C⟩;exact⟨z,A,0,r,AX _ rfl⟩
end
noncomputable abbrev Sp:=List V->Hp->VK->XK->Prop
noncomputable abbrev CXT:=List Env->Hp->AG->XK->AD->AG->Prop
structure V6(P:A3)(w:BR)(K:AC)(mg:Str->Option AD)(base:Bt)(A:BO)(outer:List Env)(s:AG)(H:Hp):Prop where
 frames:A.frames=some outer
 mod:Mod K mg base
 bs:∀b o,base.get? b=some o->s.heap.get? b=some o/\H b=none
 bsz:base.objs.size<=s.heap.objs.size
 funs:s.heap.FunFrames base outer
 frf:∀b∈frs outer,H b=none
 hok:HOk P w H s.heap
 bare:HV s.gens
noncomputable def CE(g:List Env)(P:A3)(w:BR)(H:Hp)(s:AG)(Q:VK)(u:AD)(s':AG):Prop:=
 ∃v i,s'.os=s.os/\HV s'.gens/\Un (frs g) [] H i s.heap s'.heap/\HOk P w i s'.heap/\RelV v u/\Q v i
noncomputable def CR(CX:CXT)(g:List Env)(P:A3)(w:BR)(H:Hp)(s:AG)(Q:VK)(E:XK)(r:Result)(s':AG):Prop:=
 match r with
 | .ok (.ret u)=>CE g P w H s Q u s'
 | .ok _=>False
 | .error e=>CX g H s E e s'
structure D0(P:A3)(w:BR)(K:AC)(mg:Str->Option AD)(base:Bt)(CX:CXT)(k:Nat)(f:AJ)(fd:Gf)(ps:List Str)(sp:Sp):Prop where
 len:∀vs H Q E,sp vs H Q E->vs.length=ps.length
 run:∀(A:BO) (outer:List Env) (s:AG) (H:Hp) (args:Args) (us:List AD) (vs:List V) (Q:VK) (E:XK),Fx k A->V6 P w K mg base A outer s H->Ud s fd args (ps.zip us)->Bb vs us->sp vs H Q E ->
  LZ (AR P w) A (.call (.ref f) args) (CR CX outer P w H s Q E) s
theorem D0.imp{P}{w}{K}{l}{base}{CX}{k}{f}{fd}{ps}{sp sp'}(F:D0 P w K l base CX k f fd ps sp)
  (h:∀i H Q E,sp' i H Q E->sp i H Q E):D0 P w K l base CX k f fd ps sp':=
 ⟨λi H Q E q=>F.len i H Q E (h _ _ _ _ q),λA g s H j m i Q E o B hb C G=>F.run A g s H j m i Q E o B hb C (h _ _ _ _ G)⟩
theorem V6.make{P}{w}{K}{i}{base}{A}{g}{s}{H}(e:V6 P w K i base A g s H)(C:AJ)(j:List AD)(l:List (Str×AD)) :
  V6 P w K i base (A.under (.builtin "type.__call__" ⟨.ref C :: j,l⟩)) g s H:=⟨by first | exact e.frames | (simpa[S7,Code.envs,Uc,pushEnvs]using e.frames),e.mod,e.bs,e.bsz,e.funs,e.frf,e.hok,e.bare⟩
section
variable{X:Cx}{ζ:List (AJ×Obj)}{σ:St}{H:Hp}{s s':AG}
theorem Inv.env0(I:Inv X ζ σ H s):V6 X.prog X.w X.K X.mg X.base X.A X.stack s H:=
 ⟨I.ok.frames,I.ok.mod,I.bs,Ae I.ok.bsz I.sz,I.stack,I.stkFree,I.hok,I.bare⟩
theorem Inv.after(I:Inv X ζ σ H s)(h:CE X.stack X.prog X.w H s Q u s'):EP X ζ σ Q u s':=by
 obtain⟨v,l,os,i,un,j,r,q⟩:=h;obtain⟨m,g,d,t,o⟩:=s';obtain rfl:o=s.os:=os;exact⟨v,l,I.call (h':=m) (g':=g) (d':=d) (t':=t) (ch:=[]) un j i (λb z=>zX z (by simp)),r,q⟩
end
noncomputable def kx(sp:Sp)(i:List V)(E:St->XK)(t:TA):TE:=λg H Q=>t g H λj l=>sp (j++i) l Q (E g)
noncomputable def kr(C:AJ)(sp:Sp)(l:List V)(E:St->XK)(t:TA):TE:=λj H Q=>t j H λm i=>∀x g,i x=none->i g=none->g≠x ->
 sp (.ref x :: (m++l)) (upd (upd i g (.own x)) x (.ins C g [])) (λv o=>v=.non/\Q (.ref x) o) (E j)
noncomputable def Binds(K:AC)(fd:Gf)(ps:List Str)(ds:List AD):Prop:=
 ∀(s:AG) (g:List AD),K.In s.heap->(g++ds).length=ps.length->Ud s fd ⟨g,[]⟩ (ps.zip (g++ds))
theorem Binds.all{K}{fd}{ps}(h:∀g:List AD,g.length=ps.length->cM fd ⟨g,[]⟩=pure (ps.zip g)):Binds K fd ps []:=λs g _ i=>by
 rw[BV]at i ⊢;exact .of_eq (h g i)
noncomputable def L6(CX:CXT)(X:Cx)(E:St->XK):Prop:=∀(j:List (AJ×Obj)) (g:St) (H:Hp) (s:AG) (e:AD) (i:AG),Inv X j g H s->CX X.stack H s (E g) e i->X.xe e i
section
variable{X:Cx}{k:Nat}{f C:AJ}{fd:Gf}{ps:List Str}{sp:Sp}{E:St->XK}{x:Str}{p pos:Pos}{e:Expr}{es:List Expr}{t:TA}
theorem iJ(F:D0 X.prog X.w X.K X.mg X.base CX k f fd ps sp)(G:Fx k X.A)(hb:Binds X.K fd ps ds)(J:Bb l ds)(L:L6 CX X E)
  (I:Inv X o j H s) (r:Bb m g) (h:sp (m++l) H Q (E j)):AZ (AR X.prog X.w) X.A (call (.ref f) g) (EP X o j Q) X.xe s:=by
 have B:Bb (m++l) (g++ds):=r.append J
 have N:(g++ds).length=ps.length:=by rw[<-B.length];exact F.len _ _ _ _ h
 refine Fa (GY (F.run X.A X.stack s H ⟨g,[]⟩ (g++ds) (m++l) Q (E j) G I.env0 (hb s g I.kIn N) B h) λr O i=>?_)
 cases r with
 | error e=>exact L o j H s e O I i
 | ok P=>
  cases P with
  | ret u=>exact I.after i
  | next=>exact CY i
  | brk=>exact CY i
  | cont=>exact CY i
theorem dk(F:D0 X.prog X.w X.K X.mg X.base CX k f fd ps sp)(i:Fx k X.A)(j:Gl X x)(hm:X.mg x=some (.ref f))(l:E5 X.K (.ref f)=true)(hb:Binds X.K fd ps ds)(m:Bb o ds)(B:L6 CX X E)
  (G:PA X (e :: es) t) (J:(x==("__debug__" : Str))=false:=by decide) (L:AO (e :: es) X.env=(false,Bi e X.env) :: AO es X.env:=by rfl) (N:(CN pos (AO es X.env)).any (·.1)=false:=by rfl) :
  PE X (.Call (.Name x p) (e :: es) [] pos) (kx sp o E t):=by
 intro O s P H Q I h;refine Fb (K6 I j hm ?_ J);refine Ut (h₀:=X.base) I.ok.mod.kin l (thn (G pos O s P H _ I h) λR S ⟨T,U,g,r,q⟩=>⟨g.kIn,?_⟩) L N;exact iJ F i hb m B g r q
structure Mk(K:AC)(C f:AJ):Prop where
 makes:Yk K C=true
 init:Bq K (.ref C) "__init__" = some (some (.ref f))
 fn:Rh K (.ref f)=true
 kp:E5 K (.ref C)=true
theorem Zj(M:Mk X.K C f)(F:D0 X.prog X.w X.K X.mg X.base CX k f fd ps sp)(N:Fx (k+1) X.A)(hb:Binds X.K fd ps ds)(O:Bb o ds)
  (P:L6 CX X E) (I:Inv X B j H s) (r:Bb G g)
  (h:∀x l,H x=none->H l=none->l≠x->sp (.ref x :: (G++o)) (upd (upd H l (.own x)) x (.ins C l [])) (λv R=>v=.non/\Q (.ref x) R) (E j)) :
  AZ (AR X.prog X.w) X.A (call (.ref C) g) (EP X B j Q) X.xe s:=by
 have J:=h (s.heap.objs.size+1) s.heap.objs.size (I.hok.fresh (Ip _)) (I.hok.fresh (AN _)) (Al (Cb _));have m:=Inv.made (C:=C) I;have L:Bb (V.ref (s.heap.objs.size+1) :: (G++o)) (Ai (s.heap.objs.size+1) :: (g++ds)):=.cons rfl (r.append O)
 have S:(Ai (s.heap.objs.size+1) :: g++ds).length=ps.length:=by
  have e:=L.length;rw[F.len _ _ _ _ J]at e;exact e.symm
 refine Fa (aS (f:=f) I.kIn M.makes M.init (beq_iff_eq.mp M.fn) (GY (F.run _ X.stack _ _ ⟨Ai (s.heap.objs.size+1) :: g,[]⟩ (Ai (s.heap.objs.size+1) :: (g++ds)) _ _ (E j) (N.make C g [])
  (m.env0.make C g []) (hb _ (Ai (s.heap.objs.size+1) :: g) m.kIn S) L J) λr T i=>?_))
 cases r with
 | error e=>exact P B j _ _ e T m i
 | ok U=>
  cases U with
  | ret u=>
   obtain⟨v,Y,Z,rv,ev,q3⟩:=m.after i;subst ev;exact⟨rv,⟨V.ref (s.heap.objs.size+1),Y,Z,rfl,q3⟩⟩
  | next=>exact CY i
  | brk=>exact CY i
  | cont=>exact CY i
theorem df(M:Mk X.K C f)(F:D0 X.prog X.w X.K X.mg X.base CX k f fd ps sp)(i:Fx (k+1) X.A)(j:Gl X x)(hm:X.mg x=some (.ref C))(hb:Binds X.K fd ps ds)(l:Bb m ds)(o:L6 CX X E)
  (B:PA X (e :: es) t) (G:(x==("__debug__" : Str))=false:=by decide) (J:AO (e :: es) X.env=(false,Bi e X.env) :: AO es X.env:=by rfl) (L:(CN pos (AO es X.env)).any (·.1)=false:=by rfl) :
  PE X (.Call (.Name x p) (e :: es) [] pos) (kr C sp m E t):=by
 intro N s O H Q I h;refine Fb (K6 I j hm ?_ G);refine Ut (h₀:=X.base) I.ok.mod.kin M.kp (thn (B pos N s O H _ I h) λP R ⟨S,T,g,r,q⟩=>⟨g.kIn,?_⟩) J L;exact Zj M F i hb l o g r q
end
structure B9(N P:List Str)(sc:QO):Prop where
 kind:sc.kind=.function
 co:sc.isCoroutine=false
 gen:sc.isGenerator=false
 nd:N.Nodup
 pre:N.take P.length=P
 par:∀x∈P,sc.names.lookup x=some .local∨sc.names.lookup x=some .cell
 nofree:∀y∈sc.names,y.2≠.free
theorem RT{kindOf}{x}:∀{binds:List (Str×AD)} {m:Str->Option AD},(∀v,(x,v)∉binds)->Yh kindOf binds m x=m x
 | [],_,_=>rfl
 | (n,v) :: r,m,h=>by
  unfold Yh;rw[RT λw hw=>h w (AM _ hw)];split
  ·have:x≠n:=by rintro rfl;exact h v Aa
   simp[this]
  ·rfl
theorem RV{kindOf}{x}:∀{binds:List (Str×AD)} {m:Str->Option AD},(∀v,(x,v)∉binds)->Yi kindOf binds m x=m x
 | [],_,_=>rfl
 | (n,v) :: r,m,h=>by
  unfold Yi;rw[RV λw hw=>h w (AM _ hw)];split
  ·rfl
  ·have:x≠n:=by rintro rfl;exact h v Aa
   simp[this]
theorem RU{kindOf}{x}{v}:∀{P:List Str} {g:List AD} {i:Nat} {m:Str->Option AD},P.Nodup->P[i]?=some x->g[i]?=some v->kindOf x=some .local ->
  Yh kindOf (P.zip g) m x=some v
 | [],_,_,_,_,h,_,_=>by simp at h
 | _ :: _,[],_,_,_,_,h,_=>by simp at h
 | p :: P,w :: g,0,m,o,j,l,s=>by
  simp at j l;subst j;subst l;show Yh kindOf ((p,w) :: P.zip g) m p=_;unfold Yh;rw[RT λv A=>(KJ.mp o).1 (QI A).1,qX s];simp
 | p :: P,w :: g,i+1,m,o,j,l,s=>by
  show Yh kindOf ((p,w) :: P.zip g) m x=_;unfold Yh;exact RU (i:=i) (KJ.mp o).2 (by simpa using j) (by simpa using l) s
theorem RW{kindOf}{x}{v}:∀{P:List Str} {g:List AD} {i:Nat} {m:Str->Option AD},P.Nodup->P[i]?=some x->g[i]?=some v->kindOf x≠some .local ->
  Yi kindOf (P.zip g) m x=some v
 | [],_,_,_,_,h,_,_=>by simp at h
 | _ :: _,[],_,_,_,_,h,_=>by simp at h
 | p :: P,w :: g,0,m,o,j,l,s=>by
  simp at j l;subst j;subst l;show Yi kindOf ((p,w) :: P.zip g) m p=_;unfold Yi;rw[RV λv A=>(KJ.mp o).1 (QI A).1,qY s];simp
 | p :: P,w :: g,i+1,m,o,j,l,s=>by
  show Yi kindOf ((p,w) :: P.zip g) m x=_;unfold Yi;exact RW (i:=i) (KJ.mp o).2 (by simpa using j) (by simpa using l) s
noncomputable def start(N:List Str)(g:List V):St:=g.map some++A7 (N.length - g.length) none
noncomputable def Qm(CX:CXT)(P:A3)(w:BR)(K:AC)(mg:Str->Option AD)(base:Bt)(N:List Str)(g:Str)(scope:QO)(f:AJ)(i:AD)(A:BO)(outer:List Env)(s:AG)(H:Hp)(E:XK):Cx where
 prog:=P
 w:=w
 K:=K
 mg:=mg
 base:=base
 A:=A.deeper (LY g scope s.heap.objs.size f i)
 N:=N
 s₀:=s
 H₀:=H
 env:=LY g scope s.heap.objs.size f i
 outer:=outer
 stack:=LY g scope s.heap.objs.size f i :: outer
 ex:=[]
 calm:=true
 fn:=λ_=>true
 pn:=[]
 xe:=λe l=>AZ (AR P w) (A.deeper (LY g scope s.heap.objs.size f i)) (leaving (LY g scope s.heap.objs.size f i) e) (λ_ j=>CX outer H s E e j) (λm j=>CX outer H s E m j) l
theorem UJ{g:QO}{n:Nat}{x:Str}(h:g.names.lookup x=some .cell):∃c,(Bg n g.names []).lookup x=some c:=by
 have q:=Ri g.names n [] (.inl h);exact Qu.mp q
theorem YB{CX:CXT}{P:A3}{w:BR}{K:AC}{L:Str->Option AD}{base:Bt}{N ps:List Str}{j:Str}{scope:QO}{f:AJ}{G:AD}{A:BO}{g:List Env}{s s1:AG}{H:Hp}{E:XK}{O:List AD}{o:List V}
  (S:B9 N ps scope) (X:A.handled=none) (m:V6 P w K L base A g s H) (hl:o.length=ps.length) (r:Bb o O)
  (x:InCallC s s.heap.objs.size (Yh (LY j scope s.heap.objs.size f G).kindOf (ps.zip O) λ_=>none) (Bg (s.heap.objs.size+1) scope.names []) (Yi (LY j scope s.heap.objs.size f G).kindOf (ps.zip O) λ_=>none) s1) :
  Inv (Qm CX P w K L base N j scope f G A g s H E) [] (start N o) H s1:=by
 have nV:ps.length<=N.length:=by have:=congrArg Ec S.pre;rw[Ba]at this;lia
 obtain⟨I,tk,rfl,R⟩:=x.done
 have Q:∀b:AJ,b∉(Qm CX P w K L base N j scope f G A g s H E).ex:=λb z=>zX (show b∈([]:List AJ)from z) (by simp)
 refine⟨⟨m.mod,S.kind,rfl,rfl,AN _,λy z c I l=>?_,λy B=>?_,λy c _ h=>?_,λ_=>X,BO.frames_deeper m.frames,.inr ⟨rfl,rfl⟩,λb z=>zX z (Q b),m.bs,m.bsz,λb _ _=>Q b,λb z=>zX z (Q b),m.funs,m.frf⟩,
  rfl,m.bare,Un.kept R,⟨_,x.toInCall.ns,λi y v I l h3=>?_⟩,λy c h=>⟨_,x.cell y c h⟩,m.hok.fresh (AN _),λy c h=>?_,λp C=>zX (show p∈([]:List (AJ×Obj))from C) (by simp),m.hok.kept R,?_⟩
 ·exact name_of_addr x.apart (Cr I) (Cr l)
 ·have B:scope.names.lookup y=some .cell∨scope.names.lookup y=some .free:=B
  rcases B with B | B
  ·exact UJ B
  ·exact zX rfl (S.nofree _ (Cr B))
 ·exact KI (x.above y c (Cr h))
 ·have J:i < o.length:=by
   unfold start at l
   by_cases J:i < o.length
   ·exact J
   ·rw[Au (by simpa using J)]at l
    rw[Cm]at l
    split at l <;> cases l
  have Y:o[i]?=some v:=by
   unfold start at l;rw[Af (by simpa using J),At]at l
   cases e:o[i]? with
   | none=>rw[e]at l;cases l
   | some a=>rw[e]at l;cases l;rfl
  obtain⟨u,T,Z⟩:=r.get Y
  have C:ps[i]?=some y:=by
   rw[<-S.pre,S6 (by lia)];exact I
  have U:ps.Nodup:=by rw[<-S.pre];exact S.nd.sublist (Yz _ _)
  refine⟨u,Z,?_⟩
  rcases S.par y (CB C)with k | k
  ·exact .inl ⟨k,RU U C T k⟩
  ·obtain⟨c,e⟩:=UJ (n:=s.heap.objs.size+1) k
   refine .inr ⟨.inl k,c,e,?_⟩;have q:=x.cell y c e;rw[RW U C T (by show scope.names.lookup y≠_;rw[k];decide)]at q;exact q
 ·exact m.hok.fresh (KI (x.above y c (Cr h)))
 ·unfold start
  show _=N.length;rw[AW,AL,Ku]
  lia
theorem fy{CX}{P}{w}{K}{O}{base}{k}{f}{name i}{params}{body}{scope}{X kV G Y B ct oc}{Z od}
  {pK} {N ps} {sp} (lk:K.lookup f=some ⟨oc,od,.func (Gq name i params body scope X kV G Y Z B ct),pK⟩) (oJ:Ot K B i=true) (S:B9 N ps scope)
  (len:∀j H Q E,sp j H Q E->j.length=ps.length)
  (om:∀(A:BO) (g:List Env) (s:AG) (H:Hp) (j:List V) (Q:VK) (E:XK),Fx k (A.deeper (LY i scope s.heap.objs.size f B))->sp j H Q E ->
   ∃t,PSs (Qm CX P w K O base N i scope f B A g s H E) body t/\t { nx:=λ_ m=>Q .non m,rt:=Q } (start N j) H) :
  D0 P w K O base CX (k+1) f (Gq name i params body scope X kV G Y Z B ct) ps sp:=by
 refine⟨len,λA g s H args us j Q E R L hb r qR=>?_⟩;have hl:=len _ _ _ _ qR
 have KX:K.In s.heap:=L.mod.kin.keeps λb o e=>(L.bs b o e).1
 have T:s.heap.NoLimit:=L.mod.nolimit.keeps λb o e=>(L.bs b o e).1
 have tI:∀y∈ps.zip us,scope.names.lookup y.1=some .local∨(scope.names.lookup y.1=some .cell/\((Bg (s.heap.objs.size+1) scope.names []).lookup y.1).isSome=true):=by
  rintro ⟨n,v⟩ hy
  rcases S.par n (QI hy).1 with q | q
  ·exact .inl q
  ·exact .inr ⟨q,Ri _ _ _ (.inl q)⟩
 refine codeAny_call_function R.depth (KX _ _ lk) rfl S.co S.gen rfl (PySem.W.codeRec_of KX oJ) (hb _ _ _ _ ?_)
 refine wpAny_newFunctionEnv_cells S.kind tI λenv he s1 x=>?_
 subst he;refine⟨T.keeps x.toInCall.keep,codeAny_func ?_⟩;obtain⟨t,ht,hq⟩:=om A g s H j Q E (R.deeper _) qR;have I:Inv (Qm CX P w K O base N i scope f B A g s H E) [] (start N j) H s1:=YB S R.hd L hl r x
 refine BX (ht [] s1 (start N j) H _ I hq) (λfl s' C=>?_) λe s' C=>C
 have fin:∀{l:St} {m:Hp} {v:V} {u:AD},Inv (Qm CX P w K O base N i scope f B A g s H E) [] l m s'->RelV v u->Q v m->CE g P w H s Q u s':=
  λ{l m v u} J U q=>⟨v,m,J.os,J.bare,J.base,J.hok,U,q⟩
 cases fl with
 | ret u=>
  obtain⟨v,l,m,J,U,q⟩:=C;exact fin J U q
 | next=>
  obtain⟨l,m,J,q⟩:=C;exact fin (v:=V.non) (u:=BY) J rfl q
 | brk=>
  obtain⟨_,_,_,q⟩:=C;exact CY q
 | cont=>
  obtain⟨_,_,_,q⟩:=C;exact CY q
section
variable{X:Cx}{x:Str}{p pos:Pos}{e:Expr}{es:List Expr}{t:TA}{id T:String}{r:List V->Hp->VK->Prop}
noncomputable def tCB(r:List V->Hp->VK->Prop)(t:TA):TE:=λg H Q=>t g H λi j=>r i j Q
theorem Ie(j:GR X (.builtin id) r)(l:Gl X x)(hm:X.mg x=none)(m:E1 x=some (.builtin id))(o:PA X (e :: es) t)(A:x≠"__name__":=by decide) (B:(x==("__debug__" : Str))=false:=by decide)
  (C:AO (e :: es) X.env=(false,Bi e X.env) :: AO es X.env:=by rfl) (E:(CN pos (AO es X.env)).any (·.1)=false:=by rfl):PE X (.Call (.Name x p) (e :: es) [] pos) (tCB r t):=by
 intro g s i H Q I h;refine Fb (NV I l hm m ?_ A B);exact mY (thn (o pos g s i H _ I h) λG J ⟨L,N,O,P,R⟩=>j g J i N L G Q O P R) C E
theorem NQ(j:GR X (.type T) r)(l:Gl X x)(hm:X.mg x=none)(m:E1 x=some (.type T))(o:PA X (e :: es) t)(A:x≠"__name__":=by decide) (B:(x==("__debug__" : Str))=false:=by decide)
  (C:AO (e :: es) X.env=(false,Bi e X.env) :: AO es X.env:=by rfl) (E:(CN pos (AO es X.env)).any (·.1)=false:=by rfl):PE X (.Call (.Name x p) (e :: es) [] pos) (tCB r t):=by
 intro g s i H Q I h;refine Fb (NV I l hm m ?_ A B);exact F3 (thn (o pos g s i H _ I h) λG J ⟨L,N,O,P,R⟩=>j g J i N L G Q O P R) C E
end
end L2
namespace HT
open PySem PyProof.Rows
noncomputable def lexLt:ZLi->ZLi->Bool
 | [],[]=>false
 | [],_ :: _=>true
 | _ :: _,[]=>false
 | x :: g,y :: i=>if x=y then lexLt g i else decide (x < y)
theorem Vj(x y:Int)(xs ys:ZLi):lexLt (x :: xs) (y :: ys)=if x=y then lexLt xs ys else decide (x < y):=rfl
theorem Qk:lexLt [] []=false:=rfl
theorem Pq(y:Int)(ys:ZLi):lexLt [] (y :: ys)=true:=rfl
theorem Pr(x:Int)(xs:ZLi):lexLt (x :: xs) []=false:=rfl
theorem bb(A:BO)(s:AG)(a:Int)(t:Tok)(c:Int)(u:Tok):∃e,SeqAt.EqAt A s (.int a t) (.int c u) e/\(e=true↔a=c):=
 ⟨(a==c),SeqAt.EqAt.int_int a t c u,by simp⟩
theorem Zn(A:BO)(s:AG)(a:Int)(t:Tok)(c:Int)(u:Tok)(prog:A3)(w:BR)(E:AD->AG->Prop)(Q:AD->AG->Prop)(h:Q (.bool (decide (a < c))) s) :
  AZ (AR prog w) A (richCompare .Lt (.int a t) (.int c u)) Q E s:=
 (mW h:AZ (AR prog w) A (BG .Lt (.int a t) (.int c u)) Q E s)
section
open PySem.SeqAt
open PySem.AutoSeq1 (wpAny_loadPart')
open PySem.MeetsSeq PySem.MeetsSeq2 PySem.MeetsSeq3
theorem QW(l b:AJ)(i I:Array AD)(n n2:Nat)(dd qS:Option AJ)(sl qT:Array (Option AD))(ns P:ZLi)(hi:CG i.toList ns)(Y:CG I.toList P) :
  Meets (Builtin.«tuple.__lt__» ⟨[.ref l,.ref b],[]⟩)
   (λ_ R s=>s.heap.get? l=some { cls:=.type "tuple",dict:=dd,data:=.seq i n,slots:=sl }/\s.heap.get? b=some { cls:=.type "tuple",dict:=qS,data:=.seq I n2,slots:=qT } /\
    R (.ok (.ret (.bool (lexLt ns P)))) s):=
 .of_wp λB w A R s h=>by
  obtain⟨Q,g,d,tk,os⟩:=s;obtain⟨hl,hb,h⟩:=h;have f2:=AutoSeq1.sub_tuple_tuple
  have z1:i.size=ns.length:=by rw[<-hi.length];simp
  have z2:I.size=P.length:=by rw[<-Y.length];simp
  wp_walk using FU hl,FU hb,kL _ (λC b T=>b.1=none/\T=⟨Q,g,d,tk,os⟩/\∃(S ws:List AD) (J L:ZLi),C=S.zip ws /\
   CG S J/\CG ws L/\J.length+I.size=L.length+i.size/\R (.ok (.ret (.bool (lexLt J L)))) ⟨Q,g,d,tk,os⟩) _
  case turn=>
   rintro⟨y,x⟩ C b T ⟨U,rfl,S,ws,J,L,m,G,o,j,E⟩
   cases G with
   | nil=>rw[Yy]at m;cases m
   | cons a t N=>
    cases o with
    | nil=>rw[Yn]at m;cases m
    | cons c u O=>
     rw[Hb]at m
     injection m with X H
     injection X with hy hx
     subst hy hx;rw[Vj]at E;simp only[AU]at j;obtain⟨e,he,Z⟩:=bb A.in1 ⟨Q,g,d,tk,os⟩ a t c u;refine AA (he B w _ _ ?_)
     cases e with
     | true=>
      rw[qX (Z.mp rfl)]at E
      wp_walk
      exact⟨rfl,rfl,_,_,_,_,H,N,O,by lia,E⟩
     | false=>
      rw[qY (λq=>zX (Z.mpr q) Ac)]at E;have zE:=Zn A.in1 ⟨Q,g,d,tk,os⟩ a t c u B w
      wp_walk using zE
      exact⟨_,rfl,by simpa using E⟩
  case fin=>
   rintro⟨b1,b2⟩ T ⟨U,rfl,S,ws,J,L,m,G,o,j,E⟩;simp only at U;subst U
   have hv:lexLt J L=decide (i.size < I.size):=by
    cases G with
    | nil=>
     cases o with
     | nil=>
      simp only[B7]at j;rw[Qk];exact(wY (by lia)).symm
     | cons c u hw=>
      simp only[B7,AU]at j;rw[Pq];exact(wX (by lia)).symm
    | cons a t hv=>
     cases o with
     | nil=>
      simp only[B7,AU]at j;rw[Pr];exact(wY (by lia)).symm
     | cons c u hw=>
      rw[Hb]at m;cases m
   rw[hv]at E
   wp_walk
   exact⟨_,rfl,by simpa[kc]using E⟩
  case h=>
   exact⟨rfl,rfl,i.toList,I.toList,ns,P,rfl,hi,Y,by lia,h⟩
end
section
variable{prog:A3}{w:BR}{A:BO}{E:AD->AG->Prop}{s:AG}
theorem Vi(H:Yp s.heap l g)(hb:Yp s.heap b m)(hi:CG g.toList ns)(I:CG m.toList j)
  (J:A.units < Dq) (h:Q (.bool (lexLt ns j)) s):AZ (AR prog w) A (BG .Lt (.ref l) (.ref b)) Q E s:=by
 obtain⟨⟨cls,L,data,sl⟩,o,B,n,C⟩:=id H;obtain⟨⟨G,N,data2,O⟩,i,hc2,P,hd2⟩:=id hb;simp only at B C hc2 hd2;subst B C hc2 hd2
 exact richCompare_meets_room (op:=.Lt) ⟨_,o,rfl⟩ ⟨_,i,rfl⟩ PySem.F.slot_tuple_lt PySem.F.entry_tuple_lt (PySem.F.args_tuple_lt_2 _ _) (QW l b g m n P L N sl O ns j hi I)
  ⟨o,i,show Jw (lexLt ns j)≠AD.notImplemented/\Q (.bool (lexLt ns j)) s from⟨(λx=>nomatch x),h⟩⟩ J
theorem e8(J:Yp s.heap t i.toArray)(hb:Yp s.heap b ws.toArray)(l:i≠[])
  (L:ws=[]->Q (.ref t) s) (N:ws≠[]->Q (.ref s.heap.objs.size) { s with heap:=s.heap.push { cls:=.type "tuple",data:=.seq (i++ws).toArray } })
  (hsz:i.length+ws.length<=sizeLine):AZ (AR prog w) A (DN .Add (.ref t) (.ref b)) Q E s:=by
 obtain⟨⟨cls,m,data,sl⟩,j,o,n,B⟩:=id J;obtain⟨⟨C,G,data2,H⟩,g,hc2,I,hd2⟩:=id hb;simp only at o B hc2 hd2;subst o B hc2 hd2
 have e:i.toArray++ws.toArray=(i++ws).toArray:=by simp
 by_cases hw:ws=[]
 ·exact Yw ⟨_,j,rfl⟩ ⟨_,g,rfl⟩ Rg XR Iw IS (Hv _ _)
   (tuple_addW1 t b i.toArray ws.toArray n I m G sl H (by simpa using l) (by simp[hw])) ⟨j,g,L hw⟩
 ·refine Yw ⟨_,j,rfl⟩ ⟨_,g,rfl⟩ Rg XR Iw IS (Hv _ _)
   (tuple_addW2 t b i.toArray ws.toArray n I m G sl H (by simpa using l) (by simpa using hw) (by rw[Aj,Aj];exact hsz)) ⟨j,g,?_⟩
  rw[e];exact N hw
noncomputable def sIx(n d:Nat):Option Int->Nat
 | none=>d
 | some v=>if v < 0 then(v+(n:Int)).toNat else min v.toNat n
theorem Th(n d:Nat):sIx n d none=d:=rfl
theorem Oa(n d k:Nat):sIx n d (some (k:Int))=min k n:=by
 show(if (k:Int) < 0 then((k:Int)+(n:Int)).toNat else min (k:Int).toNat n)=min k n;rw[qY (by lia),Cp]
theorem iG(n d:Nat)(i:d<=n)(o:Option Int):sIx n d o<=n:=by
 cases o with
 | none=>exact i
 | some v=>
  show(if v < 0 then(v+(n:Int)).toNat else min v.toNat n)<=n
  by_cases g:v < 0
  ·rw[qX g];lia
  ·rw[qY g];exact cP _ _
theorem XD(v:Int)(n d:Nat):(if v < 0 then max (v+(n:Int)) 0 else min v (n:Int))=((sIx n d (some v):Nat):Int):=by
 show(if v < 0 then max (v+(n:Int)) 0 else min v (n:Int))=(((if v < 0 then(v+(n:Int)).toNat else min v.toNat n):Nat):Int)
 by_cases g:v < 0
 ·simp only[qX g];lia
 ·simp only[qY g];lia
theorem V3(lo hi:Option Int)(n:Nat):Gg lo hi 1 (n:Int)=(((sIx n 0 lo:Nat):Int),((sIx n n hi:Nat):Int)):=by
 have g:¬((1:Int) < 0):=by lia
 unfold Gg;simp only[g,if_false];refine Qt ?_ ?_
 ·cases lo with
  | none=>rfl
  | some v=>exact XD v n 0
 ·cases hi with
  | none=>rfl
  | some v=>exact XD v n n
theorem VY(i j:Nat):D1 (i:Int) (j:Int) 1=j - i:=by
 unfold D1
 have g:(1:Int) > 0:=by lia
 simp only[g,if_true,Int.ediv_one]
 split <;> lia
theorem PP(p:Ro v o)(h:Q o s):AZ (AR prog w) A (kd v) Q E s:=by
 cases p with
 | none=>exact slicePart_none h
 | int i t=>exact slicePart_int h
theorem NM{sl:AJ}{g i:AD}{lo hi:Option Int}{n:Nat}{Q:Int×Int×Nat->AG->Prop}(m:s.heap.IsSliceOf sl g i .none)(pl:Ro g lo)(o:Ro i hi)
  (h:Q (((sIx n 0 lo:Nat):Int),1,sIx n n hi - sIx n 0 lo) s):AZ (AR prog w) A (MN (.ref sl) (pure (n:Int))) Q E s:=by
 obtain⟨os,j,B,l⟩:=id m;unfold MN ke;refine AA (AA (Et j l (x:=g) rfl (AA (Et j l (x:=i) rfl (AA (Et j l (x:=.none) rfl (AE ?_)))))));refine AA (slicePart_none ?_);show AZ _ _ (if ((1:Int)==0)=true then _ else _) _ _ s;rw[qY (by decide)];refine AA (PP pl (AA (PP o (AA (AE ?_)))));show AZ _ _ (match Gg lo hi 1 (n:Int)with | (lo,hi)=>pure (lo,(1:Int),D1 lo hi 1)) _ _ s;rw[V3 lo hi n];show AZ _ _ (pure (((sIx n 0 lo:Nat):Int),(1:Int),D1 ((sIx n 0 lo:Nat):Int) ((sIx n n hi:Nat):Int) 1)) _ _ s;rw[VY];exact AE h
theorem Zz(xs:Array AD)(i k:Nat):((Bd k).filterMap λ(m:Nat)=>xs[((i:Int)+(m:Int) * 1).toNat]?).toArray=((xs.toList.drop i).take k).toArray:=by
 have e:(λ(m:Nat)=>xs[((i:Int)+(m:Int) * 1).toNat]?)=λm=>xs[i+m]?:=by
  funext m
  have:((i:Int)+(m:Int) * 1).toNat=i+m:=by lia
  rw[this]
 rw[e];have:=pick_run xs i k;rw[List.filterMap_map]at this
 have g:((λx=>xs[x]?)∘λx=>i+x)=λm=>xs[i+m]?:=rfl
 rw[g]at this;rw[this]
theorem Mq{t sl}{g}{l o}{lo hi}{Q}(i:Yp s.heap t g)(B:s.heap.IsSliceOf sl l o .none)(pl:Ro l lo)(C:Ro o hi)
  (hw:¬(sIx g.size 0 lo=0/\sIx g.size g.size hi=g.size))
  (h:Q (.ref s.heap.objs.size) { s with heap:=s.heap.push { cls:=.type "tuple",data:=.seq ((g.toList.drop (sIx g.size 0 lo)).take (sIx g.size g.size hi - sIx g.size 0 lo)).toArray } })
  (hsz:g.size<=sizeLine):AZ (AR prog w) A (Ng (.ref t) (.ref sl)) Q E s:=by
 have j:sizeOk (.seq ((g.toList.drop (sIx g.size 0 lo)).take (sIx g.size g.size hi - sIx g.size 0 lo)).toArray):=by
  show((g.toList.drop (sIx g.size 0 lo)).take (sIx g.size g.size hi - sIx g.size 0 lo)).toArray.size<=sizeLine;rw[Aj,Ba,CC,BK];omega
 have L:sIx g.size g.size hi<=g.size:=iG _ _ (AN _) hi;obtain⟨os,G,H,N⟩:=id B;have I:s.TypeIs (.ref sl) "slice":=⟨os,G,H⟩;unfold Ng
 try with_reducible refine Bz ?_
 first | refine AA (AE ?_) | skip
 refine AA (wpAny_sequenceKey i.typeIs (by decide) ?_)
 refine AA (Fy (name:=Fd "__getitem__") i.typeIs Ev
  (Du Ev i.typeIs entry_tuple_getitem ?_ (args_tuple_getitem _ _)))
 show AZ _ _ (kb (.ref t) >>= _) _ _ s;refine AA (tupleItemsOf_ i ?_);refine AA (Yt I ?_);rw[qX (by decide)];refine AA (NM B pl C ?_)
 have J:¬((((sIx g.size 0 lo:Nat):Int)==0&&(1:Int)==1&&(sIx g.size g.size hi - sIx g.size 0 lo)==g.size)=true):=by
  intro q;rw[Bl,Bl]at q;have O:((sIx g.size 0 lo:Nat):Int)=0:=eq_of_beq q.1.1;have P:sIx g.size g.size hi - sIx g.size 0 lo=g.size:=eq_of_beq q.2;exact hw ⟨by lia,by omega⟩
 show AZ _ _ (if (((sIx g.size 0 lo:Nat):Int)==0&&(1:Int)==1&&(sIx g.size g.size hi - sIx g.size 0 lo)==g.size)=true then _ else _) _ _ s;rw[qY J,Zz]
 first
  | exact AA (m:=EE _) (CP (AE ⟨_,rfl,AE h⟩) j)
  | exact AA (m:=EE _) (CP (AA (AE (AE ⟨_,rfl,AE h⟩))) j)
  | exact AA (AA (m:=EE _) (CP (AE (AE ⟨_,rfl,AE h⟩)) j))
  | exact AA (AA (m:=EE _) (CP (AE ⟨_,rfl,AE h⟩) j))
end
end HT
namespace L2
open PySem PySem.Spec PyProof.Rows
section
noncomputable abbrev TO:=St->Hp->(Option Int->Hp->Prop)->Prop
noncomputable def PO(X:Cx)(e:Option Expr)(t:TO):Prop:=
 ∀(i:List (AJ×Obj)) (s:AG) (g:St) (H:Hp) (Q:Option Int->Hp->Prop),Inv X i g H s->t g H Q ->
  AZ (AR X.prog X.w) X.A (evalPart e X.env) (λu l=>∃o j,Inv X i g j l/\Ro u o/\Q o j) X.xe s
noncomputable def c7:TO:=λ_ H Q=>Q none H
noncomputable def kl(t:TE):TO:=λg H Q=>t g H λx j=>∃i,x=.int i/\Q (some i) j
theorem intsAre_of:∀{g:List AD},Bb (ns.map V.int) g->CG g ns:=by
 induction ns with
 | nil=>intro g r;rw[Nh]at r;cases r;exact .nil
 | cons n ns i=>
  intro g r;rw[Ao]at r
  cases r with
  | cons j l=>
   obtain⟨t,e⟩:=j;subst e;exact .cons n t (i l)
section
variable{κ:Type}[DecidableEq κ]
noncomputable def JF(g:List (κ×V))(k:κ):Option V:=(g.find? λi=>decide (i.1=k)).map (·.2)
noncomputable def Jy(i:List (κ×V))(k:κ)(v:V):List (κ×V):=
 if (i.any λg=>decide (g.1=k))=true then i.map (λg=>if g.1=k then(g.1,v)else g)else i++[(k,v)]
theorem PH{p:κ×V}{r:List (κ×V)}{k:κ}(e:p.1=k):JF (p :: r) k=some p.2:=by simp[JF,Co,e]
theorem PJ{p:κ×V}{r:List (κ×V)}{k:κ}(e:¬p.1=k):JF (p :: r) k=JF r k:=by simp[JF,Co,e]
theorem TN(k:κ):∀g:List (κ×V),(g.any λi=>decide (i.1=k))=(JF g k).isSome
 | []=>rfl
 | p :: r=>by
  rw[Ge]
  by_cases e:p.1=k
  ·simp only[PH e,wX e,Bool.true_or,WE]
  ·rw[PJ e,wY e,gc];exact TN k r
theorem Nz(g:List (κ×V))(k:κ)(v:V):(Jy g k v).length<=g.length+1:=by
 unfold Jy;split
 ·rw[AL];lia
 ·rw[AW,AU,B7];lia
theorem Nf.isSome_eq(r:Nf o u):o.isSome=u.isSome:=by
 cases o with
 | none=>cases u with
  | none=>rfl
  | some _=>exact(show False from r).elim
 | some _=>cases u with
  | none=>exact(show False from r).elim
  | some _=>rfl
theorem KV.val{j:List (κ×V)}{l:List (κ×AD)}(r:KV j l)(k:κ):Nf (JF j k) (QM l k):=by
 unfold KV at r
 induction r with
 | nil=>exact Ds
 | @cons p q A g h t o=>
  obtain⟨m,s⟩:=h
  by_cases e:p.1=k
  ·have i:q.1=k:=m.symm.trans e
   have b:QM (q :: g) k=some q.2:=by simp[QM,Co,i]
   rw[PH e,b];exact s
  ·have i:¬q.1=k:=λz=>e (m.trans z)
   have b:QM (q :: g) k=QM g k:=by simp[QM,Co,i]
   rw[PJ e,b];exact o
theorem KV.any(r:KV i j)(k:κ):(i.any λg=>decide (g.1=k))=j.any λg=>decide (g.1=k):=by
 unfold KV at r
 induction r with
 | nil=>rfl
 | cons h t l=>rw[Ge,Ge,l,h.1]
theorem KV.repl(r:KV j l)(k:κ)(m:RelV y u) :
  KV (j.map λg=>if g.1=k then(g.1,y)else g) (l.map λg=>if g.1=k then(g.1,u)else g):=by
 unfold KV at r ⊢
 induction r with
 | nil=>exact .nil
 | @cons p q A B h t o=>
  rw[Ao,Ao];refine .cons ?_ o;obtain⟨i,s⟩:=h
  by_cases e:p.1=k
  ·rw[qX e,qX (i.symm.trans e)];exact⟨i,m⟩
  ·rw[qY e,qY (λz=>e (i.trans z))];exact⟨i,s⟩
theorem KV.put(r:KV j g)(k:κ)(i:RelV y u):KV (Jy j k y) (stored g k u):=by
 unfold Jy stored;rw[r.any k]
 by_cases e:(g.any λl=>decide (l.1=k))=true
 ·rw[qX e,qX e];exact r.repl k i
 ·rw[qY e,qY e];exact UZ r ⟨rfl,i⟩
theorem KV.length(r:KV g i):g.length=i.length:=Ep r
end
theorem T9(r:RelV (kV k) u):(D5 P w).is k u=true:=by
 cases k with
 | inl i=>obtain⟨t,e⟩:=(show ∃t,u=N5 i t from r);subst e;exact T1 P w i t
 | inr x=>obtain⟨t,e⟩:=(show ∃t,u=N4 x t from r);subst e;exact T0 P w x t
theorem RL:∀{g:List Key} {i:List AD},Bb (g.map kV) i->ItemsAre (D5 P w) g i
 | [],_,r=>by rw[Nh]at r;cases r;exact .nil
 | k :: g,_,r=>by
  rw[Ao]at r
  cases r with
  | cons h t=>exact .cons (T9 h) (RL t)
noncomputable abbrev KT(H:Hp):List (List Key×V)->List (List Key×AJ×AD)->Prop:=Gc λp q=>p.1=q.1/\H q.2.1=some (.tup (p.1.map kV))/\RelV p.2 q.2.2
theorem KT.val{H:Hp}{j:List (List Key×V)}{xs:List (List Key×AJ×AD)}(r:KT H j xs)(k:List Key):Nf (JF j k) ((Uk xs k).map (·.2)):=by
 induction r with
 | nil=>exact Ds
 | @cons p q s g h t m=>
  obtain⟨l,_,o⟩:=h
  by_cases e:p.1=k
  ·have i:q.1=k:=l.symm.trans e
   have b:Uk (q :: g) k=some q.2:=by simp[Uk,Co,i]
   rw[PH e,b];exact o
  ·have i:¬q.1=k:=λz=>e (l.trans z)
   have b:Uk (q :: g) k=Uk g k:=by simp[Uk,Co,i]
   rw[PJ e,b];exact m
theorem KT.repl(r:KT H l xs)(k:List Key)(m:RelV y u) :
  KT H (l.map λi=>if i.1=k then(i.1,y)else i) (xs.map (putAt k u)):=by
 induction r with
 | nil=>exact .nil
 | @cons p q A B h t o=>
  rw[Ao,Ao];refine .cons ?_ o;obtain⟨g,j,s⟩:=h;unfold putAt
  by_cases e:p.1=k
  ·rw[qX e,qX (g.symm.trans e)];exact⟨g,j,m⟩
  ·rw[qY e,qY (λz=>e (g.trans z))];exact⟨g,j,s⟩
theorem KT.put(r:KT H g xs)(k:List Key)(hb:H b=some (.tup (k.map kV)))(i:RelV y u) :
  KT H (Jy g k y) (storedH xs k b u):=by
 have e:(g.any λj=>decide (j.1=k))=(Uk xs k).isSome:=by
  rw[TN,(r.val k).isSome_eq,M4]
 unfold Jy storedH;rw[e]
 by_cases q:(Uk xs k).isSome=true
 ·rw[qX q,qX q];exact r.repl k i
 ·rw[qY q,qY q];exact UZ r ⟨rfl,hb,i⟩
theorem KT.keeps(r:KT H g xs)(i:∀b ys,H b=some (.tup ys)->j b=some (.tup ys)):KT j g xs:=
 Gc.mapP r λ_ _ z=>⟨z.1,i _ _ z.2.1,z.2.2⟩
variable{X:Cx}{e:Expr}{lo hi:Option Expr}{pos p2:Pos}
theorem dY:PO X none c7:=by
 intro g s i H Q I h;rw[evalPart_none];exact AE ⟨none,H,I,.none,h⟩
theorem dX(h:PE X e te):PO X (some e) (kl te):=by
 intro g s j H Q I hw;rw[evalPart_some]
 refine thn (h g s j H _ I hw) λu B ⟨x,l,m,o,A⟩=>?_
 obtain⟨i,rfl,q⟩:=A;obtain⟨t,rfl⟩:=o;exact⟨some i,l,m,.int i t,q⟩
noncomputable def SlR(X:Cx)(r:V->Option Int->Option Int->Hp->VK->Prop):Prop:=
 ∀(g:List (AJ×Obj)) (s:AG) (i:St) (H:Hp) (x:V) (v j l:AD) (lo hi:Option Int) (sl:AJ) (Q:VK),Inv X g i H s->RelV x v->s.heap.IsSliceOf sl j l .none->Ro j lo->Ro l hi->r x lo hi H Q ->
  ∃T id,Oq (.type T) "__getitem__" = pure (some (.builtin id))/\s.TypeIs v T/\AZ (AR X.prog X.w) X.A (Ng v (.ref sl)) (EP X g i Q) X.xe s
theorem SlR.or(h:SlR X r)(h':SlR X C):SlR X (λx lo hi H Q=>r x lo hi H Q∨C x lo hi H Q):=by
 intro g s i H x v j l lo hi sl Q I m o A B q
 rcases q with q | q
 ·exact h g s i H x v j l lo hi sl Q I m o A B q
 ·exact h' g s i H x v j l lo hi sl Q I m o A B q
noncomputable def tSl(r:V->Option Int->Option Int->Hp->VK->Prop)(te:TE)(i j:TO):TE:=λg H Q=>te g H λx m=>i g m λl o=>j g o λu s=>r x l u s Q
theorem Z3(C:SlR X r)(E:PE X e te)(G:PO X lo J)(L:PO X hi N):PE X (.Subscript e (.Slice lo hi none p2) pos) (tSl r te J N):=by
 intro i s j H Q I h;refine gV (thn (E i s j H _ I h) λv O ⟨x,P,R,S,U⟩=>?_);refine wpAny_Slice (thn (G i O j P _ R U) λm Y ⟨l,Z,I2,pl,q2⟩=>thn (L i Y j Z _ I2 q2) λo g ⟨u,B,I3,pu,q3⟩=>?_);rw[evalPart_none];refine AE ?_
 have I4:Inv X i j B { g with heap:=g.heap.push { cls:=.type "slice",data:=.fields #[m,o,.none] } }:=I3.kept (t':=g.toks) λb ob q=>AB _ q
 obtain⟨T,id,hT,ht,hg⟩:=C i { g with heap:=g.heap.push { cls:=.type "slice",data:=.fields #[m,o,.none] } } j B x v m o l u g.heap.objs.size Q I4 S (kI ..) pl pu q3;show AZ (AR X.prog X.w) X.A (XQ e (.Slice lo hi none p2) v (.ref g.heap.objs.size)) (EP X i j Q) X.xe { g with heap:=g.heap.push { cls:=.type "slice",data:=.fields #[m,o,.none] } };exact tail_any (ops:=[.ref g.heap.objs.size,v]) ht hT hg (by with_unfolding_all rfl)
noncomputable def P7(xs:List V)(lo hi:Option Int):List V:=(xs.drop (HT.sIx xs.length 0 lo)).take (HT.sIx xs.length xs.length hi - HT.sIx xs.length 0 lo)
theorem N2(xs:List V)(lo hi:Option Int):(P7 xs lo hi).length<=xs.length:=by
 unfold P7;rw[Ba,CC]
 lia
noncomputable def rSlT(K:AC):V->Option Int->Option Int->Hp->VK->Prop:=λx lo hi H Q=>∃a g,x=.ref a/\SqT K H a g /\
 ¬(HT.sIx g.length 0 lo=0/\HT.sIx g.length g.length hi=g.length)/\∀p,H p=none->Q (.ref p) (upd H p (.tup (P7 g lo hi)))
theorem iD:SlR X (rSlT X.K):=by
 intro J s L H x v N O lo hi sl Q I m A B C h;obtain⟨a,i,rfl,E,hw,q⟩:=h;cases m;obtain⟨G,r,j,l⟩:=I.tuple E
 have g:G.toArray.size=i.length:=by rw[Aj];exact r.length.symm
 refine⟨"tuple",_,Ev.lookup,j.typeIs,?_⟩;refine HT.Mq j A B C (by rw[g];exact hw) ?_ (by rw[g];exact l);rw[g];refine⟨.ref s.heap.objs.size,_,I.laid (t':=s.toks) (o:=.tup (P7 i lo hi)) (λb P q=>AB _ q) (AN _) ?_,rfl,q _ (I.hok.fresh (AN _))⟩;exact⟨⟨Ae (N2 i lo hi) l,⟨_,AX _ rfl,rfl⟩⟩,_,(r.drop (HT.sIx i.length 0 lo)).take (HT.sIx i.length i.length hi - HT.sIx i.length 0 lo),Y2 _ _⟩
noncomputable def rLtT(K:AC):R2:=λx y H Q=>∃a b ns g,x=.ref a/\y=.ref b/\SqT K H a (ns.map V.int)/\SqT K H b (g.map V.int)/\Q (.bl (HT.lexLt ns g)) H
theorem iu(g:X.A.units < Dq):OpR X (BG .Lt) (rLtT X.K):=by
 intro L s N H x y v u Q I i j h;obtain⟨a,b,ns,ms,rfl,rfl,l,hb,q⟩:=h;cases i;cases j;obtain⟨m,o,B,_⟩:=I.tuple l;obtain⟨C,E,p2,_⟩:=I.tuple hb;have G:CG m.toArray.toList ns:=intsAre_of o;have J:CG C.toArray.toList ms:=intsAre_of E;exact HT.Vi B p2 G J g ⟨.bl (HT.lexLt ns ms),H,I,rfl,q⟩
noncomputable def lF(K:AC):R2:=λx y H Q=>∃a b i g,x=.ref a/\y=.ref b/\SqT K H a i/\SqT K H b g/\i≠[]/\i.length+g.length<=sizeLine /\
 (g=[]->Q (.ref a) H)/\(g≠[]->∀p,H p=none->Q (.ref p) (upd H p (.tup (i++g))))
theorem Bb.nil_iff(r:Bb xs g):g=[]↔xs=[]:=by
 cases r with
 | nil=>simp
 | cons _ _=>simp
theorem dr:OpR X (DN .Add) (lF X.K):=by
 intro N s O H x y v u Q I l m h;obtain⟨a,b,A,B,rfl,rfl,C,hb,E,j,G,J⟩:=h;cases l;cases m;obtain⟨P,i,L,_⟩:=I.tuple C;obtain⟨R,g,p2,_⟩:=I.tuple hb;refine HT.e8 L p2 (λz=>E (i.nil_iff.mp z)) (λz=>⟨.ref a,H,I,rfl,G (g.nil_iff.mp z)⟩) (λz=>?_) (by rw[<-i.length,<-g.length];exact j);refine⟨.ref s.heap.objs.size,_,I.laid (t':=s.toks) (o:=.tup (A++B)) (λb S q=>AB _ q) (AN _) ?_,rfl,J (λw=>z (g.nil_iff.mpr w)) _ (I.hok.fresh (AN _))⟩;exact⟨⟨by rw[AW];exact j,⟨_,AX _ rfl,rfl⟩⟩,_,i.append g,Y2 _ _⟩
end
section
noncomputable def ixN(n:Nat)(i:Int):Option Nat:=if 0<=i then(if i < n then some i.toNat else none)else if -(n:Int)<=i then some (i+n).toNat else none
noncomputable def atI{α:Type}(xs:List α)(i:Int):Option α:=(ixN xs.length i).bind λj=>xs[j]?
theorem eN(h:ixN n i=some j):seqIndex? i n=some j/\j < n/\-(n:Int)<=i/\i < n:=by
 unfold ixN at h
 by_cases l:0<=i
 ·rw[qX l]at h
  by_cases g:i < n
  ·rw[qX g]at h
   have e:i.toNat=j:=C4 h;exact⟨by rw[seqIndex_of l g,e],by lia,by lia,g⟩
  ·rw[qY g]at h;cases h
 ·rw[qY l]at h
  by_cases g:-(n:Int)<=i
  ·rw[qX g]at h
   have e:(i+n).toNat=j:=C4 h;exact⟨by rw[seqIndex_neg (by lia) g,e],by lia,g,by lia⟩
  ·rw[qY g]at h;cases h
theorem Sq{g:Type}{xs:List g}{i:Int}{v:g}(h:atI xs i=some v):∃j,seqIndex? i xs.length=some j/\xs[j]?=some v/\j < xs.length/\-(xs.length:Int)<=i/\i < xs.length:=by
 unfold atI at h
 cases e:ixN xs.length i with
 | none=>rw[e]at h;cases h
 | some j=>
  rw[e]at h;obtain⟨l,m,o,s⟩:=eN e;exact⟨j,l,h,m,o,s⟩
noncomputable def Ss(b:Expr):Prop:=∀o i,Sv b false o i=operate [o,i] (Ng o i)
noncomputable def IxR(X:Cx)(r:R2):Prop:=
 ∀(value slice:Expr) (g:List (AJ×Obj)) (s:AG) (i:St) (H:Hp) (x y:V) (v u:AD) (Q:VK),Inv X g i H s->RelV x v->RelV y u->r x y H Q ->
  Sv slice false v u=operate [v,u] (Ng v u)->AZ (AR X.prog X.w) X.A (XQ value slice v u) (EP X g i Q) X.xe s
noncomputable def MtR(X:Cx)(id:String)(r:V->List V->Hp->VK->Prop):Prop:=
 ∀(g:List (AJ×Obj)) (s:AG) (i:St) (H:Hp) (x:V) (j:List V) (v:AD) (l:List AD) (Q:VK),Inv X g i H s->RelV x v->Bb j l->r x j H Q ->
  AZ (AR X.prog X.w) X.A (call (.builtin id) (v :: l)) (EP X g i Q) X.xe s
section
variable{P:A3}{w:BR}{H:Hp}{h:Bt}{a:AJ}
theorem fj(ok:HOk P w H h)(e:Rd H a u):CK P w H h a u:=e.ok ok
theorem UE(ok:HOk P w H h)(e:Rd H a (.dK g)):g.length<=sizeLine/\(a==D9)=false/\∃vs,KV g vs/\h.DictOf (D5 P w) a vs:=
 show CK P w H h a (.dK g)from fj ok e
theorem mL(ok:HOk P w H h)(e:H a=some (.dK g)):g.length<=sizeLine/\(a==D9)=false/\∃vs,KV g vs/\h.DictOf (D5 P w) a vs:=UE ok (.inl e)
theorem Pv(ok:HOk P w H h)(e:H a=some (.tup (g.map kV))):(Rc (D5 P w)).is h g a:=by
 obtain⟨_,i,r,o,j,l,n,m⟩:=(show CK P w H h a (.tup (g.map kV))from ok a _ e);exact⟨o,i.toArray,n,j,l,m,by simpa using RL r⟩
theorem UD(ok:HOk P w H h)(e:Rd H a (.dT i)):i.length<=sizeLine/\(a==D9)=false /\
  ∃xs,KT H i xs/\h.DictOfH (Rc (D5 P w)) a xs:=by
 obtain⟨z,y,xs,r,o,s,A,B,C,E,G,I⟩:=(show CK P w H h a (.dT i)from fj ok e);refine⟨z,y,xs,r,o,s,A,B,C,E,G,λx g=>?_,I⟩
 have all:∀{l:List (List Key×V)} {m:List (List Key×AJ×AD)},KT H l m->∀x∈m,(Rc (D5 P w)).is h x.1 x.2.1:=by
  intro l m q
  induction q with
  | nil=>intro x g;exact nomatch g
  | @cons p q L N j t J=>
   intro x g
   rcases An.mp g with e | g
   ·subst e
    exact Pv ok (by rw[<-j.1];exact j.2.1)
   ·exact J x g
 exact all r x g
theorem mK(ok:HOk P w H h)(e:H a=some (.dT g)):g.length<=sizeLine/\(a==D9)=false /\
  ∃xs,KT H g xs/\h.DictOfH (Rc (D5 P w)) a xs:=UD ok (.inl e)
end
noncomputable def M3(H:Hp)(a:AJ)(y:V)(r:Option V):Prop:=
 (∃g k,Rd H a (.dK g)/\y=kV k/\r=JF g k)∨∃g k b,Rd H a (.dT g)/\y=.ref b/\H b=some (.tup (k.map kV))/\r=JF g k
noncomputable def US(H:Hp)(a:AJ)(y v:V)(i:Hp):Prop:=
 (∃g k,H a=some (.dK g)/\y=kV k/\g.length < sizeLine/\i=upd H a (.dK (Jy g k v))) ∨
 ∃g k b,H a=some (.dT g)/\y=.ref b/\H b=some (.tup (k.map kV))/\g.length < sizeLine/\i=upd H a (.dT (Jy g k v))
theorem M3.k{H}{a}{g}{k}(e:H a=some (.dK g)):M3 H a (kV k) (JF g k):=.inl ⟨g,k,.inl e,rfl,rfl⟩
theorem M3.t{H}{a b}{g}{k}(e:H a=some (.dT g))(i:H b=some (.tup (k.map kV))):M3 H a (.ref b) (JF g k):=.inr ⟨g,k,b,.inl e,rfl,i,rfl⟩
theorem US.k{H}{a}{g}{k}{v}(e:H a=some (.dK g))(i:g.length < sizeLine):US H a (kV k) v (upd H a (.dK (Jy g k v))):=.inl ⟨g,k,e,rfl,i,rfl⟩
theorem US.t{H}{a b}{g}{k}{v}(e:H a=some (.dT g))(i:H b=some (.tup (k.map kV)))(j:g.length < sizeLine) :
  US H a (.ref b) v (upd H a (.dT (Jy g k v))):=.inr ⟨g,k,b,e,rfl,i,j,rfl⟩
variable{X:Cx}{a b:Expr}{ta tb:TE}{pos:Pos}
theorem IxR.or(h:IxR X r)(h':IxR X o):IxR X (λx y H Q=>r x y H Q∨o x y H Q):=by
 intro value slice g s i H x y v u Q I j l q m
 rcases q with q | q
 ·exact h value slice g s i H x y v u Q I j l q m
 ·exact h' value slice g s i H x y v u Q I j l q m
theorem lM(g:IxR X r)(i:PE X a ta)(hb:PE X b tb)(j:Ss b):PE X (.Subscript a b pos) (tOp r ta tb):=by
 intro l s m H Q I h;exact gV (jv i hb I h λv u o x y A B C E q=>g a b l o m A x y v u Q B C E q (j _ _))
noncomputable def rIxL(K:AC):R2:=λx y H Q=>∃p g i v,x=.ref p/\y=.int i/\SqL K H p g/\atI g i=some v/\Q v H
noncomputable def rIxT(K:AC):R2:=λx y H Q=>∃p g i v,x=.ref p/\y=.int i/\SqT K H p g/\atI g i=some v/\Q v H
noncomputable def rIxS:R2:=λx y H Q=>∃z i c,x=.str z/\y=.int i/\z.length<=sizeLine/\atI z.cps.toList i=some c/\Q (.str ⟨#[c]⟩) H
theorem ix_list:IxR X (rIxL X.K):=by
 intro value slice o s A H x y v u Q I G J h B;obtain⟨p,Z,i,z,rfl,rfl,L,N,q⟩:=h;cases G;obtain⟨t,rfl⟩:=J;obtain⟨O,r,l,hz⟩:=I.list L;obtain⟨j,g,P,h3,R,S⟩:=Sq N;obtain⟨w,C,T⟩:=r.get P;have U:=r.length;have hn:=Pp;have fin:EP X o A Q w s:=⟨z,H,I,T,q⟩
 by_cases E:0<=i
 ·have m:i.toNat=j:=by
   rw[seqIndex_of E S]at g;exact C4 g
  exact item_listR l.isList E (by lia) (by rw[m];simpa using C) fin B
 ·have m:(i+(O.toArray.size:Int)).toNat=j:=by
   rw[seqIndex_neg (by lia) R]at g;rw[Aj,<-U];exact C4 g
  exact Yu (x:=w) l.isList.typeIs kB.lookup
   (wpAny_getItem_list_neg (Q:=λr Y=>r=w/\EP X o A Q r Y) l.isList (by lia) (by rw[Aj] <;> lia) (by lia) (by rw[m];simpa using C) ⟨rfl,fin⟩) B
theorem jO:IxR X (rIxT X.K):=by
 intro value slice g s l H x y v u Q I o A h B;obtain⟨p,R,i,z,rfl,rfl,C,E,q⟩:=h;cases o;obtain⟨t,rfl⟩:=A;obtain⟨S,r,m,T⟩:=I.tuple C;obtain⟨j,G,J,U,Y,Z⟩:=Sq E;obtain⟨w,L,N⟩:=r.get J;have O:=r.length;have hn:=Pp;have fin:EP X g l Q w s:=⟨z,H,I,N,q⟩
 exact Yu (x:=w) m.typeIs slot_tuple_getitem.lookup
  (getItem_tuple (j:=j) (Q:=λr P=>r=w/\EP X g l Q r P) m (by lia) (by lia) (by rw[Aj,<-O];exact G) (by simpa using L) ⟨rfl,fin⟩) B
theorem jP:IxR X rIxS:=by
 intro value slice N s O H x y v u Q I l m h o;obtain⟨z,i,c,rfl,rfl,P,A,q⟩:=h;obtain⟨t,rfl⟩:=l;obtain⟨R,rfl⟩:=m;obtain⟨j,g,B,S,C,E⟩:=Sq A
 have G:z.cps.toList.length=z.length:=by simp[DA]
 rw[G]at g C E;have T:=Pp
 exact tail_any (Os s z t) slot_str_getitem.lookup (getItem_str (c:=c) (by
  have J:decide (i < -(2 ^ 63:Int))=false:=wY (by lia);have L:decide (i ≥ 2 ^ 63)=false:=wY (by lia)
  rw[J,L,gb]) (by rw[g];simpa using B) ⟨.str ⟨#[c]⟩,H,I.tok _,⟨_,rfl⟩,q⟩) o
theorem R7(lo hi:Option Int)(n:Nat):(HW lo hi none n).1=((HT.sIx n 0 lo:Nat):Int)/\(HW lo hi none n).2.1=((HT.sIx n n hi:Nat):Int)/\(HW lo hi none n).2.2=1:=by
 refine⟨?_,?_,rfl⟩
 ·cases lo with
  | none=>simp[HW,HT.sIx]
  | some i=>
   simp only[HW,HT.sIx,Ym,show(1:Int) > 0 by decide,if_true]
   by_cases h:i < 0
   ·simp only[h,if_true] <;> lia
   ·simp only[h,if_false] <;> lia
 ·cases hi with
  | none=>simp[HW,HT.sIx]
  | some i=>
   simp only[HW,HT.sIx,Ym,show(1:Int) > 0 by decide,if_true]
   by_cases h:i < 0
   ·simp only[h,if_true] <;> lia
   ·simp only[h,if_false] <;> lia
theorem QX(g:List AD)(lo hi:Option Int):slicePick g.toArray lo hi none=((g.drop (HT.sIx g.length 0 lo)).take (HT.sIx g.length g.length hi - HT.sIx g.length 0 lo)).toArray:=by
 obtain⟨i,j,l⟩:=R7 lo hi g.toArray.size;unfold slicePick;rw[i,j,l]
 simp only[sliceRange_one,pick_run,Aj] <;> rfl
noncomputable def lE(K:AC):V->Option Int->Option Int->Hp->VK->Prop:=λx lo i H Q=>∃a g,x=.ref a/\SqL K H a g/\∀p,H p=none->Q (.ref p) (upd H p (.lst (P7 g lo i)))
theorem dE:SlR X (lE X.K):=by
 intro J s L H x v N O lo j sl Q I m A B C h;obtain⟨a,g,rfl,E,q⟩:=h;cases m;obtain⟨P,r,l,G⟩:=I.list E;have i:=r.length;refine⟨"list",_,kB.lookup,l.isList.typeIs,?_⟩;refine wpAny_getItem_list_slice l.isList A B C .none (by simp) ?_ (by rw[Aj] <;> lia);rw[QX,<-i];refine⟨.ref s.heap.objs.size,_,I.laid (t':=s.toks) (o:=.lst (P7 g lo j)) (λb R q=>AB _ q) (AN _) ?_,rfl,q _ (I.hok.fresh (AN _))⟩;exact⟨Ae (N2 g lo j) G,_,0,(r.drop (HT.sIx g.length 0 lo)).take (HT.sIx g.length g.length j - HT.sIx g.length 0 lo),AX _ rfl⟩
theorem So:GR X (.builtin "len") (λxs H Q=>∃p ys,xs=[.ref p]/\(SqL X.K H p ys∨SqT X.K H p ys)/\Q (.int ys.length) H):=by
 intro B s C H xs E Q I r h;obtain⟨p,ys,rfl,i,q⟩:=h;obtain⟨u,rfl,m⟩:=vals1 r;cases m;have G:=Pp
 rcases i with i | i
 ·obtain⟨o,j,l,A⟩:=I.list i
  have g:=j.length;exact Calls.call_len_list l.isList (by simp only[Aj] <;> lia) ⟨.int ys.length,H,I.tok _,⟨s.toks+1,by rw[Aj,g]⟩,q⟩
 ·obtain⟨o,j,l,A⟩:=I.tuple i
  have g:=j.length;exact len_tuple l (by simp only[Aj] <;> lia) ⟨.int ys.length,H,I.tok _,⟨s.toks+1,by rw[Aj,g]⟩,q⟩
theorem Sn:GR X (.builtin "len") (λxs H Q=>∃z,xs=[.str z]/\z.length<=sizeLine/\Q (.int z.length) H):=by
 intro g s i H xs j Q I r h;obtain⟨z,rfl,l,q⟩:=h;obtain⟨u,rfl,t,rfl⟩:=vals1 r;have m:=Pp;exact len_str (by lia) ⟨.int z.length,H,I.tok _,⟨_,rfl⟩,q⟩
theorem Qn:GR X (.type "tuple") (λxs H Q=>∃p ys,xs=[.ref p]/\((SqL X.K H p ys/\∀l,H l=none->Q (.ref l) (upd H l (.tup ys)))∨(SqT X.K H p ys/\Q (.ref p) H))):=by
 intro B s C H xs O Q I r h;obtain⟨p,ys,rfl,h⟩:=h;obtain⟨u,rfl,L⟩:=vals1 r;cases L
 rcases h with⟨i,q⟩ | ⟨i,q⟩
 ·obtain⟨j,m,A,E⟩:=I.list i
  have G:=m.length;refine call_tuple_list A.isList (λg kp=>?_) (by simp only[Aj] <;> lia);have J:Inv X B C H { s with heap:=g }:=I.kept (t':=s.toks) kp
  have N:Inv X B C (upd H g.objs.size (.tup ys)) { s with heap:=g.push { cls:=.type "tuple",data:=.seq j.toArray } }:=
   J.laid (t':=s.toks) (λb o e=>AB _ e) (AN _) (show CK X.prog X.w _ _ _ (.tup ys)from⟨⟨E,⟨_,AX _ rfl,rfl⟩⟩,j,m,Y2 _ _⟩)
  exact⟨.ref g.objs.size,_,N,rfl,q _ (J.hok.fresh (AN _))⟩
 ·obtain⟨j,m,A,E⟩:=I.tuple i
  exact call_tuple_same A ⟨.ref p,H,I,rfl,q⟩
noncomputable def tyV(K:AC)(T:String)(x:V)(H:Hp):Prop:=match x with
 | .str _=>T = "str"
 | .int _=>T = "int"
 | .ref p=>(T = "list"/\∃i,SqL K H p i)∨(T = "tuple"/\∃o,K.lookup p=some o/\o.cls=.type "tuple"/\o.dict=none) ∨
   (T = "dict"/\((∃g,H p=some (.dK g))∨∃g,H p=some (.dT g)))∨(T = "set"/\∃S n,H p=some (.set S n))
 | _=>False
theorem hG(I:Inv X G J H s)(r:RelV x v)(ty:tyV X.K T x H) :
  s.TypeIs v T/\∀a,v=.ref a->∃m,s.heap.get? a=some m/\m.dict=none:=by
 cases x with
 | str z=>
  obtain⟨t,rfl⟩:=r;cases(show T = "str" from ty);exact⟨Os s z t,λ_ e=>nomatch e⟩
 | int i=>
  obtain⟨t,rfl⟩:=r;cases(show T = "int" from ty);exact⟨typeIs_int s i t,λ_ e=>nomatch e⟩
 | ref p=>
  cases r
  rcases ty with⟨rfl,L,B⟩ | ⟨rfl,o,g,C,j⟩ | ⟨rfl,g⟩ | ⟨rfl,S,n,g⟩
  ·obtain⟨N,_,A,_⟩:=I.list B
   refine⟨A.isList.typeIs,λa e=>?_⟩;cases e;obtain⟨o,n,e,c,j,_⟩:=A;exact⟨o,e,j⟩
  ·refine⟨⟨o,I.kIn p o g,C⟩,λa e=>?_⟩
   cases e;exact⟨o,I.kIn _ o g,j⟩
  ·have z:∃o,s.heap.get? p=some o/\o.ExactDict:=by
    rcases g with⟨E,g⟩ | ⟨E,g⟩
    ·obtain⟨_,_,_,_,o,_,_,e,ex,_⟩:=I.hok p _ g
     exact⟨o,e,ex⟩
    ·obtain⟨_,_,_,_,o,_,_,e,ex,_⟩:=I.hok p _ g
     exact⟨o,e,ex⟩
   obtain⟨o,e,ex⟩:=z;refine⟨⟨o,e,ex.1⟩,λa l=>?_⟩;cases l;exact⟨o,e,ex.2.1⟩
  ·obtain⟨o,_,_,_,e,ex,_⟩:=I.hok p _ g
   refine⟨⟨o,e,ex.1⟩,λa l=>?_⟩;cases l;exact⟨o,e,ex.2.1⟩
 | _=>exact CY ty
noncomputable def tBM(K:AC)(T:String)(r:V->List V->Hp->VK->Prop)(to:TE)(t:TA):TE:=λg H Q=>to g H λx i=>tyV K T x i/\t g i λj l=>r x j l Q
variable{o e:Expr}{es:List Expr}{to:TE}{t:TA}{name:Str}{apos nq:Pos}{T id:String}{r:V->List V->Hp->VK->Prop}
theorem Z6(B:PlainAttrs T)(g:Slot T name id)(C:typeOf (.builtin id)=pure (.type "method_descriptor")) (hm:MtR X id r) (ho:PE X o to) (E:PA X (e :: es) t)
  (G:EZ o name X.env (Bi o X.env)=Bi o X.env:=by rfl)
  (J:((CN nq (AO (e :: es) X.env)).all (λx=>!x.1)&&(GZ nq (Df [] X.env)).all (λx=>x.1.isSome)
    &&decide ((e :: es).length+([]:List Nk).length+(if ([]:List Nk).isEmpty then 0 else 1) < 30))=true:=by rfl)
  (L:(apos.endLine==nq.line)=true:=by rfl) (N:AO (e :: es) X.env=(false,Bi e X.env) :: AO es X.env:=by rfl) (O:(CN nq (AO es X.env)).any (·.1)=false:=by rfl) :
  PE X (.Call (.Attribute o name apos) (e :: es) [] nq) (tBM X.K T r to t):=by
 intro i s j H Q I h;refine wpAny_Call_method_late G J L rfl (thn (ho i s j H _ I h) λv P ⟨x,R,l,m,ty,S⟩=>?_);obtain⟨U,Y⟩:=hG l m ty;refine⟨T,id,B,g,C,U,Y,?_⟩;have A:=E nq i P j R _ l S;rw[N]at A ⊢;refine Calls.callWith_builtin (by show(false||(CN nq (AO es X.env)).any (·.1))=false;rw[O] <;> rfl) (U0 ?_)
 exact thn A λZ s2 ⟨vs,H2,I2,r2,q2⟩=>hm i s2 j H2 x vs v Z Q I2 m r2 q2
end
section
noncomputable def MtM(X:Cx)(id:String)(r:V->List V->Hp->VK->Prop):Prop:=
 ∀(g:List (AJ×Obj)) (s:AG) (i:St) (H:Hp) (x:V) (j:List V) (v:AD) (l:List AD) (Q:VK),Inv X g i H s->RelV x v->Bb j l->r x j H Q ->
  AZ (AR X.prog X.w) X.A (call (.builtin id) (v :: l)) (EP X g i Q) X.xe s
theorem Bb.one:∀{x:V} {g:List AD},Bb [x] g->∃u,g=[u]/\RelV x u
 | _,_,.cons r .nil=>⟨_,rfl,r⟩
section
variable{X:Cx}{ζ:List (AJ×Obj)}{σ:St}{H:Hp}{s:AG}{a:AJ}{y v:V}{u r:AD}{o:Option V}{A:BO}{E:AD->AG->Prop}
theorem Inv.big(I:Inv X ζ σ H s):D9 < s.heap.objs.size:=by
 have h:As < s.heap.objs.size:=(I.mod.glob.keeps I.bk).lt;exact kT (by decide) h
theorem YR(C:A.units+1 < Dq)(I:Inv X ζ σ H s)(g:M3 H a y (some v))(B:RelV y u)(h:∀w' s',Inv X ζ σ H s'->RelV v w'->Q w' s') :
  AZ (AR X.prog X.w) A (Ng (.ref a) u) Q E s:=by
 rcases g with⟨G,k,e,i,l⟩ | ⟨G,k,b,e,i,J,l⟩
 ·subst i
  obtain⟨z,L,N,rel,j⟩:=UE I.hok e;obtain⟨w',hw,m⟩:=Nf.some_of (v:=v) (o:=QM N k) (by rw[l];exact rel.val k);exact wpAny_getItem_of (T9 B) j.mapOf hw (h w' _ (I.tok _) m)
 ·subst i
  cases(show u=Ai b from B);obtain⟨z,L,O,rel,j⟩:=UD I.hok e;obtain⟨w',hw,m⟩:=Nf.some_of (v:=v) (o:=(Uk O k).map (·.2)) (by rw[l];exact rel.val k);obtain⟨p,P,R⟩:=Jo.mp hw;refine wpAny_getItem_heap (Iu C) (Pv I.hok J) j P ?_;rw[R];exact h w' _ (I.tok _) m
theorem d_in(C:A.units+1 < Dq)(I:Inv X ζ σ H s)(g:M3 H a y o)(B:RelV y u)(h:∀s',Inv X ζ σ H s'->Q (.bool o.isSome) s') :
  AZ (AR X.prog X.w) A (BG .In u (.ref a)) Q E s:=by
 rcases g with⟨G,k,e,i,l⟩ | ⟨G,k,b,e,i,J,l⟩
 ·subst i
  obtain⟨z,j,L,rel,m⟩:=UE I.hok e;refine wpAny_in_of (T9 B) j m.mapOf ?_;rw[<-(rel.val k).isSome_eq,<-l];exact h _ (I.tok _)
 ·subst i
  cases(show u=Ai b from B);obtain⟨z,j,N,rel,m⟩:=UD I.hok e;refine wpAny_in_heap (Iu C) (Pv I.hok J) j m ?_;have q:=(rel.val k).isSome_eq;rw[M4]at q;rw[<-q,<-l];exact h _ (I.tok _)
theorem en(C:A.units+1 < Dq)(I:Inv X ζ σ H s)(g:M3 H a y o)(B:RelV y u)(h:∀s',Inv X ζ σ H s'->Q (.bool (!o.isSome)) s') :
  AZ (AR X.prog X.w) A (BG .NotIn u (.ref a)) Q E s:=by
 rcases g with⟨G,k,e,i,l⟩ | ⟨G,k,b,e,i,J,l⟩
 ·subst i
  obtain⟨z,j,L,rel,m⟩:=UE I.hok e;refine wpAny_notIn_of (T9 B) j m.mapOf ?_;rw[<-(rel.val k).isSome_eq,<-l];exact h _ (I.tok _)
 ·subst i
  cases(show u=Ai b from B);obtain⟨z,j,N,rel,m⟩:=UD I.hok e;refine wpAny_notIn_heap (Iu C) (Pv I.hok J) j m ?_;have q:=(rel.val k).isSome_eq;rw[M4]at q;rw[<-q,<-l];exact h _ (I.tok _)
theorem W9(I:Inv X ζ σ H s)(i:Mut (H a))(j:Ek a s.heap h')(l:∃q,h'.get? a=some q)(new:CK X.prog X.w (upd H a g) h' a g) :
  Inv X ζ σ (upd H a g) { s with heap:=h',toks:=t' }:=
 I.write (x:=a) (e:=a) i (.inl rfl) (λb q hb z=>(j.2 b hb).trans z) l new
theorem jr(z:g.length<=sizeLine)(j:(a==D9)=false)(rel:KV g i)(dd:h'.DictOf (D5 P w) a i) :
  CK P w l h' a (.dK g):=⟨z,j,i,rel,dd⟩
theorem YQ(Y:A.units+1 < Dq)(I:Inv X ζ σ H s)(g:US H a y v Z)(P:RelV y u)(R:RelV v r)(h:∀s',Inv X ζ σ Z s'->Q () s') :
  AZ (AR X.prog X.w) A (setItem (.ref a) u r) Q E s:=by
 rcases g with⟨i,k,e,B,l,C⟩ | ⟨i,k,b,e,B,S,l,C⟩
 ·subst B C
  obtain⟨z,G,vs,rel,J⟩:=mL I.hok e
  have L:vs.length<=sizeLine:=by rw[<-rel.length];exact z
  have N:(Jy i k v).length<=sizeLine:=by have:=Nz i k v;lia
  refine wpAny_setItem_pairs (hsz:=L) (T9 P) J λT j O=>h _ ?_
  have he:∃q,T.get? a=some q:=let ⟨q,_,_,m,_⟩:=j;⟨q,m⟩
  exact W9 I (by rw[e];exact Ds) O he (jr N G (rel.put k R) j)
 ·subst B C
  cases(show u=Ai b from P);obtain⟨z,G,xs,rel,J⟩:=mK I.hok e
  have L:xs.length<=sizeLine:=by rw[<-Ep rel];exact z
  have N:(Jy i k v).length<=sizeLine:=by have:=Nz i k v;lia
  refine wpAny_setItem_heap (hsz:=L) (Iu Y) (Pv I.hok S) J λT j O=>h _ ?_
  obtain⟨q,es,ep,m,h2,h3,h4,_,h5⟩:=j;refine W9 I (by rw[e];exact Ds) O ⟨q,m⟩ ⟨N,G,_,(rel.put k S R).keeps λc ys U=>?_,q,es,ep,m,h2,h3,h4,h5⟩;rw[A5 (lg U e (λz=>nomatch z))];exact U
variable{X:Cx}{ζ:List (AJ×Obj)}{σ:St}{H:Hp}{s:AG}{l:AJ}{xs ys:List V}
theorem Inv.lset{g its':List AD}{n:Nat}{f:Array AD->Array AD}{t':Nat}(I:Inv X ζ σ H s)(i:H l=some (.lst xs))
  (e:s.heap.get? l=some { cls:=.type "list",data:=.seq g.toArray n }) (j:f g.toArray=its'.toArray) (m:Bb ys its') (B:ys.length<=sizeLine) :
  Inv X ζ σ (upd H l (.lst ys)) { s with heap:=s.heap.update l (Hw f),toks:=t' }:=by
 have q:=PySem.IsL.update e f;rw[j]at q;refine I.write (x:=l) (e:=l) (by rw[i];exact trivial) (.inl rfl) (λG u hb C=>(Cy s.heap (Hw f) (B8 hb)).trans C) ⟨_,q⟩ ?_;exact⟨B,its',_,m,q⟩
theorem Inv.lnew(I:Inv X ζ σ H s)(i:Bb ys g)(j:ys.length<=sizeLine) :
  Inv X ζ σ (upd H s.heap.objs.size (.lst ys)) { s with heap:=s.heap.push { cls:=.type "list",data:=.seq g.toArray },toks:=t' }:=
 I.laid (λ_ _ q=>AB _ q) (AN _) ⟨j,g,0,i,AX _ rfl⟩
theorem Inv.fresh(I:Inv X ζ σ H s):H s.heap.objs.size=none:=I.hok.fresh (AN _)
theorem Inv.lstM(I:Inv X ζ σ H s)(i:H l=some (.lst xs)):xs.length<=sizeLine/\∃(g:List AD) (n:Nat),Bb xs g/\xs.length=g.length/\s.heap.get? l=some { cls:=.type "list",data:=.seq g.toArray n }:=by
 obtain⟨z,g,n,r,e⟩:=I.hok l _ i;exact⟨z,g,n,r,r.length,e⟩
end
noncomputable def jz(i:Expr):Prop:=∀g j,Sv i false g j=operate [g,j] (Ng g j)
theorem dB{prog}{w}{A}{E}{s}{env}{value slice}{pos}{T id}{Q}
  (G:Oq (.type T) "__getitem__" = pure (some (.builtin id))) (H:jz slice)
  (h:AZ (AR prog w) A (Bi value env) (λo j=>AZ (AR prog w) A (Bi slice env) (λi s₂=>s₂.TypeIs o T/\AZ (AR prog w) A (Ng o i) Q E s₂) E j) E s) :
  AZ (AR prog w) A (Bi (.Subscript value slice pos) env) Q E s:=by
 refine gV (BX h (λo j m=>BX m (λi s₂ g=>?_) λ_ _ x=>x) λ_ _ x=>x);obtain⟨C,g⟩:=g;unfold XQ;refine AA ?_;rw[getitemInPython_of_ne C.not_modules];refine AA (wpAny_specialOf C G ?_)
 have fin:AZ (AR prog w) A (Sv slice false o i) (λr l=>AZ (AR prog w) A (letTemporaryGo value o r >>= λ_=>pure r) Q E l) E s₂:=by
  rw[H o i];exact wpAny_operating (BX g (λr l B=>AA (wpAny_letTemporaryGo (AE B))) λ_ _ x=>x)
 first
  | exact AE (AA fin)
  | exact AA (AE (AA fin))
  | exact AA fin
theorem UF(I:Inv X l m H s)(g:M3 H a y o):s.TypeIs (.ref a) "dict":=by
 rcases g with⟨j,k,e,_,_⟩ | ⟨j,k,b,e,_,_,_⟩
 ·obtain⟨_,_,A,_,i⟩:=UE I.hok e
  exact i.typeIs
 ·obtain⟨_,_,B,_,i⟩:=UD I.hok e
  exact i.typeIs
noncomputable def ku(j ty:TE):TE:=λg H Q=>j g H λx l=>ty g l λy i=>∃a v,x=.ref a/\M3 i a y (some v)/\Q v i
noncomputable def kt(ty j:TE):TE:=λg H Q=>ty g H λy l=>j g l λx i=>∃a o,x=.ref a/\M3 i a y o/\Q (.bl o.isSome) i
noncomputable def WW(ty j:TE):TE:=λg H Q=>ty g H λy l=>j g l λx i=>∃a o,x=.ref a/\M3 i a y o/\Q (.bl (!o.isSome)) i
noncomputable def lA(j ty l:TE):TS:=λD g H=>l g H λv m=>j g m λx o=>ty g o λy s=>∃a i,x=.ref a/\US s a y v i/\D.nx g i
variable{X:Cx}
noncomputable def dO:V->List V->Hp->VK->Prop:=λx i H Q=>∃l g y,x=.ref l/\i=[y]/\H l=some (.lst g)/\g.length < sizeLine/\Q .non (upd H l (.lst (g++[y])))
theorem RC:MtM X "list.append" dO:=by
 intro A s B H x C v E Q I j m h;obtain⟨l,G,y,rfl,rfl,g,J,q⟩:=h;cases j;obtain⟨u,rfl,o⟩:=m.one;obtain⟨z,i,n,r,L,e⟩:=I.lstM g;refine Ui F.slot_list_append ⟨_,e,rfl⟩ F.entry_list_append (F.args_list_append_2 _ _) (PySem.list_append l i.toArray n u (by rw[Aj];lia)) ⟨e,?_⟩;refine⟨.non,_,I.lset (its':=i++[u]) g e (by simp) (r.append (.cons o .nil)) ?_,rfl,q⟩;rw[AW,A1]
 lia
noncomputable def rCat:R2:=λx y H Q=>∃l b g i,x=.ref l/\y=.ref b/\H l=some (.lst g)/\H b=some (.lst i)/\g.length+i.length<=sizeLine/\∀p,H p=none->Q (.ref p) (upd H p (.lst (g++i)))
theorem iy:OpR X (DN .Add) rCat:=by
 intro G s J H x y v u Q I j m h;obtain⟨l,b,L,N,rfl,rfl,o,A,O,q⟩:=h;cases j;cases m;obtain⟨z,g,n,r,R,e⟩:=I.lstM o;obtain⟨S,i,T,B,U,C⟩:=I.lstM A;refine PySem.P.add_list e C ?_ (by rw[Aj,Aj];lia)
 have E:g.toArray++i.toArray=(g++i).toArray:=by simp
 rw[E];exact⟨.ref _,_,I.lnew (t':=s.toks) (r.append B) (by rw[AW];omega),rfl,q _ I.fresh⟩
section
variable{X:Cx}{o i value:Expr}{pos pos':Pos}{td ty tv:TE}
theorem dh(B:X.A.units+1 < Dq)(ho:PE X o td)(hi:PE X i ty)(C:jz i):PE X (.Subscript o i pos) (ku td ty):=by
 intro j s l H Q I h;refine dB PySem.F.slot_dict_getitem.lookup C (thn (ho j s l H _ I h) λu E ⟨x,G,J,L,N⟩=>thn (hi j E l G _ J N) λU Y ⟨y,O,m,P,a,v,ex,g,R⟩=>?_);subst ex;obtain rfl:u=Ai a:=L;exact⟨UF m g,YR B m g P λw' Z S T=>⟨v,O,S,T,R⟩⟩
theorem ik(m:X.A.units+1 < Dq)(hi:PE X i ty)(ho:PE X o td):PC X .In i o (kt ty td):=by
 intro j s l H Q I h
 refine thn (hi j s l H _ I h) λT B ⟨y,C,E,G,J⟩=>thn (ho j B l C _ E J) λu U ⟨x,L,N,O,a,P,ex,g,R⟩=>?_
 subst ex;obtain rfl:u=Ai a:=O
 exact d_in m N g G λY S=>⟨.bl P.isSome,L,S,rfl,R⟩
theorem Xz(m:X.A.units+1 < Dq)(hi:PE X i ty)(ho:PE X o td):PC X .NotIn i o (WW ty td):=by
 intro j s l H Q I h
 refine thn (hi j s l H _ I h) λT B ⟨y,C,E,G,J⟩=>thn (ho j B l C _ E J) λu U ⟨x,L,N,O,a,P,ex,g,R⟩=>?_
 subst ex;obtain rfl:u=Ai a:=O
 exact en m N g G λY S=>⟨.bl (!P.isSome),L,S,rfl,R⟩
theorem dS(m:X.A.units+1 < Dq)(ho:PE X o td)(hi:PE X i ty)(B:PE X value tv)(C:EY value (some (.Subscript o i pos')) pos.line X.env=pure false) :
  PS X (.Assign [.Subscript o i pos'] value pos) (lA td ty tv):=by
 intro l s j H D I h;refine wpAny_Assign_Subscript (thn (B l s j H _ I h) λr E ⟨v,G,J,L,N⟩=>thn (ho l E j G _ J N) λu O ⟨x,P,Q,R,S⟩=>thn (hi l O j P _ Q S) λiv s3 ⟨y,H3,T,U,a,Y,ex,g,Z⟩=>?_) C;subst ex;obtain rfl:u=Ai a:=R
 exact YQ m T g U L λs4 I4=>⟨j,Y,I4,Z⟩
end
theorem bd(h:Bt)(hb:D9 < h.objs.size):CK P w H (h.push { cls:=.type "dict",data:=.dict #[] }) h.objs.size (.dT []):=
 ⟨Eg _,beq_eq_false_iff_ne.mpr (B8 (Al hb)),[],.nil,_,#[],0,AX _ rfl,⟨rfl,rfl,rfl⟩,rfl,rfl,fR⟩
noncomputable def iB:TE:=λ_ H Q=>∀p,H p=none->Q (.ref p) (upd H p (.dT []))
variable{s:AG}
section
variable{X:Cx}{pos:Pos}
theorem Z5:PE X (.Dict [] [] pos) iB:=λg s i H Q I h=>
 wpAny_Dict_empty ⟨.ref s.heap.objs.size,_,I.laid (a:=s.heap.objs.size) (o:=.dT []) (t':=s.toks) (λ_ _ q=>AB _ q) (AN _) (bd s.heap I.big),rfl,h _ (I.hok.fresh (AN _))⟩
end
end
end L2
namespace Att
open PySem PySem.W PySem.Calls PyProof.Rows
theorem OO:∀(ns:ZLi) (g:List AD),WellAll P h g (ns.map mU)->CG g ns:=by
 intro ns
 induction ns with
 | nil=>
  intro g w;rw[Nh]at w;cases w;exact .nil
 | cons n ns i=>
  intro g w;rw[Ao]at w
  cases w with
  | cons a b=>
   cases a;exact .cons _ _ (i _ b)
theorem Xn{l:OpenLaw}{n:Nat}(B:l.most=some n){P:Params}{h:Bt}{args:List WData}{g:List AD}
  (o:l.row.toRowW.claim.pre args=true) (C:WellAll P h g args) :
  ∃a s ns,g=[Ai a]/\args=[WData.list (ns.map mU)]/\h.get? a=some { cls:=.type "list",data:=.seq s.toArray }/\CG s ns/\ns.length<=n:=by
 have E:WShape.hasAll [] args [.list .int]=true:=(pre_splitW o).1;have A:l.pre.holds [] { args:=args }=true:=(pre_splitW o).2;obtain⟨d,r,rfl,G,H⟩:=hasAllW_cons E;obtain rfl:=hasAllW_nil H;obtain⟨R,rfl,I⟩:=hasW_list G;obtain⟨ns,rfl⟩:=items_int I
 have i:ns.length<=n:=by
  unfold OpenLaw.pre at A
  have j:(WTm.not (.lt (.lit (.int (n:Int))) (.len (.arg 0)))).holds [] { args:=[.list (ns.map .int)] }=true:=by
   have j:=(holds_andW A).1;rw[B]at j;exact j
  have m:=condW_of j (w_not (w_lt w_lit (w_len_list (w_arg rfl))));rw[AL]at m
  refine Oz λq=>?_
  have J:(n:Int) < ((ns.length:Nat):Int):=by omega
  first
   | (rw[wX J]at m;exact zX m (by decide))
   | (simp at m;omega)
 cases C with
 | cons L N=>
  cases N
  cases L with
  | list O Q=>exact⟨_,_,ns,rfl,rfl,O,OO ns _ Q,i⟩
theorem Xw(l:OpenLaw)(args:List WData):l.row.toRowW.claim.post args (.bool true) args=true:=
 postW_of (r:=l.row.toRowW) (X:=(true==true))
  (show kE [] (.bool true) .bool=true by first | rfl | decide | simp[kE,WShape.arms,WShape.armsAll])
  (show(WTm.eq .res (.lit (.bool true))).value [] { args:=args,res:=some (.bool true),after:=args }=some (.bool (true==true))from w_eq_bool (w_res rfl) w_lit) rfl
theorem UM{l:OpenLaw}{n:Nat}{q:A3}{i:List Str}{L:(Str->Option AD)->Bt->Prop}{N:BR->Bt->Prop}{d:DefRec}
  (R:l.most=some n) (S:d.params.defaults=[])
  (call:∀(w:BR) (j g:AG) (E I:Str->Option AD) (B:AJ) (o:Obj) (J H m:AD) (a:AJ) (A:List AD) (ns:ZLi),
   Ground q i [] L w j E I g.heap->N w g.heap ->
   g.heap.get? B=some o->o.data=.func (docDef d.name d.params d.body d.scope J H m)->g.heap.CodeRec H d.name->E d.name=some (.ref B) ->
   g.heap.get? a=some { cls:=.type "list",data:=.seq A.toArray }->CG A ns->ns.length<=n->g.gens = #[] ->
   LZ (AR l.prog w) QN (.call (.ref B) ⟨[.ref a],[]⟩) (λr s'=>r=.ok (.ret (.bool true))/\OldK g.heap s'.heap/\s'.os=g.os/\HV s'.gens) g) :
  WalkO q i L N l.row.toRowW d [] (λf A=>XW f A):=by
 intro w j g E I G Y B o J H m T kV U X Z O rB hg P Q as nM zI hrd t9 qB;obtain rfl:T=.none:=Dflts.none O S;obtain rfl:kV=.none:=Dflts.noKw O;obtain⟨a,A,ns,rfl,rfl,rC,s,C⟩:=Xn R nM t9;refine enter_call (GY (call w j g E I B o J H m a A ns G Y U (fd_plain X) Z rB rC s C hg) λr s' hq=>?_);obtain⟨rfl,h2,h3,h4⟩:=hq;exact⟨.inl ⟨.bool true,.bool true,[],rfl,λ_=>rfl,.bool true,Xw l _,λ_=>⟨kW,λ_ hm=>(nomatch hm)⟩⟩,h2,h3,h4⟩
end Att
namespace L2
open PySem PySem.Spec PyProof.Rows
theorem Q2:∀{g:List AD} {ns:ZLi},CG g ns->Bb (ns.map V.int) g
 | _,_,.nil=>.nil
 | _,_,.cons n t h=>.cons ⟨t,rfl⟩ (Q2 h)
noncomputable def fN(H:Hp):Prop:=∀b,H b=none∨∃o g,H b=some (.frz o (.lst g))
theorem ai{P}{w}{K}{j I}{CX}{k}{J a}{fd}{x}{sp}{s₁}{i}{ns}
  (O:K.In s₁.heap) (Q:s₁.heap.Ns As j) (hb:s₁.heap.Ns Uj I) (zJ:∀x:Str,x≠"__name__"->I x=E1 x) (vI:s₁.heap.NoLimit) (hg:s₁.gens = #[])
  (E:s₁.heap.get? a=some { cls:=.type "list",data:=.seq i.toArray }) (hi:CG i ns) (R:ns.length<=sizeLine) (hr:Fx k QN)
  (F:∀base:Bt,K.In base->base.Ns As j->D0 P w K j base CX k J fd [x] sp) (tL:∀(s:AG) (u:AD),Ud s fd ⟨[u],[]⟩ [(x,u)])
  (qR:∀H:Hp,fN H->SqL K H a (ns.map V.int)->sp [.ref a] H (λv _=>v=.bl true) λ_ _ _=>False)
  (vJ:∀H e s',CX [] H s₁ (λ_ _ _=>False) e s'->False) :
  LZ (AR P w) QN (.call (.ref J) ⟨[.ref a],[]⟩) (λr s'=>r=.ok (.ret (.bool true))/\OldK s₁.heap s'.heap/\s'.os=s₁.os/\HV s'.gens) s₁:=by
 have S:=Q2 hi;have vK:=hi.length
 have g:∀H:Hp,fN H->SqL K H a (ns.map V.int)->HOk P w H s₁.heap->(∀b,H b≠none->b=a)->(H a≠none->K.lookup a=none) ->
   LZ (AR P w) QN (.call (.ref J) ⟨[.ref a],[]⟩) (λr s'=>r=.ok (.ret (.bool true))/\OldK s₁.heap s'.heap/\s'.os=s₁.os/\HV s'.gens) s₁:=by
  intro H T hS l U hK
  have X:∀{b:AJ} {o:Obj},s₁.heap.get? b=some o->H b=none->(SZ s₁.heap H).get? b=some o:=λe n=>bA e n
  have tH:∀{b:AJ} {o:Obj} {A:Array Ys} {ep:Nat},s₁.heap.get? b=some o->o.data=.dict A ep->H b=none:=λ{b o A ep} e d=>by
   cases q:H b with
   | none=>rfl
   | some u=>
    have L:b=a:=U b (by rw[q];simp);subst L;rw[E]at e;cases e;have d':Data.seq i.toArray _=Data.dict A ep:=d;cases d'
  have G:∀{b:AJ} {m:Str->Option AD},s₁.heap.Ns b m->(SZ s₁.heap H).Ns b m:=λ{b m} ⟨o,A,ep,e,d,r⟩=>⟨o,A,ep,X e (tH e d),d,r⟩
  have Y:K.In (SZ s₁.heap H):=λb o e=>X (O b o e) (by
   cases q:H b with
   | none=>rfl
   | some u=>
    have L:b=a:=U b (by rw[q];simp);subst L
    rw[hK (by rw[q];simp)]at e;cases e)
  have hM:Mod K j (SZ s₁.heap H):=⟨Y,G Q,⟨I,G hb,zJ⟩,let ⟨mc,h1,h2⟩:=vI;⟨mc,G h1,h2⟩⟩;have e0:V6 P w K j (SZ s₁.heap H) QN [] s₁ H:=⟨rfl,hM,λb o e=>dw e,Uu (YD _ _),trivial,λb hb=>zX (show b∈([]:List AJ)from hb) (by simp),l,.of_eq hg⟩
  refine GY ((F _ Y (G Q)).run QN [] s₁ H ⟨[.ref a],[]⟩ [.ref a] [.ref a] _ _ hr e0 (tL s₁ (.ref a)) (.cons rfl .nil) (qR H T hS)) λr s' h=>?_
  cases r with
  | error e=>exact(vJ H e s' h).elim
  | ok fl=>
   cases fl with
   | next=>exact CY h
   | brk=>exact CY h
   | cont=>exact CY h
   | ret u=>
    obtain⟨v,H',os,B,un,vL,r',q⟩:=h;have q':v=.bl true:=q;subst q';obtain rfl:u=Jw true:=r';refine⟨rfl,OldK.of_keep λb o e=>?_,os,B⟩
    cases q:H b with
    | none=>exact un.keep b o e q (by intro z;exact zX (show b∈([]:List AJ)from z) (by simp)) (by simp)
    | some u=>
     rcases T b with z | ⟨ob,xs,z⟩
     ·rw[q]at z;cases z
     ·have z2:=un.frzs b ob _ z
      obtain⟨Z,_⟩:=l b _ z;obtain⟨e2,_⟩:=vL b _ z2;rw[e]at Z;cases Z;exact e2
 cases N:K.lookup a with
 | some o=>
  have e:=O a o N;rw[E]at e;cases e
  refine g (λ_=>none) (λ_=>.inl rfl) (.inr ⟨_,i.toArray,_,N,rfl,rfl,rfl,by rw[Aj,vK];exact R,by simpa using S⟩) (λb u z=>by have C:(none:Option HO)=some u:=z;cases C) (λb z=>zX rfl z) λz=>zX rfl z
 | none=>
  refine g (λb=>if b=a then some (.frz { cls:=.type "list",data:=.seq i.toArray } (.lst (ns.map V.int)))else none) (λb=>?_) (.inl (.inr ⟨{ cls:=.type "list",data:=.seq i.toArray },qX rfl⟩)) (λb u z=>?_) (λb z=>?_) λ_=>N
  ·by_cases hb:b=a
   ·exact .inr ⟨_,_,qX hb⟩
   ·exact .inl (qY hb)
  ·by_cases hb:b=a
   ·have C:=(qX hb).symm.trans z
    cases C;subst hb;exact⟨E,by rw[AL];exact R,i,_,S,E⟩
   ·have C:=(qY hb).symm.trans z
    cases C
  ·by_cases hb:b=a
   ·exact hb
   ·exact zX (qY hb) z
theorem cb{l:PySem.W.OpenLaw}{n k:Nat}{q:A3}{j:List Str}{N:(Str->Option AD)->Bt->Prop}{E:BR->Bt->Prop}{d:DefRec}{K:Params->AC}{CX:BR->CXT}{sp:BR->Sp}{x:Str}
  (O:l.most=some n) (P:n<=sizeLine) (Q:d.params.defaults=[]) (R:Fx k QN)
  (S:∀(w:BR) (h:Bt),E w h->(K w.params).In h)
  (F:∀(w:BR) (A:Str->Option AD) (C:AJ) (h:Bt),(K w.params).In h->h.Ns As A->A d.name=some (.ref C) ->
   ∃fd:Gf,(∀(s:AG) (u:AD),Ud s fd ⟨[u],[]⟩ [(x,u)]) /\
    ∀base:Bt,(K w.params).In base->base.Ns As A->D0 l.prog w (K w.params) A base (CX w) k C fd [x] (sp w))
  (U:∀(w:BR) (H:Hp) (a:AJ) (ns:ZLi),ns.length<=n->fN H->SqL (K w.params) H a (ns.map V.int)->sp w [.ref a] H (λv _=>v=.bl true) λ_ _ _=>False)
  (X:∀(w:BR) (H:Hp) (s:AG) (e:AD) (s':AG),CX w [] H s (λ_ _ _=>False) e s'->False) :
  PySem.W.WalkO q j N E l.row.toRowW d [] (λf I=>XW f I):=by
 refine Att.UM O Q λw J B A mb C o pm cd Z a I ns G Y ho hd oJ rB rC m i hg=>?_
 have L:=S w _ Y;obtain⟨fd,hb,hF⟩:=F w A C _ L G.T.g rB
 exact ai L G.T.g G.T.b G.T.builtins G.T.nolimit hg rC m (Ae i P) R hF hb (λH hO hS=>U w H a ns i hO hS) λH e s'=>X w H B e s'
noncomputable def Wu(s:Dr)(j:Nat):Dr:=match s with
 | .ClassDef _ _ _ body _ _ _ _ _ _ _=>body.getD j (.Pass ⟨0,0,0,0⟩)
 | _=>.Pass ⟨0,0,0,0⟩
noncomputable def Jf(s:Dr):Arguments:=match s with
 | .FunctionDef _ a _ _ _ _ _ _ _ _=>a
 | _=>{ posonlyargs:=[],args:=[],vararg:=none,kwonlyargs:=[],kw_defaults:=[],kwarg:=none,defaults:=[] }
noncomputable def GB(s:Dr):List Dr:=match s with
 | .FunctionDef _ _ b _ _ _ _ _ _ _=>b
 | _=>[]
noncomputable def BA(s:Dr):QO:=match s with
 | .FunctionDef _ _ _ _ _ _ g _ _ _=>g
 | _=>{ kind:=.function,names:=[],isGenerator:=false,isCoroutine:=false }
structure Fun(K:AC)(x qual:Str)(st:Dr)(f:AJ)(fd:Gf):Prop where
 ex:∃(oc:AD) (od:Option AJ) (kV doc pm:AD) (an:Option AJ) (nz ct:AD) (pK:Array (Option AD)),
  fd=Gq x qual (Jf st) (GB st) (BA st) .none kV doc pm an nz ct/\K.lookup f=some ⟨oc,od,.func fd,pK⟩/\Ot K nz qual=true
 kp:E5 K (.ref f)=true
section
variable{K:AC}
theorem Fun.binds{x g}{st}{f}{fd}{ps}(F:Fun K x g st f fd)
  (h:∀(kV i j:AD) (l:Option AJ) (m ct:AD) (o:List AD),o.length=ps.length->cM (Gq x g (Jf st) (GB st) (BA st) .none kV i j l m ct) ⟨o,[]⟩=pure (ps.zip o)):Binds K fd ps []:=by
 obtain⟨s,A,kV,i,j,l,m,ct,B,rfl,C,E⟩:=F.ex;exact .all (h kV i j l m ct)
theorem bN{x g}{st}{f}{s}{A m}{B}{kV i o j ct}(l:K.lookup f=some ⟨s,A,.func (Gq x g (Jf st) (GB st) (BA st) .none kV i o m j ct),B⟩)
  (c:Ot K j g=true) (k:E5 K (.ref f)=true):Fun K x g st f (Gq x g (Jf st) (GB st) (BA st) .none kV i o m j ct):=⟨⟨s,A,kV,i,o,m,j,ct,B,rfl,l,c⟩,k⟩
end
section
variable{X:Cx}
theorem pv(i:Nat)(g:X.N[i]?=some x:=by rfl)(j:Vis X.env.scope x:=by first | exact WD rfl | exact Sz (WD rfl) | exact Sz (Sz rfl))(l:(x==("__debug__" : Str))=false:=by decide)
  (m:(x==("__classdict__" : Str))=false:=by decide):PE X (.Name x pos) (TZ i):=Pe g j l m
end
inductive D where
 | non | bl (b:Bool) | int (i:Int) | str (x:Str) | tup (ds:List D) | fro (ds:List D) | ref (n:Nat) | exc (C:AJ)
noncomputable def Qq(K:AC)(H:Hp)(a:AJ)(i:List V):Prop:=
 (∃o,H a=some (.frz o (.lst i))) ∨
  ∃(o:Obj) (g:Array AD) (n:Nat),K.lookup a=some o/\o.cls=.type "list"/\o.dict=none/\o.data=.seq g n/\g.size<=sizeLine/\Bb i g.toList
theorem Qq.sq{K}{H}{a}{vs}(h:Qq K H a vs):SqL K H a vs:=by
 rcases h with h | h
 ·exact .inl (.inr h)
 ·exact .inr h
noncomputable def V5(o:Obj)(C:AJ):Prop:=o.cls=.ref C/\∃g,o.data=.fields g
noncomputable def M64:Nat:=18446744073709551616
noncomputable def bx(o:Obj)(n:Nat):Prop:=∃t,KG "row" o=some (some (.int (n:Int) t))
noncomputable def QF(C:Nat)(H:Hp)(d:Option AJ):Prop:=(C < M64/\d=none)∨∃g i u,d=some g/\H g=some (.frz i u)/\M64<=C/\bx i (C / M64 - 1)
theorem QF.mono{C:Nat}{H g:Hp}{d:Option AJ}(l:∀a o u,H a=some (.frz o u)->g a=some (.frz o u)):QF C H d->QF C g d
 | .inl h=>.inl h
 | .inr ⟨i,j,u,m,s,A⟩=>.inr ⟨i,j,u,m,l _ _ _ s,A⟩
mutual
inductive Bc(K:AC)(ρ:List AJ)(H:Hp):D->V->Prop where
 | non:Bc K ρ H .non .non
 | bl (b:Bool):Bc K ρ H (.bl b) (.bl b)
 | int (i:Int):Bc K ρ H (.int i) (.int i)
 | str (x:Str):Bc K ρ H (.str x) (.str x)
 | tup {ds:List D} {a:AJ} {vs:List V}:H a=some (.tup vs)->Aq K ρ H ds vs->Bc K ρ H (.tup ds) (.ref a)
 | fro {ds:List D} {a:AJ} {vs:List V}:Qq K H a vs->Aq K ρ H ds vs->Bc K ρ H (.fro ds) (.ref a)
 | ref {n:Nat} {a:AJ}:ρ[n]?=some a->Bc K ρ H (.ref n) (.ref a)
 | exc {C a:AJ} {o:Obj} {u:HO}:H a=some (.frz o u)->V5 o (C % M64)->QF C H o.dict->Bc K ρ H (.exc C) (.ref a)
inductive Aq(K:AC)(ρ:List AJ)(H:Hp):List D->List V->Prop where
 | nil:Aq K ρ H [] []
 | cons {d:D} {v:V} {ds:List D} {vs:List V}:Bc K ρ H d v->Aq K ρ H ds vs->Aq K ρ H (d :: ds) (v :: vs)
end
structure Le(K:AC)(ρ:List AJ)(H:Hp)(ρ':List AJ)(H':Hp):Prop where
 pre:∀(n:Nat) a,ρ[n]?=some a->ρ'[n]?=some a
 tup:∀a xs,H a=some (.tup xs)->H' a=some (.tup xs)
 frz:∀a o u,H a=some (.frz o u)->H' a=some (.frz o u)
 oth:∀a o,H a=some o->(∀n:Nat,ρ[n]?≠some a)->H' a=some o/\∀n:Nat,ρ'[n]?≠some a
theorem Qq.mono{K}{H g}{a}{xs}(l:∀a o u,H a=some (.frz o u)->g a=some (.frz o u))(h:Qq K H a xs):Qq K g a xs:=by
 rcases h with⟨o,h⟩ | h
 ·exact .inl ⟨o,l _ _ _ h⟩
 ·exact .inr h
section
variable{K:AC}{ρ ρ' ρ'':List AJ}{H H' qd:Hp}
theorem Le.fro(l:Le K ρ H ρ' H'):∀a xs,Qq K H a xs->Qq K H' a xs:=λ_ _ h=>h.mono l.frz
theorem Le.refl:Le K ρ H ρ H:=⟨λ_ _ h=>h,λ_ _ h=>h,λ_ _ _ h=>h,λ_ _ h n=>⟨h,n⟩⟩
theorem Le.trans(a:Le K ρ H ρ' H')(b:Le K ρ' H' ρ'' qd):Le K ρ H ρ'' qd:=
 ⟨λn x h=>b.pre n x (a.pre n x h),λx g h=>b.tup x g (a.tup x g h),λx o u h=>b.frz x o u (a.frz x o u h),λx o h n=>b.oth x o (a.oth x o h n).1 (a.oth x o h n).2⟩
mutual
theorem Bc.mono(l:Le K ρ H ρ' H'):∀{d:D} {v:V},Bc K ρ H d v->Bc K ρ' H' d v
 | _,_,.non=>.non
 | _,_,.bl b=>.bl b
 | _,_,.int i=>.int i
 | _,_,.str x=>.str x
 | _,_,.tup h r=>.tup (l.tup _ _ h) (Aq.mono l r)
 | _,_,.fro h r=>.fro (l.fro _ _ h) (Aq.mono l r)
 | _,_,.ref h=>.ref (l.pre _ _ h)
 | _,_,.exc h e c=>.exc (l.frz _ _ _ h) e (c.mono l.frz)
theorem Aq.mono(l:Le K ρ H ρ' H'):∀{ds:List D} {g:List V},Aq K ρ H ds g->Aq K ρ' H' ds g
 | _,_,.nil=>.nil
 | _,_,.cons r t=>.cons (Bc.mono l r) (Aq.mono l t)
end
mutual
theorem Bc.more(l:∀(n:Nat) a,ρ[n]?=some a->ρ'[n]?=some a):∀{d:D} {v:V},Bc K ρ H d v->Bc K ρ' H d v
 | _,_,.non=>.non
 | _,_,.bl b=>.bl b
 | _,_,.int i=>.int i
 | _,_,.str x=>.str x
 | _,_,.tup h r=>.tup h (Aq.more l r)
 | _,_,.fro h r=>.fro h (Aq.more l r)
 | _,_,.ref h=>.ref (l _ _ h)
 | _,_,.exc h e c=>.exc h e c
theorem Aq.more(l:∀(n:Nat) a,ρ[n]?=some a->ρ'[n]?=some a):∀{ds:List D} {g:List V},Aq K ρ H ds g->Aq K ρ' H ds g
 | _,_,.nil=>.nil
 | _,_,.cons r t=>.cons (Bc.more l r) (Aq.more l t)
end
mutual
theorem Bc.keep(j:∀a xs,H a=some (.tup xs)->H' a=some (.tup xs))(g:∀a o u,H a=some (.frz o u)->H' a=some (.frz o u)):∀{d:D} {v:V},Bc K ρ H d v->Bc K ρ H' d v
 | _,_,.non=>.non
 | _,_,.bl b=>.bl b
 | _,_,.int i=>.int i
 | _,_,.str x=>.str x
 | _,_,.tup h r=>.tup (j _ _ h) (Aq.keep j g r)
 | _,_,.fro h r=>.fro (h.mono g) (Aq.keep j g r)
 | _,_,.ref h=>.ref h
 | _,_,.exc h e c=>.exc (g _ _ _ h) e (c.mono g)
theorem Aq.keep(g:∀a xs,H a=some (.tup xs)->H' a=some (.tup xs))(i:∀a o u,H a=some (.frz o u)->H' a=some (.frz o u)):∀{ds:List D} {j:List V},Aq K ρ H ds j->Aq K ρ H' ds j
 | _,_,.nil=>.nil
 | _,_,.cons r t=>.cons (Bc.keep g i r) (Aq.keep g i t)
end
theorem Aq.length:∀{ds:List D} {g:List V},Aq K ρ H ds g->ds.length=g.length
 | _,_,.nil=>rfl
 | _,_,.cons _ t=>by rw[AU,AU,Aq.length t]
theorem Aq.get:∀{ds:List D} {g:List V} {i:Nat} {d:D},Aq K ρ H ds g->ds[i]?=some d->∃v,g[i]?=some v/\Bc K ρ H d v
 | _,_,_,_,.nil,e=>by simp at e
 | _,_,0,_,.cons r _,e=>by simp at e;subst e;exact⟨_,rfl,r⟩
 | _,_,i+1,d,.cons _ t,e=>by
  obtain⟨v,j,l⟩:=Aq.get (i:=i) (d:=d) t (by simpa using e);exact⟨v,by simpa using j,l⟩
theorem Aq.get':∀{ds:List D} {g:List V} {i:Nat} {v:V},Aq K ρ H ds g->g[i]?=some v->∃d,ds[i]?=some d/\Bc K ρ H d v
 | _,_,_,_,.nil,e=>by simp at e
 | _,_,0,_,.cons r _,e=>by simp at e;subst e;exact⟨_,rfl,r⟩
 | _,_,i+1,d,.cons _ t,e=>by
  obtain⟨v,j,l⟩:=Aq.get' (i:=i) (v:=d) t (by simpa using e);exact⟨v,by simpa using j,l⟩
theorem Aq.append:∀{ds es:List D} {g i:List V},Aq K ρ H ds g->Aq K ρ H es i->Aq K ρ H (ds++es) (g++i)
 | _,_,_,_,.nil,s=>s
 | _,_,_,_,.cons r t,s=>.cons r (Aq.append t s)
theorem Aq.take:∀{ds:List D} {g:List V} (n:Nat),Aq K ρ H ds g->Aq K ρ H (ds.take n) (g.take n)
 | _,_,0,_=>.nil
 | _,_,_+1,.nil=>.nil
 | _,_,n+1,.cons r t=>.cons r (Aq.take n t)
theorem Aq.drop:∀{ds:List D} {g:List V} (n:Nat),Aq K ρ H ds g->Aq K ρ H (ds.drop n) (g.drop n)
 | _,_,0,r=>r
 | _,_,_+1,.nil=>.nil
 | _,_,n+1,.cons _ t=>Aq.drop n t
theorem Aq.of_ints:∀(ns:ZLi),Aq K ρ H (ns.map D.int) (ns.map V.int)
 | []=>.nil
 | n :: ns=>.cons (.int n) (Aq.of_ints ns)
theorem Aq.ints:∀{ns:ZLi} {g:List V},Aq K ρ H (ns.map D.int) g->g=ns.map V.int
 | [],_,.nil=>rfl
 | n :: ns,_,.cons r t=>by
  cases r;rw[Aq.ints (ns:=ns) t];rfl
end
inductive Ob where
 | lst (ds:List D)
 | dK (m8:List (Key×D))
 | dT (m8:List (List Key×D))
 | ins (C:AJ) (fs:List (Str×D))
 | fK (m8:List (Key×D))
 | fT (m8:List (List Key×D))
 | mem (L:Key->Int)
noncomputable abbrev Sto:=List Ob
noncomputable def memU:List Key:=(Bd 1000).map λ(i:Nat)=>Il (i:Int)
noncomputable abbrev KVR{g:Type}(K:AC)(i:List AJ)(H:Hp):List (g×D)->List (g×V)->Prop:=Gc λ(p:g×D) (q:g×V)=>p.1=q.1/\Bc K i H p.2 q.2
noncomputable def Ee(K:AC)(j:List AJ)(H:Hp)(a:AJ):Ob->Prop
 | .lst s=>∃m,H a=some (.lst m)/\Aq K j H s m
 | .dK i=>∃g,H a=some (.dK g)/\KVR K j H i g
 | .dT i=>∃g,H a=some (.dT g)/\KVR K j H i g
 | .ins C fs=>∃A o,H a=some (.ins C A o)/\KVR K j H fs o
 | .fK i=>∃l g,H a=some (.frz l (.dK g))/\KVR K j H i g
 | .fT i=>∃l g,H a=some (.frz l (.dT g))/\KVR K j H i g
 | .mem L=>∃g,H a=some (.dK g)/\(g.map (·.1)).Nodup/\∀x∈g,x.1∈memU/\x.2=V.int (L x.1)
structure B1(K:AC)(ρ:List AJ)(S:Sto)(H:Hp):Prop where
 len:ρ.length=S.length
 nd:∀(i j:Nat) a,ρ[i]?=some a->ρ[j]?=some a->i=j
 ob:∀(n:Nat) o a,S[n]?=some o->ρ[n]?=some a->Ee K ρ H a o
section
variable{K:AC}{ρ ρ':List AJ}{H H':Hp}{S:Sto}{a p:AJ}{o:Ob}{n:Nat}{ho:HO}
theorem KVR.mono{g:Type}(l:Le K ρ H ρ' H'){x:List (g×D)}{y:List (g×V)}(h:KVR K ρ H x y):KVR K ρ' H' x y:=Gc.mapP h λ_ _ z=>⟨z.1,z.2.mono l⟩
theorem Ee.has(h:Ee K ρ H a o):H a≠none:=by
 cases o with
 | lst g=>obtain⟨_,e,_⟩:=h;rw[e];exact λz=>nomatch z
 | dK g=>obtain⟨_,e,_⟩:=h;rw[e];exact λz=>nomatch z
 | dT g=>obtain⟨_,e,_⟩:=h;rw[e];exact λz=>nomatch z
 | ins C fs=>obtain⟨_,_,e,_⟩:=h;rw[e];exact λz=>nomatch z
 | fK g=>obtain⟨_,_,e,_⟩:=h;rw[e];exact λz=>nomatch z
 | fT g=>obtain⟨_,_,e,_⟩:=h;rw[e];exact λz=>nomatch z
 | mem L=>obtain⟨_,e,_⟩:=h;rw[e];exact λz=>nomatch z
theorem Ee.mono(l:Le K ρ H ρ' H')(e:H' a=H a)(h:Ee K ρ H a o):Ee K ρ' H' a o:=by
 cases o with
 | lst s=>obtain⟨g,i,j⟩:=h;exact⟨g,e.trans i,j.mono l⟩
 | dK s=>obtain⟨g,i,j⟩:=h;exact⟨g,e.trans i,j.mono l⟩
 | dT s=>obtain⟨g,i,j⟩:=h;exact⟨g,e.trans i,j.mono l⟩
 | ins C fs=>obtain⟨m,g,i,j⟩:=h;exact⟨m,g,e.trans i,j.mono l⟩
 | fK s=>obtain⟨m,g,i,j⟩:=h;exact⟨m,g,e.trans i,j.mono l⟩
 | fT s=>obtain⟨m,g,i,j⟩:=h;exact⟨m,g,e.trans i,j.mono l⟩
 | mem L=>obtain⟨g,i,j⟩:=h;exact⟨g,e.trans i,j⟩
theorem Ee.keep(l:∀a xs,H a=some (.tup xs)->H' a=some (.tup xs))(m:∀a o u,H a=some (.frz o u)->H' a=some (.frz o u))(e:H' a=H a)(h:Ee K ρ H a o):Ee K ρ H' a o:=by
 cases o with
 | lst A=>obtain⟨g,i,j⟩:=h;exact⟨g,e.trans i,j.keep l m⟩
 | dK A=>obtain⟨g,i,j⟩:=h;exact⟨g,e.trans i,Gc.mapP j λ_ _ z=>⟨z.1,z.2.keep l m⟩⟩
 | dT A=>obtain⟨g,i,j⟩:=h;exact⟨g,e.trans i,Gc.mapP j λ_ _ z=>⟨z.1,z.2.keep l m⟩⟩
 | ins C fs=>obtain⟨s,g,i,j⟩:=h;exact⟨s,g,e.trans i,Gc.mapP j λ_ _ z=>⟨z.1,z.2.keep l m⟩⟩
 | fK A=>obtain⟨s,g,i,j⟩:=h;exact⟨s,g,e.trans i,Gc.mapP j λ_ _ z=>⟨z.1,z.2.keep l m⟩⟩
 | fT A=>obtain⟨s,g,i,j⟩:=h;exact⟨s,g,e.trans i,Gc.mapP j λ_ _ z=>⟨z.1,z.2.keep l m⟩⟩
 | mem L=>obtain⟨g,i,j⟩:=h;exact⟨g,e.trans i,j⟩
theorem Ee.mono'(l:∀(n:Nat) a,ρ[n]?=some a->ρ'[n]?=some a)(h:Ee K ρ H a o):Ee K ρ' H a o:=by
 cases o with
 | lst s=>obtain⟨g,i,j⟩:=h;exact⟨g,i,j.more l⟩
 | dK s=>obtain⟨g,i,j⟩:=h;exact⟨g,i,Gc.mapP j λ_ _ z=>⟨z.1,z.2.more l⟩⟩
 | dT s=>obtain⟨g,i,j⟩:=h;exact⟨g,i,Gc.mapP j λ_ _ z=>⟨z.1,z.2.more l⟩⟩
 | ins C fs=>obtain⟨m,g,i,j⟩:=h;exact⟨m,g,i,Gc.mapP j λ_ _ z=>⟨z.1,z.2.more l⟩⟩
 | fK s=>obtain⟨m,g,i,j⟩:=h;exact⟨m,g,i,Gc.mapP j λ_ _ z=>⟨z.1,z.2.more l⟩⟩
 | fT s=>obtain⟨m,g,i,j⟩:=h;exact⟨m,g,i,Gc.mapP j λ_ _ z=>⟨z.1,z.2.more l⟩⟩
 | mem L=>exact h
theorem FN(i:H p=none∨Mut (H p)):(∀a xs,H a=some (.tup xs)->upd H p ho a=some (.tup xs))/\∀a o u,H a=some (.frz o u)->upd H p ho a=some (.frz o u):=by
 have g:∀a u,H a=some u->¬Mut (some u)->a≠p:=λa u e j z=>by
  subst z
  rcases i with h | h
  ·rw[e]at h;cases h
  ·rw[e]at h;exact j h
 refine⟨λa xs e=>?_,λa o u e=>?_⟩
 ·rw[A5 (g a _ e λz=>z)];exact e
 ·rw[A5 (g a _ e λz=>z)];exact e
theorem Le.fresh(g:H p=none):Le K ρ H ρ (upd H p ho):=
 ⟨λ_ _ h=>h,(FN (.inl g)).1,(FN (.inl g)).2,λa o e n=>⟨by rw[A5 (BQ e g)];exact e,n⟩⟩
theorem Le.write(g:ρ[n]?=some p)(hm:Mut (H p)):Le K ρ H ρ (upd H p ho):=
 ⟨λ_ _ h=>h,(FN (.inr hm)).1,(FN (.inr hm)).2,λa o e h=>⟨by rw[A5 λz=>h n (by rw[z];exact g)];exact e,h⟩⟩
theorem HN{g:Type}{l:List g}{x:g}{m:Nat}{a:g}(e:(l++[x])[m]?=some a):(l[m]?=some a/\m < l.length)∨(m=l.length/\a=x):=by
 by_cases hm:m < l.length
 ·rw[Af hm]at e;exact .inl ⟨e,hm⟩
 ·rw[Au (by lia)]at e
  have:m - l.length=0:=by
   have:=(AI.mp e).1;simp at this;omega
  rw[this]at e;exact .inr ⟨by lia,by simpa using e.symm⟩
theorem Le.alloc(g:H p=none):Le K ρ H (ρ++[p]) (upd H p ho):=by
 refine⟨λn a h=>by rw[Af (AI.mp h).1];exact h,(FN (.inl g)).1,(FN (.inl g)).2,λa o e h=>⟨by rw[A5 (BQ e g)];exact e,λn q=>?_⟩⟩
 rcases HN q with⟨q,_⟩ | ⟨_,q⟩
 ·exact h n q
 ·exact BQ e g q
theorem B1.there(h:B1 K ρ S H){m:Nat}(e:ρ[m]?=some a):∃o,S[m]?=some o/\Ee K ρ H a o:=by
 have g:m < S.length:=by rw[<-h.len];exact(AI.mp e).1
 exact⟨S[m],by simp[g],h.ob m _ a (by simp[g]) e⟩
theorem B1.notIn(h:B1 K ρ S H)(g:H p=none){m:Nat}(e:ρ[m]?=some p):False:=by
 obtain⟨o,_,r⟩:=h.there e;exact r.has g
theorem B1.alloc(h:B1 K ρ S H)(s:H p=none)(B:Ee K (ρ++[p]) (upd H p ho) p o):B1 K (ρ++[p]) (S++[o]) (upd H p ho)/\Le K ρ H (ρ++[p]) (upd H p ho)/\(ρ++[p])[S.length]?=some p:=by
 have le:Le K ρ H (ρ++[p]) (upd H p ho):=Le.alloc s
 have at':∀(m:Nat) a,(ρ++[p])[m]?=some a->(ρ[m]?=some a/\m < ρ.length)∨(m=ρ.length/\a=p):=λm a e=>HN e
 refine⟨⟨by simp[h.len],λi j a C E=>?_,λm G a hm I=>?_⟩,le,by rw[<-h.len];simp⟩
 ·rcases at' i a C with⟨A,_⟩ | ⟨A,J⟩ <;> rcases at' j a E with⟨g,_⟩ | ⟨g,L⟩
  ·exact h.nd i j a A g
  ·rw[L]at A;exact(h.notIn s A).elim
  ·rw[J]at g;exact(h.notIn s g).elim
  ·lia
 ·rcases at' m a I with⟨l,N⟩ | ⟨rfl,rfl⟩
  ·rw[Af (by rw[<-h.len];exact N)]at hm
   refine(h.ob m G a hm l).mono le (A5 λz=>?_);rw[z]at l;exact h.notIn s l
  ·rw[h.len]at hm
   simp at hm;subst hm;exact B
theorem B1.write(h:B1 K ρ S H)(g:ρ[n]?=some a)(i:Ee K ρ (upd H a ho) a o)(le:Le K ρ H ρ (upd H a ho)):B1 K ρ (S.set n o) (upd H a ho)/\Le K ρ H ρ (upd H a ho):=by
 refine⟨⟨by simp[h.len],h.nd,λm j b hm hb=>?_⟩,le⟩
 by_cases e:m=n
 ·subst e
  rw[g]at hb;cases hb;rw[A4 (by rw[<-h.len];exact(AI.mp g).1)]at hm;cases hm;exact i
 ·rw[BF (B8 e)]at hm
  refine(h.ob m j b hm hb).mono le (A5 λz=>?_);subst z;exact e (h.nd m n b hb g)
theorem Le.back{j:Sto}(l:Le K ρ H ρ' H')(s:B1 K ρ S H)(s':B1 K ρ' j H')(i:H' p=none):H p=none:=by
 cases q:H p with
 | none=>rfl
 | some o=>
  by_cases g:∃n:Nat,ρ[n]?=some p
  ·obtain⟨n,g⟩:=g
   exact(s'.notIn i (l.pre n p g)).elim
  ·have:=(l.oth p o q λn h=>g ⟨n,h⟩).1
   rw[i]at this;cases this
theorem B1.adopt(h:B1 K ρ S H)(A:∀m:Nat,ρ[m]?≠some p)(B:Ee K (ρ++[p]) H p o):B1 K (ρ++[p]) (S++[o]) H/\(ρ++[p])[S.length]?=some p:=by
 have le:∀a ob,Ee K ρ H a ob->Ee K (ρ++[p]) H a ob:=λa ob r=>by
  have C:∀(n:Nat) a,ρ[n]?=some a->(ρ++[p])[n]?=some a:=λn a h=>by rw[Af (AI.mp h).1];exact h
  exact r.mono' C
 refine⟨⟨by simp[h.len],λi j a E G=>?_,λm ob a hm s=>?_⟩,by rw[<-h.len];simp⟩
 ·rcases HN E with⟨l,_⟩ | ⟨l,I⟩ <;> rcases HN G with⟨g,_⟩ | ⟨g,J⟩
  ·exact h.nd i j a l g
  ·rw[J]at l;exact(A i l).elim
  ·rw[I]at g;exact(A j g).elim
  ·lia
 ·rcases HN s with⟨s,L⟩ | ⟨rfl,rfl⟩
  ·rw[Af (by rw[<-h.len];exact L)]at hm
   exact le a ob (h.ob m ob a hm s)
  ·rw[h.len]at hm
   simp at hm;subst hm;exact B
end
inductive Res(α:Type) where
 | ok (a:α) (S:Sto) | err (c:AJ) (S:Sto) | bad
noncomputable def Res.bind{g β:Type}(r:Res g)(f:g->Sto->Res β):Res β:=match r with
 | .ok a S=>f a S
 | .err c S=>.err c S
 | .bad=>.bad
noncomputable abbrev Lo:=List (Option D)
noncomputable abbrev ME:=Lo->Sto->Res D
noncomputable abbrev MT:=Lo->Sto->Res Bool
noncomputable abbrev ML:=Lo->Sto->Res (List D)
inductive Fl where
 | nx (e:Lo) | rt (d:D) | bk (e:Lo) | ct (e:Lo) | ex (c:AJ) (e:Lo)
noncomputable abbrev MS:=Lo->Sto->Res Fl
noncomputable abbrev MG:=D->Lo->Sto->Res Lo
noncomputable abbrev Nd:=Sto->Option (List D)
noncomputable abbrev MI:=Lo->Sto->Res Nd
structure Eh(K:AC)(ρ:List AJ)(H:Hp)(e:Lo)(σ:St):Prop where
 len:e.length=σ.length
 at':∀(i:Nat) d,e[i]?=some (some d)->∃v,σ[i]?=some (some v)/\Bc K ρ H d v
section
variable{K:AC}{ρ ρ':List AJ}{H H':Hp}{e:Lo}{σ:St}
theorem Eh.mono(l:Le K ρ H ρ' H')(h:Eh K ρ H e σ):Eh K ρ' H' e σ:=⟨h.len,λi d q=>by
 obtain⟨v,g,j⟩:=h.at' i d q
 exact⟨v,g,j.mono l⟩⟩
theorem Eh.set(h:Eh K ρ H e σ)(r:Bc K ρ H d v)(i:Nat):Eh K ρ H (e.set i (some d)) (σ.set i (some v)):=by
 refine⟨by simp[h.len],λj m q=>?_⟩
 by_cases g:i=j
 ·subst g
  have l:i < e.length:=by
   have:=(AI.mp q).1;simpa using this
  rw[A4 l]at q;cases q;exact⟨v,by rw[A4 (by rw[<-h.len];exact l)],r⟩
 ·rw[BF g]at q ⊢
  exact h.at' j m q
end
noncomputable abbrev EW:=AJ->St->Hp->Prop
noncomputable abbrev EH:=AJ->Hp->Prop
noncomputable abbrev noE:EW:=λ_ _ _=>False
noncomputable abbrev noH:EH:=λ_ _=>False
noncomputable def Bo{j:Type}(K:AC)(E:EH)(l:List AJ)(H:Hp)(r:Res j)(k:j->Sto->Prop):Prop:=match r with
 | .ok a S=>k a S
 | .err c S=>∀g i,Le K l H g i->B1 K g S i->E c i
 | .bad=>False
section
variable{K:AC}{E:EH}{ρ ρ1:List AJ}{H H1:Hp}
theorem Bo.seq(h:Bo K E ρ H (r.bind F) k)(f:∀a S,Bo K E ρ H (F a S) k->k' a S):Bo K E ρ H r k':=by
 cases r with
 | ok a S=>exact f a S h
 | err c S=>exact h
 | bad=>exact h
theorem Bo.later(h:Bo K E ρ H r k)(l:Le K ρ H ρ1 H1):Bo K E ρ1 H1 r k:=by
 cases r with
 | ok a S=>exact h
 | err c S=>exact λg i j=>h g i (l.trans j)
 | bad=>exact h
theorem Bo.imp(h:Bo K E ρ H r k)(f:∀a S,k a S->k' a S):Bo K E ρ H r k':=by
 cases r with
 | ok a S=>exact f a S h
 | err c S=>exact h
 | bad=>exact h
theorem Bo.go(h:Bo K E ρ H r k)(l:Le K ρ H ρ1 H1)(f:∀a S,k a S->k' a S):Bo K E ρ1 H1 r k':=(h.later l).imp f
end
noncomputable def okR{g:Type}:Res g->Res g
 | .ok a S=>.ok a S
 | _=>.bad
theorem Bo.okR{g:Type}{K:AC}{E:EH}{i:List AJ}{H:Hp}{r:Res g}{k:g->Sto->Prop}(h:Bo K E i H (L2.okR r) k):∃a S,r=.ok a S/\k a S:=by
 cases r with
 | ok a S=>exact⟨a,S,rfl,h⟩
 | err c S=>exact h.elim
 | bad=>exact h.elim
section
variable(K:AC)(E:EW)
noncomputable def gE(m:ME):TE:=λl H Q=>∃i e S,Eh K i H e l/\B1 K i S H/\Bo K (λc=>E c l) i H (m e S) λd o=>∀g j x,Le K i H g j->B1 K g o j->Bc K g j d x->Q x j
noncomputable def gT(m:MT):TT:=λl H Q=>∃i e S,Eh K i H e l/\B1 K i S H/\Bo K (λc=>E c l) i H (m e S) λb o=>∀g j,Le K i H g j->B1 K g o j->Q b j
noncomputable def gA(m:ML):TA:=λl H Q=>∃i e S,Eh K i H e l/\B1 K i S H/\Bo K (λc=>E c l) i H (m e S) λs A=>∀g j o,Le K i H g j->B1 K g A j->Aq K g j s o->Q o j
noncomputable def gL(m:ML):TE:=λl H Q=>∃j e S,Eh K j H e l/\B1 K j S H/\Bo K (λc=>E c l) j H (m e S) λs A=>∀g i p o,Le K j H g i->B1 K g A i->Aq K g i s o->i p=some (.lst o)->(∀n:Nat,g[n]?≠some p)->H p=none->Q (.ref p) i
noncomputable def gQ(m:ML):TE:=λo H Q=>∃j e S,Eh K j H e o/\B1 K j S H/\Bo K (λc=>E c o) j H (m e S) λs A=>∀g i p l,Le K j H g i->B1 K g A i->Aq K g i s l->(SqL K i p l∨SqT K i p l)->Q (.ref p) i
noncomputable def Sf(K:AC)(E:EW)(m:List AJ)(H:Hp)(o:Sto)(D:V7):Fl->Prop
 | .ex c l=>∀g i j,Le K m H g i->B1 K g o i->Eh K g i l j->E c j i
 | .nx l=>∀g i j,Le K m H g i->B1 K g o i->Eh K g i l j->D.nx j i
 | .bk l=>∀g i j,Le K m H g i->B1 K g o i->Eh K g i l j->D.bk j i
 | .ct l=>∀g i j,Le K m H g i->B1 K g o i->Eh K g i l j->D.ct j i
 | .rt d=>∀g i x,Le K m H g i->B1 K g o i->Bc K g i d x->D.rt x i
noncomputable def gS(m:MS):TS:=λD i H=>∃g e S,Eh K g H e i/\B1 K g S H/\Bo K noH g H (m e S) λj l=>Sf K E g H l D j
noncomputable def gG(m:MG):TG:=λv o H Q=>∃i e S d,Bc K i H d v/\Eh K i H e o/\B1 K i S H/\Bo K noH i H (m d e S) λs A=>∀g l j,Le K i H g l->B1 K g A l->Eh K g l s j->Q j l
noncomputable def Nc(l:List AJ)(s:Hp)(J:It)(v:Nd):Prop:=∀m H S o (i:Nat),Le K l s m H->B1 K m S H->v S=some o ->
 (o[i]?=none->J.stop i H)/\∀d,o[i]?=some d->J.go i H/\∀x j,J.yld i H x j->∃g,Le K m H g j/\B1 K g S j/\Bc K g j d x
noncomputable def gI(m:MI):TI:=λl H R=>∃i e S,Eh K i H e l/\B1 K i S H/\Bo K (λc=>E c l) i H (m e S) λv o=>∀g j J,Le K i H g j->B1 K g o j->Nc K g j J v->R J j
end
noncomputable abbrev GE(X:Cx)(E:EW)(e:Expr)(m:ME):Prop:=PE X e (gE X.K E m)
noncomputable abbrev GT(X:Cx)(E:EW)(e:Expr)(m:MT):Prop:=PT X e (gT X.K E m)
noncomputable abbrev GA(X:Cx)(E:EW)(es:List Expr)(m:ML):Prop:=PA X es (gA X.K E m)
noncomputable abbrev GL(X:Cx)(E:EW)(e:Expr)(m:ML):Prop:=PE X e (gL X.K E m)
noncomputable abbrev GQ(X:Cx)(E:EW)(e:Expr)(m:ML):Prop:=PE X e (gQ X.K E m)
noncomputable abbrev GS(X:Cx)(E:EW)(s:Dr)(m:MS):Prop:=PS X s (gS X.K E m)
noncomputable abbrev GSs(X:Cx)(E:EW)(s:List Dr)(m:MS):Prop:=PSs X s (gS X.K E m)
noncomputable abbrev GG(X:Cx)(t:Expr)(m:MG):Prop:=PG X t (gG X.K m)
noncomputable abbrev GI(X:Cx)(E:EW)(g t:Expr)(m:MI):Prop:=PI X g t (gI X.K E m)
theorem PE.imp(h:PE X e t)(i:∀g H Q,t' g H Q->t g H Q):PE X e t':=λj s g H Q I q=>h j s g H Q I (i g H Q q)
theorem PT.imp(h:PT X e t)(i:∀g H Q,t' g H Q->t g H Q):PT X e t':=λj s g H Q I q=>h j s g H Q I (i g H Q q)
theorem PW.imp(h:PW X e t)(i:∀g H Q,t' g H Q->t g H Q):PW X e t':=λj l s g H Q I q=>h j l s g H Q I (i g H Q q)
theorem PA.imp(h:PA X e t)(i:∀g H Q,t' g H Q->t g H Q):PA X e t':=λj l s g H Q I q=>h j l s g H Q I (i g H Q q)
theorem PS.imp(h:PS X e t)(i:∀D g H,t' D g H->t D g H):PS X e t':=λj s g H D I q=>h j s g H D I (i D g H q)
theorem PSs.imp(h:PSs X e t)(i:∀D g H,t' D g H->t D g H):PSs X e t':=λj s g H D I q=>h j s g H D I (i D g H q)
theorem PG.imp(h:PG X e t)(i:∀v g H Q,t' v g H Q->t v g H Q):PG X e t':=λj s g H v u Q I r q=>h j s g H v u Q I r (i v g H Q q)
theorem PI.imp(h:PI X j e t)(i:∀g H R,t' g H R->t g H R):PI X j e t':=λl s g H R I q=>h l s g H R I (i g H R q)
theorem OpR.imp(h:OpR X f r)(i:∀x y H Q,r' x y H Q->r x y H Q):OpR X f r':=λg s j H x y v u Q I l m q=>h g s j H x y v u Q I l m (i x y H Q q)
theorem IxR.imp(h:IxR X r)(i:∀x y H Q,r' x y H Q->r x y H Q):IxR X r':=λg sl j s l H x y v u Q I m o q=>h g sl j s l H x y v u Q I m o (i x y H Q q)
noncomputable def AQ(i:Nat):ME:=λe S=>match e[i]? with
 | some (some d)=>.ok d S
 | _=>.bad
noncomputable def mC(d:D):ME:=λ_ S=>.ok d S
section
variable{X:Cx}{E:EW}{e a b:Expr}{pos:Pos}{ma mb:ME}
theorem AF(h:PE X e (TZ i)):GE X E e (AQ i):=h.imp<|by
 rintro B H Q ⟨g,l,S,j,m,hm⟩
 unfold AQ at hm;split at hm
 ·rename_i C o
  obtain⟨v,s,A⟩:=j.at' i _ o;exact⟨v,s,hm g H v .refl m A⟩
 ·exact hm.elim
theorem YH(h:PE X e (tC v))(i:∀g H,Bc X.K g H d v):GE X E e (mC d):=h.imp<|by
 rintro m H Q ⟨g,l,S,o,j,hm⟩
 exact hm g H v .refl j (i _ _)
theorem ge_int{i j pos}:GE X E (.Constant (.int i) j pos) (mC (.int i)):=YH Z4 λ_ _=>.int i
theorem fx{b j pos}:GE X E (.Constant (.bool b) j pos) (mC (.bl b)):=YH lN λ_ _=>.bl b
theorem JX{j pos}:GE X E (.Constant .none j pos) (mC .non):=YH ie λ_ _=>.non
theorem CT{x j pos}:GE X E (.Constant (.str x) j pos) (mC (.str x)):=YH VZ λ_ _=>.str x
theorem P0(g:Gl X x)(hm:X.mg x=some (.int i tk))(j:(x==("__debug__" : Str))=false:=by decide):GE X E (.Name x pos) (mC (.int i)):=
 YH (K0 (v:=.int i) g hm ⟨tk,rfl⟩ j) λ_ _=>.int i
noncomputable def m2(f:D->D->Sto->Res D)(ma mb:ME):ME:=λe S=>(ma e S).bind λx g=>(mb e g).bind λy i=>okR (f x y i)
noncomputable def rD(K:AC)(f:D->D->Sto->Res D):R2:=λu v H Q=>∃i S x y d l,B1 K i S H/\Bc K i H x u/\Bc K i H y v/\f x y S=.ok d l /\
 ∀g j z,Le K i H g j->B1 K g l j->Bc K g j d z->Q z j
theorem Li{K:AC}{f:D->D->Sto->Res D}{o:St}{H:Hp}{Q:VK}(h:gE K E (m2 f ma mb) o H Q):tOp (rD K f) (gE K E ma) (gE K E mb) o H Q:=by
 obtain⟨B,l,S,s,C,hm⟩:=h;refine⟨B,l,S,s,C,hm.seq λx G hm g Z u i I J=>⟨g,l,G,s.mono i,I,(hm.later i).seq λy L hm j H2 v A N O=>?_⟩⟩;obtain⟨d,P,e,k⟩:=hm.okR;exact⟨j,L,x,y,d,P,N,J.mono A,O,e,λm R z T U Y=>k m R z (i.trans (A.trans T)) U Y⟩
theorem Az(ho:OpR X (DN op) (rD X.K f))(g:GE X E a ma)(hb:GE X E b mb):GE X E (.BinOp a op b pos) (m2 f ma mb):=(lL ho g hb).imp λ_ _ _ h=>Li h
theorem NZ(ho:OpR X (BG op) (rD X.K f))(g:GE X E a ma)(hb:GE X E b mb)(hm:Ck op b=false):GE X E (.Compare a [op] [b] pos) (m2 f ma mb):=(dj ho g hb hm).imp λ_ _ _ h=>Li h
theorem bJ(ho:IxR X (rD X.K f))(g:GE X E a ma)(hb:GE X E b mb)(i:Ss b:=by intro _ _;rfl):GE X E (.Subscript a b pos) (m2 f ma mb):=(lM ho g hb i).imp λ_ _ _ h=>Li h
noncomputable def mB(m:ME):MT:=λe S=>(m e S).bind λd g=>match d with
 | .bl b=>.ok b g
 | _=>.bad
theorem Sa(h:GE X E e ma)(j:∀g,gP e X.env g=(do let v <-g;standAt e.pos;holding [v] (truthy v)):=by intro _;rfl):GT X E e (mB ma):=(iP h j).imp<|by
 rintro I H Q ⟨m,l,S,o,s,hm⟩
 refine⟨m,l,S,o,s,hm.seq λd J hm i A x B C G=>?_⟩
 cases d <;> first | exact hm.elim | skip
 cases G;exact⟨_,rfl,hm i A B C⟩
theorem Bu{op}{f}(ho:OpR X (BG op) (rD X.K f))(i:GE X E a ma)(hb:GE X E b mb)(hm:Ck op b=false):GT X E (.Compare a [op] [b] pos) (mB (m2 f ma mb)):=(dQ ho i hb hm).imp<|by
 rintro I H Q ⟨j,l,S,m,o,hm⟩
 refine Li (Q:=λx s=>∃k,x=.bl k/\Q k s) ⟨j,l,S,m,o,hm.seq λd J hm g A x B C G=>?_⟩
 cases d <;> first | exact hm.elim | skip
 cases G;exact⟨_,rfl,hm g A B C⟩
noncomputable def Kd(m:MT):MT:=λe S=>(m e S).bind λb g=>.ok (!b) g
noncomputable def ON(ma mb:MT):MT:=λe S=>(ma e S).bind λb g=>if b=true then mb e g else .ok false g
noncomputable def mOr(ma mb:MT):MT:=λe S=>(ma e S).bind λb g=>if b=true then .ok true g else mb e g
variable{ta tb:MT}{rest:List Expr}
theorem II(h:GT X E a ta):GT X E (.UnaryOp .Not a pos) (Kd ta):=(iQ h).imp<|by
 rintro B H Q ⟨i,l,S,j,m,hm⟩
 exact⟨i,l,S,j,m,hm.seq λd C hm g o s A=>hm g o s A⟩
theorem c9{K}{m}{H}{Q}(h:gT K E (ON ta tb) m H Q):k8 (gT K E ta) (gT K E tb) m H Q:=by
 obtain⟨A,l,S,o,B,hm⟩:=h;refine⟨A,l,S,o,B,hm.seq λc C hm g G i s=>?_⟩
 cases c with
 | true=>rw[qX rfl]at hm ⊢;exact⟨g,l,C,o.mono i,s,hm.go i λ_ _ k j I J L=>k j I (i.trans J) L⟩
 | false=>rw[qY Ac]at hm ⊢;exact hm g G i s
theorem hZ{K}{m}{H}{Q}(h:gT K E (mOr ta tb) m H Q):tOr (gT K E ta) (gT K E tb) m H Q:=by
 obtain⟨A,l,S,o,B,hm⟩:=h;refine⟨A,l,S,o,B,hm.seq λc C hm g G i s=>?_⟩
 cases c with
 | false=>rw[qY Ac]at hm ⊢;exact⟨g,l,C,o.mono i,s,hm.go i λ_ _ k j I J L=>k j I (i.trans J) L⟩
 | true=>rw[qX rfl]at hm ⊢;exact hm g G i s
noncomputable abbrev GW(X:Cx)(E:EW)(e:Expr)(m:MT):Prop:=PW X e (gT X.K E m)
theorem Oi(g:GT X E a ta):GW X E (.BoolOp .And [a] pos) ta:=dP g
theorem HM(g:GT X E a ta):GW X E (.BoolOp .Or [a] pos) ta:=iN g
theorem Pz(g:GT X E a ta)(hb:GW X E (.BoolOp .And (b :: rest) pos) tb):GW X E (.BoolOp .And (a :: b :: rest) pos) (ON ta tb):=(iO g hb).imp λ_ _ _ h=>c9 h
theorem GM(g:GT X E a ta)(hb:GW X E (.BoolOp .Or (b :: rest) pos) tb):GW X E (.BoolOp .Or (a :: b :: rest) pos) (mOr ta tb):=(lH g hb).imp λ_ _ _ h=>hZ h
theorem Lu(h:GW X E e t):GT X E e t:=PW.pt h
noncomputable def Jt(ma mb:ME):ME:=λe S=>(ma e S).bind λd g=>match d with
 | .bl true=>mb e g
 | .bl false=>.ok (.bl false) g
 | _=>.bad
noncomputable def RF(ma:ME):ME:=λe S=>(ma e S).bind λd g=>match d with
 | .bl c=>.ok (.bl (!c)) g
 | _=>.bad
theorem Sd{op}(h:GE X E a ma):GE X E (.BoolOp op [a] pos) ma:=iZ h
theorem P1(s:GE X E a ma)(hb:GE X E (.BoolOp .And (b :: rest) pos) mb):GE X E (.BoolOp .And (a :: b :: rest) pos) (Jt ma mb):=(ij s hb).imp<|by
 rintro P H Q ⟨A,l,S,m,B,hm⟩
 refine⟨A,l,S,m,B,hm.seq λc C hm g G x i o I=>?_⟩
 cases c with
 | bl c=>
  cases I;refine⟨c,rfl,?_⟩
  cases c with
  | true=>rw[qX rfl];exact⟨g,l,C,m.mono i,o,hm.go i λ_ _ k j J z L N O=>k j J z (i.trans L) N O⟩
  | false=>rw[qY Ac];exact hm g G _ i o (.bl false)
 | _=>exact hm.elim
theorem bH(i:GE X E a ma):GE X E (.UnaryOp .Not a pos) (RF ma):=(ic i).imp<|by
 rintro G H Q ⟨j,l,S,m,o,hm⟩
 refine⟨j,l,S,m,o,hm.seq λc I hm g s x A B C=>?_⟩
 cases c with
 | bl c=>cases C;exact⟨c,rfl,hm g s _ A B (.bl _)⟩
 | _=>exact hm.elim
noncomputable def m3(f g:D->D->Sto->Res D)(ma mb j:ME):ME:=λe S=>(ma e S).bind λx l=>(mb e l).bind λy m=>(okR (f x y m)).bind λz i=>match z with
 | .bl true=>(j e i).bind λw o=>okR (g y w o)
 | .bl false=>.ok (.bl false) i
 | _=>.bad
noncomputable def Bk:ML:=λ_ S=>.ok [] S
noncomputable def Am(m:ME)(r:ML):ML:=λe S=>(m e S).bind λd g=>(r e g).bind λi j=>.ok (d :: i) j
variable{es:List Expr}{ml:ML}
theorem BI:GA X E [] Bk:=Eu.imp<|by
 rintro j H Q ⟨g,l,S,m,i,hm⟩
 exact hm g H [] .refl i .nil
theorem Ah(A:GE X E e ma)(B:GA X E es ml)(g:AO (e :: es) X.env=(false,Bi e X.env) :: AO es X.env:=by rfl):GA X E (e :: es) (Am ma ml):=(C6 A B g).imp<|by
 rintro R H Q ⟨C,l,S,o,g,hm⟩
 exact⟨C,l,S,o,g,hm.seq λd G hm i T x j I J=>⟨i,l,G,o.mono j,I,(hm.later j).seq λU Y hm m L N s O P=>hm m L (x :: N) (j.trans s) O (.cons (J.mono s) P)⟩⟩
noncomputable def Kc(m:ML):ME:=λe S=>(m e S).bind λg i=>if g.length<=sizeLine then .ok (.tup g) i else .bad
theorem FB{K}{g}{H}{S}{p}{ho}(i:B1 K g S H)(j:H p=none):B1 K g S (upd H p ho)/\Le K g H g (upd H p ho):=by
 have le:Le K g H g (upd H p ho):=Le.fresh j;refine⟨⟨i.len,i.nd,λn o a m l=>(i.ob n o a m l).mono le (A5 λz=>?_)⟩,le⟩;subst z;exact i.notIn j l
theorem JW{x1}(h:GA X E es ml):GE X E (.Tuple es x1 pos) (Kc ml):=(Z2 h).imp<|by
 rintro L H Q ⟨m,l,S,o,s,hm⟩
 refine⟨m,l,S,o,s,hm.seq λN O hm g P A B C i=>?_⟩;split at hm
 ·rename_i G
  refine⟨by rw[<-i.length];exact G,λp I=>?_⟩;obtain⟨J,j⟩:=FB (ho:=.tup A) C I;exact hm g _ _ (B.trans j) J (.tup BU (i.mono j))
 ·exact hm.elim
noncomputable def FM(m:ML):ML:=λe S=>(m e S).bind λg i=>if g.length<=sizeLine then .ok g i else .bad
theorem JV(h:GA X E es ml):GL X E (.List es pos) (FM ml):=(ig h).imp<|by
 rintro L H Q ⟨C,l,S,G,m,hm⟩
 refine⟨C,l,S,G,m,hm.seq λN O hm g P o s i A=>?_⟩;split at hm
 ·rename_i I
  refine⟨by rw[<-A.length];exact I,λp j=>?_⟩;obtain⟨J,B⟩:=FB (ho:=.lst o) i j;exact hm g _ p o (s.trans B) J (A.mono B) BU (λn q=>i.notIn j q) (s.back m i j)
 ·exact hm.elim
noncomputable def Ha(m:ML):ME:=λe S=>(m e S).bind λi g=>.ok (.ref g.length) (g++[.lst i])
theorem Fp(h:GL X E e ml):GE X E e (Ha ml):=PE.imp h<|by
 rintro R H Q ⟨s,l,S,A,B,hm⟩
 refine⟨s,l,S,A,B,hm.seq λC T hm g U p G i I J L N O=>?_⟩
 have m:∀(n:Nat) a,g[n]?=some a->(g++[p])[n]?=some a:=λn a h=>by rw[Af (AI.mp h).1];exact h
 obtain⟨P,j⟩:=I.adopt (o:=.lst C) N ⟨G,L,J.more m⟩;refine hm _ _ _ ⟨λn a h=>m n a (i.pre n a h),i.tup,i.frz,λa o e h=>⟨(i.oth a o e h).1,λn q=>?_⟩⟩ P (.ref j)
 rcases HN q with⟨q,_⟩ | ⟨_,q⟩
 ·exact(i.oth a o e h).2 n q
 ·exact BQ e O q
noncomputable def IE(d:D)(S:Sto):Option (List D):=match d with
 | .tup g=>some g
 | .fro g=>some g
 | .ref n=>match S[n]? with
  | some (.lst g)=>some g
  | _=>none
 | _=>none
noncomputable def Mj(m:ME):ML:=λe S=>(m e S).bind λd g=>match IE d g with
 | some i=>.ok i g
 | none=>.bad
theorem OZ{K}{g}{H}{S}{d}{x}{ds}(l:B1 K g S H)(r:Bc K g H d x)(h:IE d S=some ds):∃p xs,x=.ref p/\Aq K g H ds xs/\(SqL K H p xs∨SqT K H p xs):=by
 cases r with
 | tup i j=>cases h;exact⟨_,_,rfl,j,.inr (.inl (.inl i))⟩
 | fro i j=>cases h;exact⟨_,_,rfl,j,.inl i.sq⟩
 | @ref n a m=>
  obtain⟨o,s,A⟩:=l.there m;unfold IE at h;simp only[s]at h
  cases o with
  | lst es=>cases h;obtain⟨C,e,B⟩:=A;exact⟨_,_,rfl,B,.inl (.inl (.inl e))⟩
  | _=>cases h
 | _=>cases h
theorem Ww(h:GE X E e ma):GQ X E e (Mj ma):=PE.imp h<|by
 rintro L H Q ⟨m,l,S,o,s,hm⟩
 refine⟨m,l,S,o,s,hm.seq λx A hm g B v C j G=>?_⟩
 cases i:IE x A with
 | none=>rw[i]at hm;exact hm.elim
 | some N=>
  rw[i]at hm;obtain⟨p,I,rfl,J,sq⟩:=OZ j G i;exact hm g B p I C j J sq
end
noncomputable def Res.lift{g:Type}(r:Res g)(e:Lo)(f:g->Sto->Res Fl):Res Fl:=match r with
 | .ok a S=>f a S
 | .err c S=>.ok (.ex c e) S
 | .bad=>.bad
theorem Bo.lift{j:Type}{K:AC}{E:EW}{m g:List AJ}{H i:Hp}{o:St}{e:Lo}{D:V7}{r:Res j}{F:j->Sto->Res Fl}{k':j->Sto->Prop}(h:Bo K noH g i (r.lift e F) λs A=>Sf K E m H A D s)(G:Eh K g i e o)(l:Le K m H g i)
  (f:∀a S,(Bo K noH g i (F a S) λs A=>Sf K E m H A D s)->k' a S):Bo K (λc=>E c o) g i r k':=by
 cases r with
 | ok a S=>exact f a S h
 | err c S=>exact λB I C J=>h B I o (l.trans C) J (G.mono C)
 | bad=>exact h
noncomputable def sNx:MS:=λe S=>.ok (.nx e) S
noncomputable def Ti:MS:=λ_ _=>.bad
noncomputable def BP(a b:MS):MS:=λe S=>(a e S).bind λf g=>match f with
 | .nx i=>b i g
 | f=>.ok f g
noncomputable def Ic(m:ME):MS:=λe S=>(m e S).lift e λ_ g=>.ok (.nx e) g
noncomputable def DU(m:ME):MS:=λe S=>(m e S).lift e λd g=>.ok (.rt d) g
noncomputable def sIf(t:MT)(a b:MS):MS:=λe S=>(t e S).lift e λc g=>if c=true then a e g else b e g
noncomputable def iH(m:ME)(g:MG):MS:=λe S=>(m e S).lift e λd i=>(g d e i).bind λj l=>.ok (.nx j) l
noncomputable def tgN(i:Nat):MG:=λd e S=>.ok (e.set i (some d)) S
noncomputable def B5(i:Nat)(m:ME):MS:=iH m (tgN i)
section
variable{X:Cx}{E:EW}{st:Dr}{rest:List Dr}{e:Expr}{pos:Pos}{a b:MS}{t:MT}
theorem Sf.later{K}{s o}{H A}{S}{D}{f}(l:Le K s H o A)(h:Sf K E s H S D f):Sf K E o A S D f:=by
 cases f with
 | nx e=>exact λg j i m=>h g j i (l.trans m)
 | bk e=>exact λg j i m=>h g j i (l.trans m)
 | ct e=>exact λg j i m=>h g j i (l.trans m)
 | ex c e=>exact λg j i m=>h g j i (l.trans m)
 | rt d=>exact λg j x m=>h g j x (l.trans m)
theorem CI:GSs X E [] sNx:=dR.imp<|by
 rintro D g H ⟨i,l,S,j,m,hm⟩
 exact hm i H g .refl m j
theorem Ad(m:GS X E st a)(o:GSs X E rest b):GSs X E (st :: rest) (BP a b):=(Ts m o).imp<|by
 rintro D N H ⟨s,l,S,A,B,hm⟩
 refine⟨s,l,S,A,B,hm.seq λg C hm=>?_⟩
 cases g with
 | nx G=>exact λi O I j J L=>⟨i,G,C,L,J,hm.go j λ_ _ k=>k.later j⟩
 | rt d=>exact hm
 | bk d=>exact hm
 | ct d=>exact hm
 | ex c d=>exact hm
theorem Aw(g:GS X E st a):GSs X E [st] a:=Wi g
theorem Mp:GS X E st Ti:=(Zw (X:=X) (st:=st)).imp λD g H ⟨i,l,S,j,m,hm⟩=>hm.elim
theorem JU(s:GE X E e m)(g:EY e none pos.line X.env=pure false:=by rfl):GS X E (.Expr e pos) (Ic m):=(Wj s g).imp<|by
 rintro D A H ⟨B,l,S,i,g,hm⟩
 exact⟨B,l,S,i,g,hm.lift i .refl λd I hm j C x o G J=>hm j C A o G (i.mono o)⟩
theorem B6(j:GE X E e m):GS X E (.Return (some e) pos) (DU m):=(iS j).imp<|by
 rintro D I H ⟨o,l,S,i,s,hm⟩
 exact⟨o,l,S,i,s,hm.lift i .refl λd J hm g A x B C G=>hm g A x B C G⟩
theorem EO{c}{m o}(B:GT X E c t)(C:GSs X E m a)(hb:GSs X E o b):GS X E (.If c m o pos) (sIf t a b):=(lI B C hb).imp<|by
 rintro D J H ⟨G,l,S,j,I,hm⟩
 refine⟨G,l,S,j,I,hm.lift j .refl λc s hm i L g A=>?_⟩
 cases c with
 | true=>rw[qX rfl]at hm ⊢;exact⟨i,l,s,j.mono g,A,hm.go g λ_ _ k=>k.later g⟩
 | false=>rw[qY Ac]at hm ⊢;exact⟨i,l,s,j.mono g,A,hm.go g λ_ _ k=>k.later g⟩
theorem eW(h:PG X g (W1 i)):GG X g (tgN i):=h.imp<|by
 rintro v A H Q ⟨j,l,S,d,m,o,s,hm⟩
 exact hm j H _ .refl s (o.set m i)
theorem jZ{i}{x}{g}(B:X.N.Nodup)(hi:X.N[i]?=some x)(C:Loc X.env.scope x)(G:GE X E e m)(j:EY e (some (.Name x g)) pos.line X.env=pure false:=by rfl)
  (I:X.fn x=true∨X.env.scope.names.lookup x=some .local:=by first | exact .inl rfl | exact .inr rfl | assumption):GS X E (.Assign [.Name x g] e pos) (B5 i m):=(iR B hi C G j I).imp<|by
 rintro D Q H ⟨J,l,S,o,j,hm⟩
 exact⟨J,l,S,o,j,hm.lift o .refl λd R hm s L x A O P=>hm s L _ A O ((o.mono A).set P i)⟩
noncomputable def Gk(v:Nd)(g:MG)(b:MS):Nat->Nat->Lo->Sto->Res Fl
 | k,i,e,S=>match v S with
  | none=>.bad
  | some m=>match m[i]? with
   | none=>.ok (.nx e) S
   | some d=>match k with
    | 0=>.bad
    | k+1=>(g d e S).bind λo s=>(b o s).bind λf l=>match f with
     | .nx j=>Gk v g b k (i+1) j l
     | .ct j=>Gk v g b k (i+1) j l
     | .bk j=>.ok (.nx j) l
     | .rt d=>.ok (.rt d) l
     | .ex c j=>.ok (.ex c j) l
noncomputable def Cg(v:Nd)(S:Sto):Nat:=match v S with
 | none=>0
 | some g=>g.length
noncomputable def Ln(m:MI)(g:MG)(b:MS):MS:=λe S=>(m e S).lift e λv i=>Gk v g b (Cg v i) 0 e i
theorem JT{tg iter}{body}{mi}{g}(hp:Yl (AR X.prog X.w) X.A X.env X.xe)(hc:X.calm=true)(hi:GI X E tg iter mi)(hg:GG X tg g)(hb:GSs X E body b)
  (hs:∀x,Ei iter X.env x=pure x:=by intro _;rfl):GS X E (.For tg iter body [] pos) (Ln mi g b):=(iT hp hc hi hg hb hs).imp<|by
 rintro D σ H ⟨ρ,l,S,hl,hs,hm⟩
 refine⟨ρ,l,S,hl,hs,hm.lift hl .refl λv S1 hm L H1 J Y s1 vo=>?_⟩;refine⟨λi n N O=>∃m P C,Le X.K L H1 m O/\Eh X.K m O P N/\B1 X.K m C O/\Bo X.K noH m O (Gk v g b n i P C) λfl S'=>Sf X.K E ρ H S' D fl,⟨Cg v S1,L,l,S1,.refl,hl.mono Y,s1,hm.later Y⟩,?_⟩;rintro i n N O ⟨m,P,C,Q,r2,s2,j⟩;unfold Gk at j
 cases hv:v C with
 | none=>rw[hv]at j;exact j.elim
 | some ds=>
  rw[hv]at j;dsimp only at j;obtain⟨v1,v2⟩:=vo m O C ds i Q s2 hv
  cases hd:ds[i]? with
  | none=>
   rw[hd]at j;exact .inl ⟨v1 hd,j m O N (Y.trans Q) s2 r2⟩
  | some d=>
   rw[hd]at j;dsimp only at j;obtain⟨go,yl⟩:=v2 d hd
   cases n with
   | zero=>exact j.elim
   | succ n=>
    dsimp only at j;refine .inr ⟨go,λσ' R=>∃m P C,Le X.K L H1 m R/\Eh X.K m R P σ'/\B1 X.K m C R/\Bo X.K noH m R (Gk v g b n (i+1) P C) λfl S'=>Sf X.K E ρ H S' D fl,λσ' R q=>⟨n,Cb n,q⟩,λx R y=>?_⟩;obtain⟨ρ3,T,s3,rd⟩:=yl x R y;refine⟨ρ3,P,C,d,rd,r2.mono T,s3,(j.later T).seq λe3 S3 j ρ4 H4 σ4 Z s4 r4=>?_⟩;refine⟨ρ4,e3,S3,r4,s4,(j.later Z).seq λf4 S4 j=>?_⟩
    cases f4 with
    | nx e5=>exact λo U s B G I=>⟨o,e5,S4,Q.trans (T.trans (Z.trans B)),I,G,j.later B⟩
    | ct e5=>exact λo U s B G I=>⟨o,e5,S4,Q.trans (T.trans (Z.trans B)),I,G,j.later B⟩
    | bk e5=>exact λo U s B G I=>j o U s (Y.trans (Q.trans (T.trans (Z.trans B)))) G I
    | ex c e5=>exact λo U s B G I=>j o U s (Y.trans (Q.trans (T.trans (Z.trans B)))) G I
    | rt d5=>exact λo U x5 B G I=>j o U x5 (Y.trans (Q.trans (T.trans (Z.trans B)))) G I
end
section
variable{X:Cx}{E:EW}{tg e:Expr}{m:ME}{K:AC}
noncomputable def Hd(d:D):Nd:=λS=>match d with
 | .ref n=>match S[n]? with
  | some (.lst g)=>some g
  | _=>none
 | .fro g=>some g
 | _=>none
noncomputable def He(ds:List D):Nd:=λ_=>some ds
noncomputable def mF(m:ME):MI:=λe S=>(m e S).bind λd g=>match Hd d g with
 | some _=>.ok (Hd d) g
 | none=>.bad
noncomputable def fv(m:ME):MI:=λe S=>(m e S).bind λd g=>match d with
 | .tup i=>.ok (He i) g
 | _=>.bad
theorem O8(s:B1 K i S H)(r:Bc K i H d (.ref a))(g:Hd d S=some ds):∃xs,SqL K H a xs/\Aq K i H ds xs:=by
 cases r with
 | tup j l=>cases g
 | exc _ _=>cases g
 | fro j l=>cases g;exact⟨_,j.sq,l⟩
 | @ref n _ A=>
  obtain⟨o,B,C⟩:=s.there A;unfold Hd at g;simp only[B]at g
  cases o with
  | lst J=>
   cases g;obtain⟨G,e,I⟩:=C;exact⟨G,.inl (.inl e),I⟩
  | _=>cases g
theorem O7(r:Bc K B H d (.ref a)):Nc K B H (Itl K a) (Hd d):=by
 intro g N S O i l s C;obtain⟨j,sq,o⟩:=O8 s (r.mono l) C;refine⟨λG=>⟨j,sq,by rw[<-o.length];exact DL.mp G⟩,λd I=>?_⟩;obtain⟨x,A,J⟩:=o.get I;refine⟨⟨j,x,sq,A⟩,λy P ⟨e,L⟩=>?_⟩;subst e;have:=L j sq;rw[A]at this;cases this;exact⟨g,.refl,s,J⟩
theorem jc(h:GE X E e m):GI X E tg e (mF m):=(dZ h).imp<|by
 rintro L H R ⟨s,l,S,A,B,hm⟩
 refine⟨s,l,S,A,B,hm.seq λd C hm i G x I o j=>?_⟩
 cases g:Hd d C with
 | none=>rw[g]at hm;exact hm.elim
 | some N=>
  rw[g]at hm
  have:∃a,x=.ref a:=by
   cases j <;> first | exact⟨_,rfl⟩ | (cases g;done)
  obtain⟨a,rfl⟩:=this;obtain⟨J,sq,_⟩:=O8 o j g;exact⟨a,rfl,⟨J,sq⟩,hm i G _ I o (O7 j)⟩
theorem U4(A:H a=some (.tup xs))(B:Aq K C H ds xs):Nc K C H (Itt K a) (He ds):=by
 intro g G S P i l s I;cases I;have j:=B.mono l;have sq:SqT K G a xs:=.inl (.inl (l.tup _ _ A));refine⟨λJ=>⟨xs,sq,by rw[<-j.length];exact DL.mp J⟩,λd L=>?_⟩;obtain⟨x,o,N⟩:=j.get L;refine⟨⟨xs,x,sq,o⟩,λy Q ⟨e,O⟩=>?_⟩;subst e;have:=O xs sq;rw[o]at this;cases this;exact⟨g,.refl,s,N⟩
theorem ja(h:GE X E e m):GI X E tg e (fv m):=(iV h).imp<|by
 rintro J H R ⟨j,l,S,o,s,hm⟩
 refine⟨j,l,S,o,s,hm.seq λd L hm g A x B C G=>?_⟩
 cases d <;> first | exact hm.elim | skip
 cases G with
 | tup i I=>exact⟨_,rfl,⟨_,.inl (.inl i)⟩,hm g A _ B C (U4 i I)⟩
noncomputable def HI(lo:Int)(n:Nat):List D:=(Bd n).map λi:Nat=>D.int (lo+i)
theorem Q9(lo:Int)(n i:Nat):(HI lo n)[i]?=if i < n then some (.int (lo+i))else none:=by
 unfold HI;rw[At]
 by_cases h:i < n
 ·rw[Dh h,qX h];rfl
 ·rw[qY h,DL.mpr (by simpa using h)];rfl
theorem O6(lo:Int)(n:Nat):Nc K C H (Itr lo n) (He (HI lo n)):=by
 intro g G S I i l s A;cases A;rw[Q9];refine⟨λo=>?_,λd j=>?_⟩
 ·split at o
  ·cases o
  ·rename_i h;exact Oz h
 ·split at j
  ·rename_i h
   cases j;refine⟨h,λy J ⟨e,B⟩=>?_⟩;subst e;subst B;exact⟨g,.refl,s,.int _⟩
  ·cases j
noncomputable def iR1(ml:ML):MI:=λe S=>(ml e S).bind λg i=>match g with
 | [.int j]=>if -(2 ^ 62)<=j/\j < 2 ^ 62 then .ok (He (HI 0 j.toNat)) i else .bad
 | _=>.bad
noncomputable def iR2(ml:ML):MI:=λe S=>(ml e S).bind λg l=>match g with
 | [.int i,.int j]=>if -(2 ^ 62)<=i/\i < 2 ^ 62/\-(2 ^ 62)<=j/\j < 2 ^ 62 then .ok (He (HI i (j - i).toNat)) l else .bad
 | _=>.bad
theorem NX(s:Gl X "range") (hm:X.mg "range" = none) (A:GA X E [a] ml) (g:AO [a] X.env=[(false,Bi a X.env)]:=by rfl):GI X E tg (.Call (.Name "range" p) [a] [] pos) (iR1 ml):=(Xy s hm A g).imp<|by
 rintro N H R ⟨B,l,S,C,g,hm⟩
 refine⟨B,l,S,C,g,hm.seq λO P hm i G Q I J L=>?_⟩;split at hm
 ·rename_i j
  split at hm
  ·rename_i o
   cases L with
   | cons r t=>
    cases t;cases r;exact⟨j,rfl,o.1,o.2,hm i G _ I J (O6 0 j.toNat)⟩
  ·exact hm.elim
 ·exact hm.elim
theorem YG(s:Gl X "range") (hm:X.mg "range" = none) (A:GA X E [a,b] ml) (g:AO [a,b] X.env=[(false,Bi a X.env),(false,Bi b X.env)]:=by rfl) (B:AO [b] X.env=[(false,Bi b X.env)]:=by rfl) :
  GI X E tg (.Call (.Name "range" p) [a,b] [] pos) (iR2 ml):=(Xx s hm A g B).imp<|by
 rintro Q H R ⟨C,l,S,G,g,hm⟩
 refine⟨C,l,S,G,g,hm.seq λT U hm o I Y J L N=>?_⟩;split at hm
 ·rename_i i j
  split at hm
  ·rename_i O
   cases N with
   | cons r t=>
    cases t with
    | cons P t=>
     cases t;cases r;cases P;exact⟨i,j,rfl,O,hm o I _ J L (O6 i _)⟩
  ·exact hm.elim
 ·exact hm.elim
end
noncomputable def LR:List D->Lo->Sto->Res Lo
 | [],e,S=>.ok e S
 | _,_,_=>.bad
noncomputable def Dm(g:MG)(r:List D->Lo->Sto->Res Lo):List D->Lo->Sto->Res Lo
 | d :: i,e,S=>(g d e S).bind λj l=>r i j l
 | [],_,_=>.bad
noncomputable def KN(n:Nat)(r:List D->Lo->Sto->Res Lo):MG:=λd e S=>match d with
 | .tup g=>if g.length=n then r g e S else .bad
 | _=>.bad
section
variable{X:Cx}
noncomputable def gGs(K:AC)(r:List D->Lo->Sto->Res Lo):TGs:=λo s H Q=>∃i e S m,Aq K i H m o/\Eh K i H e s/\B1 K i S H/\Bo K noH i H (r m e S) λA B=>∀g l j,Le K i H g l->B1 K g B l->Eh K g l A j->Q j l
noncomputable abbrev GGs(X:Cx)(ts:List Expr)(r:List D->Lo->Sto->Res Lo):Prop:=PGs X ts (gGs X.K r)
theorem PGs.imp(h:PGs X ts t)(i:∀g j H Q,t' g j H Q->t g j H Q):PGs X ts t':=λl s j H g m Q I r q=>h l s j H g m Q I r (i g j H Q q)
theorem Ol:GGs X [] LR:=da.imp<|by
 rintro A i H Q ⟨j,l,S,g,m,o,s,hm⟩
 cases g with
 | nil=>cases m;exact⟨rfl,hm j H i .refl s o⟩
 | cons d g=>exact hm.elim
theorem GN(B:GG X e g)(C:GGs X es r)
  (i:(Fc (e :: es) X.env).map (·.2)=Ul e X.env :: (Fc es X.env).map (·.2):=by rfl):GGs X (e :: es) (Dm g r):=(Z1 B C i).imp<|by
 rintro vs σ H Q ⟨E,l,S,j,G,I,i,hm⟩
 cases j with
 | nil=>exact hm.elim
 | cons d j=>
  cases G with
  | cons J L=>
   exact⟨_,_,rfl,E,l,S,d,J,I,i,hm.seq λN O hm m H1 P o R T=>⟨m,N,O,j,L.mono o,T,R,hm.go o λ_ _ k s U A Y Z r2=>k s U A (o.trans Y) Z r2⟩⟩
theorem Sb(j:X.calm=true)(h:GGs X es r)
  (m:(Fc es X.env).length=n:=by rfl) (o:(Fc es X.env).findIdx? (·.1)=none:=by rfl):GG X (.Tuple es k pos) (KN n r):=(iX j h m o).imp<|by
 rintro v I H Q ⟨s,l,S,d,A,B,C,hm⟩
 cases d <;> first | exact hm.elim | skip
 rename_i E
 cases A with
 | tup G i=>
  unfold KN at hm;dsimp only at hm;split at hm
  ·rename_i g
   exact⟨_,_,rfl,.inl (.inl G),by rw[<-i.length];exact g,s,l,S,E,i,B,C,hm⟩
  ·exact hm.elim
end
noncomputable def spM(K:AC)(n:Nat)(f:List D->Sto->Res D):Sp:=λm H Q E=>∃j l S,l.length=n/\Aq K j H l m/\B1 K j S H/\Bo K (λc i=>E (.ref c) none i) j H (f l S) λd o=>
 ∀g i x,Le K j H g i->B1 K g o i->Bc K g i d x->Q x i
theorem spM.len{K}{n}{f}{g}{H}{Q}{E}(h:spM K n f g H Q E):g.length=n:=by
 obtain⟨l,m,S,i,j,_⟩:=h;rw[<-j.length];exact i
noncomputable def CM(n:Nat)(f:List D->Sto->Res D)(m:ML):ME:=λe S=>(m e S).bind λg i=>if g.length=n then f g i else .bad
noncomputable def RG(C:AJ)(n:Nat)(f:List D->Sto->Res D)(m:ML):ME:=λe S=>(m e S).bind λi g=>if i.length+1=n then(f (.ref g.length :: i) (g++[.ins C []])).bind (λd j=>match d with
  | .non=>.ok (.ref g.length) j
  | _=>.bad)else .bad
noncomputable def Xb(E:EW)(g:St):XK:=λv o H=>o=none/\∃c,v=.ref c/\E c g H
section
variable{X:Cx}{E:EW}{k n:Nat}{x:Str}{e:Expr}{es:List Expr}
theorem Bo.xk{m:Type}{K:AC}{o:St}{A g:List AJ}{H B:Hp}{r:Res m}{k k':m->Sto->Prop}(h:Bo K (λc=>E c o) A H r k)(l:Le K A H g B)(f:∀a S,k a S->k' a S):Bo K (λc i=>Xb E o (.ref c) none i) g B r k':=by
 cases r with
 | ok a S=>exact f a S h
 | err c S=>exact λj i C s=>⟨rfl,c,rfl,h j i (l.trans C) s⟩
 | bad=>exact h
theorem CJ(F:D0 X.prog X.w X.K X.mg X.base CX k f fd ps (spM X.K n g))(s:L6 CX X (Xb E))(B:Fx k X.A)(C:Gl X x)(hm:X.mg x=some (.ref f))(G:E5 X.K (.ref f)=true)(hb:Binds X.K fd ps [])
  (I:GA X E (e :: es) ml) (J:(x==("__debug__" : Str))=false:=by decide) (L:AO (e :: es) X.env=(false,Bi e X.env) :: AO es X.env:=by rfl) (N:(CN pos (AO es X.env)).any (·.1)=false:=by rfl) :
  GE X E (.Call (.Name x p) (e :: es) [] pos) (CM n g ml):=(dk (E:=Xb E) F B C hm G hb .nil s I J L N).imp<|by
 rintro σ H Q ⟨O,l,S,P,R,hm⟩
 refine⟨O,l,S,P,R,hm.seq λT U hm j H1 xs o Y Z=>?_⟩;split at hm
 ·rename_i i
  rw[BV];exact⟨j,T,U,i,Z,Y,hm.xk o λ_ _ k m H' z l' s' r'=>k m H' z (o.trans l') s' r'⟩
 ·exact hm.elim
theorem ef(M:Mk X.K C f)(F:D0 X.prog X.w X.K X.mg X.base CX k f fd ps (spM X.K n g))(P:L6 CX X (Xb E))(R:Fx (k+1) X.A)(T:Gl X x)(hm:X.mg x=some (.ref C))(hb:Binds X.K fd ps [])
  (j:GA X E (e :: es) ml) (U:(x==("__debug__" : Str))=false:=by decide) (Y:AO (e :: es) X.env=(false,Bi e X.env) :: AO es X.env:=by rfl) (Z:(CN pos (AO es X.env)).any (·.1)=false:=by rfl) :
  GE X E (.Call (.Name x p) (e :: es) [] pos) (RG C n g ml):=(df (E:=Xb E) M F R T hm hb .nil P j U Y Z).imp<|by
 rintro σ H Q ⟨ρ,l,S,hl,hs,hm⟩
 refine⟨ρ,l,S,hl,hs,hm.seq λds J hm m H1 xs L s1 r1 a s j vb oM=>?_⟩;split at hm
 ·rename_i i
  rw[BV];obtain⟨s2,B⟩:=FB (ho:=.own a) s1 vb
  have zK:upd H1 s (.own a) a=none:=by rw[A5 (B8 oM)];exact j
  obtain⟨s3,G,N⟩:=s2.alloc (p:=a) (ho:=.ins C s []) (o:=.ins C []) zK ⟨s,[],BU,.nil⟩;refine⟨m++[a],.ref J.length :: ds,J++[.ins C []],by simpa using i,.cons (.ref N) (r1.mono (B.trans G)),s3,Bo.xk (hm.seq λz S2 hm=>hm) (L.trans (B.trans G)) λz S2 hm I H' y O s' r'=>?_⟩
  cases z <;> first | exact hm.elim | skip
  cases r';exact⟨rfl,hm I H' _ (L.trans (B.trans (G.trans O))) s' (.ref (O.pre _ _ N))⟩
 ·exact hm.elim
end
theorem KVR.lookup{K}{i}{H}(f:Str):∀{x:List (Str×D)} {y:List (Str×V)} {d:D},KVR K i H x y->x.lookup f=some d->∃v,y.lookup f=some v/\Bc K i H d v
 | _,_,_,.nil,h=>by simp at h
 | (g,a) :: x,(o,b) :: y,d,.cons r t,h=>by
  obtain⟨j,l⟩:=r;dsimp only at j l;subst j;rw[BM]at h ⊢
  cases m:(f==g)with
  | true=>rw[m]at h;cases h;exact⟨b,rfl,l⟩
  | false=>rw[m]at h;exact KVR.lookup f t h
noncomputable def OI(f:Str)(v:D):List (Str×D)->List (Str×D)
 | []=>[(f,v)]
 | (g,x) :: r=>if g=f then(g,v) :: r else(g,x) :: OI f v r
theorem KVR.putF{K}{j}{H}(f:Str){d}{v}(l:Bc K j H d v):∀{x:List (Str×D)} {y:List (Str×V)},KVR K j H x y->KVR K j H (OI f d x) (putF f v y)
 | _,_,.nil=>.cons ⟨rfl,l⟩ .nil
 | (g,a) :: x,(s,b) :: y,.cons r t=>by
  obtain⟨m,o⟩:=r;dsimp only at m o;subst m;unfold OI L2.putF
  by_cases i:g=f
  ·rw[qX i,qX i];exact .cons ⟨rfl,l⟩ t
  ·rw[qY i,qY i];exact .cons ⟨rfl,o⟩ (KVR.putF f l t)
theorem KVR.length{g:Type}{K:AC}{i:List AJ}{H:Hp}{x:List (g×D)}{y:List (g×V)}(h:KVR K i H x y):x.length=y.length:=Ep h
noncomputable def Qi(C:AJ)(f:Str)(m:ME):ME:=λe S=>(m e S).bind λd g=>match d with
 | .ref n=>match g[n]? with
  | some (.ins i fs)=>if i=C then(match fs.lookup f with | some v=>.ok v g | none=>.bad)else .bad
  | _=>.bad
 | _=>.bad
noncomputable def Q8(C:AJ)(f:Str)(mo mv:ME):MS:=λe S=>(mv e S).lift e λv i=>(mo e i).lift e λd g=>match d with
 | .ref n=>match g[n]? with
  | some (.ins j fs)=>if j=C/\fs.length < 1000 then .ok (.nx e) (g.set n (.ins C (OI f v fs)))else .bad
  | _=>.bad
 | _=>.bad
section
variable{X:Cx}{E:EW}{o e value:Expr}{m mv:ME}
theorem Vq(A:Cls X.K C)(B:HU X.K C f)(G:GE X E e m)(hb:EZ e f X.env (Bi e X.env)=Bi e X.env:=by rfl):GE X E (.Attribute e f pos) (Qi C f m):=(ii G hb).imp<|by
 rintro σ H Q ⟨I,l,S,J,L,hm⟩
 refine⟨I,l,S,J,L,hm.seq λx N hm i O v P s R=>?_⟩
 cases x <;> first | exact hm.elim | skip
 rename_i n;dsimp only at hm
 cases g:N[n]? with
 | none=>rw[g]at hm;exact hm.elim
 | some T=>
  rw[g]at hm
  cases T <;> first | exact hm.elim | skip
  rename_i C' fs;dsimp only at hm;split at hm
  ·rename_i U
   rw[U]at g
   cases R with
   | ref Y=>
    obtain⟨Z,qU,e1,e2⟩:=s.ob n _ _ g Y
    cases j:fs.lookup f with
    | none=>rw[j]at hm;exact hm.elim
    | some w=>
     rw[j]at hm;obtain⟨v,h3,h4⟩:=KVR.lookup f e2 j;exact⟨_,_,Z,qU,v,rfl,e1,A,B,h3,hm i O v P s h4⟩
  ·exact hm.elim
theorem Vo(Y:Cls X.K C)(Z:HU X.K C f)(ha:GE X E o m)(hv:GE X E value mv)(G:EY value (some (.Attribute o f j)) pos.line X.env=pure false:=by rfl):GS X E (.Assign [.Attribute o f j] value pos) (Q8 C f m mv):=(iU ha hv G).imp<|by
 rintro D σ H ⟨ρ,l,S,s,G,hm⟩
 refine⟨ρ,l,S,s,G,hm.lift s .refl λv S1 hm I H1 y i s1 r1=>⟨I,l,S1,s.mono i,s1,(hm.later i).lift (s.mono i) i λx S2 hm g P u J Q r2=>?_⟩⟩
 cases x <;> first | exact hm.elim | skip
 rename_i n;dsimp only at hm
 cases ho:S2[n]? with
 | none=>rw[ho]at hm;exact hm.elim
 | some ob=>
  rw[ho]at hm
  cases ob <;> first | exact hm.elim | skip
  rename_i C' fs;dsimp only at hm;split at hm
  ·rename_i L
   obtain⟨L,A⟩:=L;rw[L]at ho
   cases r2 with
   | ref N=>
    obtain⟨B,O,R,T⟩:=Q.ob n _ _ ho N;have le:Le X.K g P g (upd P _ (.ins C B (putF f y O))):=Le.write N (by rw[R];trivial);obtain⟨s3,U⟩:=Q.write (ho:=.ins C B (putF f y O)) (o:=.ins C (OI f v fs)) N ⟨B,_,BU,(KVR.putF f (r1.mono J) T).mono le⟩ le;refine⟨_,C,B,O,rfl,R,Y,Z,by rw[<-KVR.length T];exact A,?_⟩;exact hm g _ σ (i.trans (J.trans U)) s3 (s.mono (i.trans (J.trans U)))
  ·exact hm.elim
end
theorem CK.get(x:CK P w H h a o):∃u,h.get? a=some u:=by
 cases o with
 | lst g=>obtain⟨_,_,_,_,e⟩:=x;exact⟨_,e⟩
 | tup g=>obtain⟨_,_,_,o,e,_⟩:=x;exact⟨_,e⟩
 | dK i=>obtain⟨_,_,_,_,o,_,_,e,_⟩:=x;exact⟨_,e⟩
 | dT i=>obtain⟨_,_,_,_,o,_,_,e,_⟩:=x;exact⟨_,e⟩
 | set S n=>obtain⟨o,_,_,_,e,_⟩:=x;exact⟨_,e⟩
 | ins C j fs=>obtain⟨_,_,_,e,_⟩:=x;exact⟨_,e⟩
 | own y=>exact x
 | xd fs=>obtain⟨_,⟨_,_,_,e,_⟩,_⟩:=x;exact⟨_,e⟩
 | rng lo l=>obtain⟨_,_,_,e⟩:=x;exact⟨_,e⟩
 | frz m u=>obtain⟨e,_⟩:=x;exact⟨_,e⟩
 | tbl s=>exact⟨_,(show h.get? a=some _ from x)⟩
 | met f y=>exact⟨_,(show h.get? a=some _ from x)⟩
 | ext A=>obtain⟨_,e,_⟩:=x;exact e
noncomputable def Qr(Nw:AJ->Prop)(F:Option AD->Prop)(g C:AJ)(H:Hp)(h:Bt):Prop:=
 H g=none/\Nw g/\∃(i:Obj) (j:Array AD) (s:AD),h.get? g=some i/\i.cls=.ref (C % M64)/\(QF C H i.dict/\i.data=.fields j)/\j[0]?=some s /\
  ((F none/\j[1]?=some .none)∨∃(T:AJ) (l:Obj) (m:Array AD) (o:AD),F (some o)/\j[1]?=some (.ref T)/\T≠g/\H T=none/\Nw T/\h.get? T=some l/\l.data=.fields m/\m[3]?=some o)
theorem Qr.imp(x:Qr Nw F g C H h)(f:∀o,F o->G o):Qr Nw G g C H h:=by
 obtain⟨i,j,l,m,s,A,B,E,I,J⟩:=x;refine⟨i,j,l,m,s,A,B,E,I,?_⟩
 rcases J with⟨a,b⟩ | ⟨T,L,N,O,a,b⟩
 ·exact .inl ⟨f _ a,b⟩
 ·exact .inr ⟨T,L,N,O,f _ a,b⟩
structure Ik(X:Cx):Prop where
 st:X.stack=X.env :: X.outer
 fr:X.env.frame=some X.env.locals
 ex:X.ex=[]
noncomputable def Nw(X:Cx)(b:AJ):Prop:=X.s₀.heap.get? b=none/\∀p∈X.pn,p.1≠b
section
variable{X:Cx}{σ:St}{H:Hp}{s:AG}{h':Bt}{ea C:AJ}{F:Option AD->Prop}
theorem Inv.old(I:Inv X j σ H s)(O:Ik X)(e:s.heap.get? b=none):H b=none/\Nw X b:=by
 refine⟨?_,?_,λp i z=>?_⟩
 ·cases q:H b with
  | none=>rfl
  | some u=>
   obtain⟨o,g⟩:=(I.hok b u q).get;rw[e]at g;cases g
 ·cases q:X.s₀.heap.get? b with
  | none=>rfl
  | some o=>
   obtain⟨l,g⟩:=I.base.there b o q (by rw[O.ex];simp);rw[e]at g;cases g
 ·have:=(I.pin p (Eb _ i)).1
  rw[z,e]at this;cases this
theorem Inv.recs(I:Inv X [] σ H s)(O:Ik X)(i:∀b∈ch,H b=none/\Nw X b/\∃o A,s.heap.get? b=some o/\o.data=.fields A)
  (st:(Jn s.heap (frs X.stack++ch)).StaysIn h') (up:s.heap.UpToSlots h'):Inv X [] σ H { s with heap:=h' }:=by
 have B:∀b o,b∉frs X.stack->b∉ch->s.heap.get? b=some o->h'.get? b=some o:=λb o J L e=>
  st b o (UX _ e λz=>(Ax.mp z).elim J L)
 have N:∀b∈ch,b≠X.env.locals:=λb hb z=>by
  obtain⟨_,_,o,A,e,d⟩:=i b hb;obtain⟨m,⟨E,T,U,g,l,_⟩,_⟩:=I.loc;rw[z,g]at e;cases e;rw[l]at d;cases d
 have P:∀b∈ch,∀x c,X.env.cells.lookup x=some c->c≠b:=λb hb x c q z=>by
  obtain⟨_,_,o,A,e,d⟩:=i b hb;obtain⟨v,E,g,l⟩:=I.cell x c q;rw[z,e]at g;cases g;rw[d]at l;cases l
 refine I.stepN (g':=s.gens) (t':=s.toks) (d':=s.drawn) (ch:=ch) (λb hb=>⟨.inr (i b hb).2.1.1,N b hb,P b hb,λp Q=>(i b hb).2.1.2 p (by rwa [BV]at Q)⟩)
  (λb o R j G e _=>B b o (λz=>(An.mp (I.stkSub b z)).elim R j) G e) (λb o _ S _ e _=>?_) (λ_ _ _ _ n=>n) (λb o G e=>?_) (λ_ _ q=>q) (λ_ _ _ q=>q) (λb Y q=>⟨#[],by rw[q];simp⟩) (λm hm=>up.ns hm) (λa o e=>?_) I.bare
 ·obtain⟨E,g,j⟩:=(I.funs.mem S).2
  rw[e]at g;cases g;exact up b o e j
 ·by_cases hb:b∈frs X.stack
  ·obtain⟨E,g,j⟩:=(I.stack.mem hb).2
   rw[e]at g;cases g;obtain⟨sl,q⟩:=up b o e j;exact⟨_,q⟩
  ·exact⟨o,B b o hb G e⟩
 ·have tr:∀b u,H b=some u->∀v,s.heap.get? b=some v->h'.get? b=some v:=λb u q v r=>
   B b v (λz=>by rw[I.stkFree b z]at q;cases q) (λz=>by rw[(i b z).1]at q;cases q) r
  refine(I.hok a o e).stay (λb u hb q=>?_) (λ_ q=>q) λ_ _ q=>q
  rcases hb with z | z
  ·subst z;exact tr _ _ e u q
  ·exact tr _ _ z u q
noncomputable abbrev bB(X:Cx)(h:Bt)(ch:List AJ):Bt:=Jn h (frs X.stack++ch)
theorem RM(hb:b∈ch):(bB X h ch).get? b=none:=KH _ (A8 _ hb)
theorem Kn(f:Array AD->Array AD)(o:Obj):(Ce f o).dict=o.dict:=by
 obtain⟨c,d,g,sl⟩:=o
 cases g <;> rfl
theorem UC
  (Z:A.frames=some (env :: g)) (I:s.heap.FunFrames base (env :: g)) (hf:env.frame=some L) (J:s.heap.get? e=some oe) (B:oe.data=.fields N) (hsz:1 < N.size)
  (k:∀j T O ts,T≠e->s.heap.get? T=none->(∀b o,b≠e->b∉frs (env :: g)->s.heap.get? b=some o->j.get? b=some o)->(∀b o,b≠e->s.heap.get? b=some o->∃sl,j.get? b=some { o with slots:=sl }) ->
   j.get? e=some (Ce (·.setIfInBounds 1 (.ref T)) oe)->j.get? T=some O->O.data=.fields ts->ts[3]?=some (EA L)->Q () { s with heap:=j }) :
  AZ M A (do let a <-frameOf env;let pl <-entryPlaceOf L hadNext;let b <-Rr head a .none (EA L) .none pl;cI (.ref e) 1 b) Q E s:=by
 have vM:e∉frs (env :: g):=λz=>by
  obtain⟨_,o,P,G⟩:=I.mem z;rw[J]at P;cases P;exact G N B
 refine AA (wpAny_frameOf_fun Z I hf λi m=>AA (wpAny_entryPlaceOf λpl R=>?_));unfold Rr newFields;refine AA (CP ?_ (R.sizeOk5 _ _ _ _ _));have S:i.get? e=some oe:=(m.2.1 e vM).trans J;have U:=AB (h:=i) { cls:=.type "traceback",dict:=none,data:=.fields ([head,.ref L,.none,EA L,.none]++(if pl.isEmpty then A7 6 BY else pl)).toArray } S;refine Iq U B hsz ?_;have Y:i.objs.size≠e:=Fe (AV S);have dd:=Ca B (·.setIfInBounds 1 (Ai i.objs.size))
 have old:∀b o,b≠e->i.get? b=some o->((i.push { cls:=.type "traceback",dict:=none,data:=.fields ([head,.ref L,.none,EA L,.none]++(if pl.isEmpty then A7 6 BY else pl)).toArray }).update e (Ce (·.setIfInBounds 1 (Ai i.objs.size)))).get? b=some o:=λb o l q=>by
  rw[Cy _ _ (B8 l)];exact AB _ q
 refine k _ i.objs.size { cls:=.type "traceback",dict:=none,data:=.fields ([head,.ref L,.none,EA L,.none]++(if pl.isEmpty then A7 6 BY else pl)).toArray } _ Y (Gp (Uu m.1.symm)) (λb o l G q=>old b o l ((m.2.1 b G).trans q)) (λb o l q=>?_) (DB _ U (GU dd)) ?_ rfl ?_
 ·obtain⟨sl,z⟩:=m.2.2 b o q
  exact⟨sl,old b _ l z⟩
 ·rw[Cy _ _ (B8 Y)]
  exact AX i rfl
 ·rcases R with rfl | ⟨_,_,_,_,_,_,_,rfl⟩ <;> simp
theorem Td(keep:∀b o,b∉frs X.stack->b∉ch->h.get? b=some o->h'.get? b=some o):(bB X h ch).StaysIn h':=λb o q=>by
 have hb:b∉frs X.stack++ch:=λz=>by
  have:=KH (h:=h) (frs X.stack++ch) z;rw[show(bB X h ch).get? b=(Jn h (frs X.stack++ch)).get? b from rfl,this]at q;cases q
 exact keep b o (λz=>hb (Eb _ z)) (λz=>hb (A8 _ z)) (Lb _ q)
theorem SQ(I:Inv X [] σ H s)(O:Ik X)(hA:A.frames=some X.stack)(x:Qr (Nw X) F ea C H s.heap)
  (hF:∀o,F o->o=none∨o=some .none∨o=some (EA X.env.locals))
  (k:∀h',Inv X [] σ H { s with heap:=h' }->Qr (Nw X) (· = some (EA X.env.locals)) ea C H h'->Q () { s with heap:=h' }):AZ M A (Yg (.ref ea) X.env) Q E s:=by
 obtain⟨J,L,P,vs,a0,j,R,⟨g0,g⟩,S,g5⟩:=x
 have yB:A.frames=some (X.env :: X.outer):=by rw[hA,O.st]
 have t4:frs (X.env :: X.outer)=frs X.stack:=by rw[O.st]
 have fr:s.heap.FunFrames X.base (X.env :: X.outer):=by rw[<-O.st];exact I.stack
 rcases g5 with⟨_,m⟩ | ⟨T,B,G,fl,hf,m,ne,m1,m2,gT,dT,U⟩
 ·have i:=(C7.mp m).1
  unfold Yg;simp only[O.fr];refine AA (Et j g m ?_);rw[qY (by decide)]
  refine UC yB fr O.fr j g i λh2 T B G nT fT kp up q1 q2 q3 q4=>?_
  rw[t4]at kp;have N:=I.old O fT
  have hc:∀b∈[ea],H b=none/\Nw X b/\∃o vs,s.heap.get? b=some o/\o.data=.fields vs:=λb hb=>by
   cases Ag.mp hb;exact⟨J,L,P,vs,j,g⟩
  refine k h2 (I.recs O hc (Td λb o z1 Y q=>kp b o (λz=>Y (Ag.mpr z)) z1 q) λb o q l=>up b o (λz=>?_) q) ?_
  ·rw[z,j]at q
   cases q;exact l vs g
  ·exact⟨J,L,_,_,a0,q1,by rw[OA];exact R,⟨by rw[Kn];exact g0,Ca g _⟩,by rw[Nl (by decide)];exact S,.inr ⟨T,B,G,_,rfl,by simp[i],nT,N.1,N.2,q2,q3,q4⟩⟩
 ·rcases hF _ hf with e | e | e
  ·cases e
  ·cases e
   have i:=(C7.mp m).1;unfold Yg;simp only[O.fr];refine AA (Et j g m ?_);rw[qX (show(Ai T != BY)=true from by simp)];refine AA (Et gT dT U ?_);rw[qY (show ¬((BY==EA X.env.locals)=true)from by simp[EA])];refine AA (Iq gT dT (C7.mp U).1 ?_)
   have oth:∀b,b≠T->(s.heap.update T (Ce (·.setIfInBounds 3 BY))).get? b=s.heap.get? b:=λb hb=>Cy _ _ (B8 hb)
   have qC:∀b o,s.heap.get? b=some o->(∀vs,o.data≠.fields vs)->b≠T:=λb o hb l q=>by
    rw[q,gT]at hb;cases hb;exact l G dT
   have zN:(s.heap.update T (Ce (·.setIfInBounds 3 BY))).FunFrames X.base (X.env :: X.outer):=fr.of_keeps λb o hb l=>⟨o,(oth b (qC b o hb l)).trans hb,rfl⟩
   have gU:(s.heap.update T (Ce (·.setIfInBounds 3 BY))).get? T=some (Ce (·.setIfInBounds 3 BY) B):=DB _ gT (GU (Ca dT _))
   have hc:∀b∈[ea,T],H b=none/\Nw X b/\∃o vs,s.heap.get? b=some o/\o.data=.fields vs:=λb hb=>by
    rcases An.mp hb with rfl | hb
    ·exact⟨J,L,P,vs,j,g⟩
    ·cases Ag.mp hb
     exact⟨m1,m2,B,G,gT,dT⟩
   refine UC (s:={ s with heap:=s.heap.update T (Ce (·.setIfInBounds 3 BY)) }) yB zN O.fr ((oth ea (B8 ne)).trans j) g i λh2 Z zO zP nT fT kp up q1 q2 q3 q4=>?_
   rw[t4]at kp
   have zQ:s.heap.get? Z=none:=by
    have z:Z≠T:=λz=>by rw[z]at fT;exact zX (fT.symm.trans gU) (by simp)
    rw[<-oth Z z];exact fT
   have N:=I.old O zQ;refine k h2 (I.recs O hc (Td λb o z1 Y q=>kp b o (λz=>Y (by rw[z];exact Aa)) z1 ((oth b λz=>Y (by rw[z];exact AM _ (Ag.mpr rfl))).trans q)) λb o q l=>up b o (λz=>?_) ((oth b (qC b o q l)).trans q)) ?_
   ·rw[z,j]at q
    cases q;exact l vs g
   ·exact⟨J,L,_,_,a0,q1,by rw[OA];exact R,⟨by rw[Kn];exact g0,Ca g _⟩,by rw[Nl (by decide)];exact S,.inr ⟨Z,zO,zP,_,rfl,by simp[i],nT,N.1,N.2,q2,q3,q4⟩⟩
  ·cases e
   have zR:(bB X s.heap [ea,T]).get? T=none:=RM (AM _ (Ag.mpr rfl));refine wpAny_noteFrame_againW (base:=bB X s.heap [ea,T]) (cls:=.ref (C % M64)) (a0:=a0) O.fr ⟨P,vs,T,B,G,j,⟨R,S⟩,g,m,zR,ne,gT,dT,U⟩ ?_;exact k s.heap I ⟨J,L,P,vs,a0,j,R,⟨g0,g⟩,S,.inr ⟨T,B,G,_,rfl,m,ne,m1,m2,gT,dT,U⟩⟩
theorem K7(f:Option AJ)(I:Inv X [] σ H s)(O:Ik X)(x:Qr (Nw X) F ea C H s.heap)(R:¬F none)
  (k:∀h',Inv X [] σ H { s with heap:=h' }->Qr (Nw X) (· = some (f.elim BY λa=>EA a)) ea C H h'->Q () { s with heap:=h' }):AZ M A (setFlight (.ref ea) f) Q E s:=by
 obtain⟨B,G,J,vs,S,i,U,⟨Y,j⟩,Z,g5⟩:=x
 rcases g5 with⟨z,_⟩ | ⟨T,oT,l,fl,hf,L,N,P,m2,gT,dT,h3⟩
 ·exact(R z).elim
 ·have hc:∀b∈[ea,T],H b=none/\Nw X b/\∃o vs,s.heap.get? b=some o/\o.data=.fields vs:=λb hb=>by
   rcases An.mp hb with rfl | hb
   ·exact⟨B,G,J,vs,i,j⟩
   ·cases Ag.mp hb
    exact⟨P,m2,oT,l,gT,dT⟩
  have g:3 < l.size:=(C7.mp h3).1;unfold setFlight;refine AA (Et i j L ?_);rw[qX (show(Ai T != BY)=true from by simp)];refine Iq gT dT g ?_
  have oth:∀b,b≠T->(s.heap.update T (Ce (·.setIfInBounds 3 (f.elim BY λa=>EA a)))).get? b=s.heap.get? b:=λb hb=>Cy _ _ (B8 hb)
  have qC:∀b o,s.heap.get? b=some o->(∀vs,o.data≠.fields vs)->b≠T:=λb o hb m q=>by
   rw[q,gT]at hb;cases hb;exact m l dT
  refine k _ (I.recs O hc (λb o q=>?_) λb o q m=>⟨o.slots,(oth b (qC b o q m)).trans q⟩) ?_
  ·have hb:b≠T:=λz=>by rw[z,RM (AM _ (Ag.mpr rfl))]at q;cases q
   exact(oth b hb).trans (Lb _ q)
  ·refine⟨B,G,J,vs,S,(oth ea (B8 N)).trans i,U,⟨Y,j⟩,Z,.inr ⟨T,_,_,_,rfl,L,N,P,m2,DB _ gT (GU (Ca dT _)),Ca dT _,?_⟩⟩
   simp[g]
end
noncomputable def trF(X:Cx)(o:Option AD):Prop:=o=none∨o=some .none∨o=some (EA X.env.locals)
noncomputable def XE(X:Cx)(E:EW)(e:AD)(s':AG):Prop:=∃i C j g,e=.ref i/\Inv X [] j g s'/\Qr (Nw X) (trF X) i C g s'.heap/\E C j g
noncomputable def CXG(P:A3)(w:BR):CXT:=λg H s E e i=>∃l C j,e=.ref l/\i.os=s.os/\HV i.gens/\Un (frs g) [] H j s.heap i.heap/\HOk P w j i.heap/\Qr (λb=>s.heap.get? b=none) (· = some .none) l C j i.heap/\E (.ref C) none j
theorem XE.own(O:Ik X):Yl (AR X.prog X.w) X.A X.env (XE X E):=by
 rintro e i ⟨m,C,B,H,rfl,I,x,w⟩
 refine SQ I O I.ok.frames x (λo z=>z) λj G l=>?_
 have J:=l;obtain⟨S,U,Y,Z,a0,L,g2,N,g4,P⟩:=J
 rcases P with⟨z,_⟩ | ⟨T,oT,ts,fl,hf,g,_⟩
 ·cases z
 ·show AZ _ _ _ _ _ _
  refine AA (Et (s:={ i with heap:=j }) L N.2 g ?_);rw[qY (by simp)];rw[O.fr]
  refine K7 (s:={ i with heap:=j }) (some X.env.locals) G O l (by simp) λh2 Q R=>?_
  exact⟨m,C,B,H,rfl,Q,R.imp λo z=>.inr (.inr z),w⟩
theorem XE.leave(O:Ik X)(h:XE X E e s')
  (k:∀g C i j l,e=.ref g->Inv X [] i j l->Qr (Nw X) (· = some .none) g C j l.heap->E C i j->Q () l):AZ (AR X.prog X.w) X.A (leaving X.env e) Q N s':=by
 obtain⟨g,C,i,H,rfl,I,x,w⟩:=h;unfold leaving;refine AA (SQ I O I.ok.frames x (λo z=>z) λm B G=>?_)
 refine K7 (s:={ s' with heap:=m }) none B O G (by simp) λP J L=>?_
 exact k g C i H _ rfl J L w
noncomputable abbrev Cx.p(X:Cx)(pn:List (AJ×Obj)):Cx:={ X with pn:=pn }
noncomputable abbrev Cx.w'(X:Cx)(pn:List (AJ×Obj))(E:EW):Cx:={ X with pn:=pn,xe:=XE (X.p pn) E }
theorem Inv.with(I:Inv X m o H s)(z:AD->AG->Prop):Inv { X with xe:=z } m o H s:=by
 obtain⟨ok,a,b,c,d,e,f,g,i,j,l⟩:=I;obtain⟨A,B,C,E,G,J,L,N,O,P,Q,R,S,T,U,Y,Z,rP⟩:=ok;exact⟨⟨A,B,C,E,G,J,L,N,O,P,Q,R,S,T,U,Y,Z,rP⟩,a,b,c,d,e,f,g,i,j,l⟩
theorem Inv.without(I:Inv { X with xe:=z } g i H s):Inv X g i H s:=by
 have:=I.with X.xe
 exact this
theorem Inv.pinIn(I:Inv X m o H s):Inv (X.p (X.pn++m)) [] o H s:=by
 obtain⟨ok,a,b,c,d,e,f,g,i,j,l⟩:=I;obtain⟨A,B,C,E,G,J,L,N,O,P,Q,R,S,T,U,Y,Z,rP⟩:=ok;exact⟨⟨A,B,C,E,G,J,L,N,O,P,Q,R,S,T,U,Y,Z,rP⟩,a,b,c,d,e,f,g,λq hq=>i q (by rwa [BV]at hq),j,l⟩
theorem Inv.pinOut(I:Inv (X.p (X.pn++m)) [] o H s):Inv X m o H s:=by
 obtain⟨ok,a,b,c,d,e,f,g,i,j,l⟩:=I;obtain⟨A,B,C,E,G,J,L,N,O,P,Q,R,S,T,U,Y,Z,rP⟩:=ok;exact⟨⟨A,B,C,E,G,J,L,N,O,P,Q,R,S,T,U,Y,Z,rP⟩,a,b,c,d,e,f,g,λq hq=>i q (by show q∈(X.pn++m)++[];rwa [BV]),j,l⟩
noncomputable def ExR(j C:AJ)(H:Hp)(h:Bt):Prop:=H j=none/\∃(g:Obj) (i:Array AD) (l:AD),h.get? j=some g/\g.cls=.ref (C % M64)/\(QF C H g.dict/\g.data=.fields i)/\i[0]?=some l/\i[1]?=some .none
structure Good(X:Cx)(E:EW):Prop where
 pass:L6 (CXG X.prog X.w) X (Xb E)
 own:Yl (AR X.prog X.w) X.A X.env X.xe
 made:∀(ζ:List (AJ×Obj)) (σ:St) (H:Hp) (s:AG) (h':Bt) (ea C:AJ) (args:List AD),Inv X ζ σ H s->C < M64->E C σ H->LP s.heap h' ea (.ref C) args->X.xe (.ref ea) { s with heap:=h' }
 madeR:∀(ζ:List (AJ×Obj)) (σ:St) (H H':Hp) (s s':AG) (ea C:AJ),Inv X ζ σ H s->s.heap.get? ea=none->Inv X ζ σ H' s'->ExR ea C H' s'.heap->E C σ H'->X.xe (.ref ea) s'
theorem Ik.p(O:Ik X)(pn:List (AJ×Obj)):Ik (X.p pn):=⟨O.st,O.fr,O.ex⟩
theorem Bv(O:Ik X):Good (X.w' pn E) E:=by
 have o:=O.p pn;refine⟨λi g H s e s' I h=>?_,XE.own o,λi g H s h' A C args I hC w N=>?_,λi g H m s s' A C I hn J x w=>?_⟩
 ·obtain⟨A,C,m,rfl,os,B,un,P,x,_,c,ec,w⟩:=h
  cases ec;have j:Inv (X.p pn) i g H s:=Inv.without (X:=X.p pn) I;have Q:Inv (X.p pn) i g m s':=j.call' os un P B (λb z=>zX z (by simp))
  have I2:Inv (X.p pn) [] g m s':=Q.pins_of λp G=>zX G (by simp)
  obtain⟨R,n2,S,U,Y,L,Z,g3,g4,g5⟩:=x;refine⟨A,C,g,m,rfl,I2,⟨R,(j.old o n2).2,S,U,Y,L,Z,g3,g4,?_⟩,w⟩
  rcases g5 with⟨z,_⟩ | ⟨T,oT,ts,fl,hf,h1,ne,m1,m2,r⟩
  ·cases z
  ·exact .inr ⟨T,oT,ts,fl,.inr (.inl hf),h1,ne,m1,(j.old o m2).2,r⟩
 ·have j:Inv (X.p pn) i g H s:=Inv.without (X:=X.p pn) I
  have Q:Inv (X.p pn) i g H { s with heap:=h',toks:=s.toks }:=j.kept N.keeps;obtain⟨t,L,_,_⟩:=N.there;have l:=j.old o N.new;exact⟨A,C,g,H,rfl,Q.pins_of λp G=>zX G (by simp),⟨l.1,l.2,_,_,_,L,by rw[cO hC],⟨.inl ⟨hC,rfl⟩,rfl⟩,rfl,.inl ⟨.inl rfl,rfl⟩⟩,w⟩
 ·have j:Inv (X.p pn) i g H s:=Inv.without (X:=X.p pn) I
  have J0:Inv (X.p pn) i g m s':=Inv.without (X:=X.p pn) J;obtain⟨R,S,U,Y,L,Z,g3,g4,g5⟩:=x;exact⟨A,C,g,m,rfl,J0.pins_of λp G=>zX G (by simp),⟨R,(j.old o hn).2,S,U,Y,L,Z,g3,g4,.inl ⟨.inl rfl,g5⟩⟩,w⟩
theorem good_none(i:X.xe=λ_ _=>False):Good X noE:=by
 refine⟨λl m H s e o I h=>?_,by rw[i];exact Yl.never,λ_ _ _ _ _ _ _ _ _ _ w _=>w.elim,λ_ _ _ _ _ _ _ _ _ _ _ _ w=>w.elim⟩;obtain⟨A,C,B,rfl,os,g,un,j,x,_,c,E,w⟩:=h;exact w.elim
noncomputable abbrev UK:List AD:=[.type "ValueError",.type "Exception",.type "BaseException",.type "object"]
theorem dz{K}{N}{h g}{m}(e:G7 K N=true)(X:K.In h)(j:K.In g)(n:h.Ns N m):g.Ns N m:=by
 obtain⟨o,l,s,A,r⟩:=n;unfold G7 at e;split at e
 ·rename_i i
  have z:=X _ _ i;rw[A]at z;cases z;exact⟨_,l,s,j _ _ i,r⟩
 ·cases e
noncomputable abbrev Cx.suite(X:Cx)(g:AJ):Cx:={ X with A:=X.A.mark (some (.ref g)),calm:=false,xe:=λ_ _=>False }
theorem Inv.suite(I:Inv X m o H s)(A:AJ):Inv (X.suite A) m o H s:=by
 obtain⟨ok,a,b,c,d,e,f,g,i,j,l⟩:=I;obtain⟨B,C,E,G,J,L,N,O,o9,P,Q,R,S,T,U,Y,Z,rP⟩:=ok;exact⟨⟨B,C,E,G,J,L,N,O,λz=>zX (show false=true from z) Ac,P,Q,R,S,T,U,Y,Z,rP⟩,a,b,c,d,e,f,g,i,j,l⟩
theorem Inv.unsuite(ok:X.Ok)(I:Inv (X.suite A) m o H s):Inv X m o H s:=by
 obtain⟨_,a,b,c,d,e,f,g,i,j,l⟩:=I;exact⟨ok,a,b,c,d,e,f,g,i,j,l⟩
theorem Inv.track(I:Inv X [] G H s)(g:H ea=none)(B:Nw X ea)(i:s.heap.get? ea=some o)(C:o.data=.fields U) :
  Inv X [] G (upd H ea (.frz o (.ext λh=>∃u,h.get? ea=some u))) s:=by
 have J:X.env.locals≠ea:=λz=>by
  obtain⟨m,⟨L,Y,Z,j,l,_⟩,_⟩:=I.loc;rw[z,i]at j;cases j;rw[C]at l;cases l
 have N:∀x c,X.env.cells.lookup x=some c->c≠ea:=λx c q z=>by
  obtain⟨v,L,j,l⟩:=I.cell x c q;rw[z,i]at j;cases j;rw[C]at l;cases l
 refine⟨I.ok,I.os,I.bare,⟨I.base.keep,I.base.slot,λb u q n O=>?_,I.base.there,λb A q=>?_,λb u A q=>?_,λb P q=>?_⟩,I.loc,I.cell,?_,λx c q=>?_,λp E=>?_,λb u q=>?_,I.len⟩
 ·rw[A5 λz=>by rw[z,B.1]at q;cases q]
  exact I.base.free b u q n O
 ·have:=I.base.tups b A q
  rw[A5 (BQ this g)];exact this
 ·have:=I.base.frzs b u A q
  rw[A5 (BQ this g)];exact this
 ·obtain⟨more,this⟩:=I.base.tbls b P q
  exact⟨more,by rw[A5 (BQ this g)];exact this⟩
 ·rw[A5 J];exact I.free
 ·rw[A5 (N x c q)];exact I.freeC x c q
 ·obtain⟨Q,R,S⟩:=I.pin p E
  exact⟨Q,by rw[A5 (B.2 p (by rwa [BV]at E))];exact R,S⟩
 ·by_cases hb:b=ea
  ·subst hb
   rw[BU]at q;cases q;exact⟨i,⟨o,i⟩,⟨o,i⟩,λh1 h2 ⟨u,T⟩ k=>⟨u,k u T⟩⟩
  ·rw[A5 hb]at q
   exact(I.hok b u q).stay (λ_ _ _ z=>z) (λc z=>by rw[A5 (BQ z g)];exact z) λc A z=>by rw[A5 (BQ z g)];exact z
theorem K5(I:Inv X [] P H s)(U:X.N.Nodup)(hi:X.N[i]?=some n)(Y:X.env.scope.names.lookup n=some .local)
  (k:∀s',Inv X [] (P.set i none) H s'->Q () s'):AZ M A (do bindName X.env n .none;unbindBehindTheSuite X.env n pos) Q E s:=by
 obtain⟨m,hm,Z⟩:=id I.loc
 have G:(X.env.scope.kind==.class||(X.env.scope.kind==.module&&X.env.locals != X.env.globals))=false:=by rw[I.ok.kind];rfl
 have J:∀b o,X.s₀.heap.get? b=some o->b≠X.env.locals:=λb o e=>Al (AY (AV e) I.ok.above)
 obtain⟨oL,_,_,yt,_⟩:=id hm
 refine wpAny_nameGoes_keeps Y hm G λh' v oE l=>k _ ?_
 have g:∀y c w',X.env.cells.lookup y=some c->s.heap.IsCell c w'->h'.IsCell c w':=λy c w' q z=>z.sameBut l (I.cne y c q)
 refine⟨I.ok,I.os,I.bare,⟨λb o e z hb B=>(l.2 b (J b o e)).trans (I.base.keep b o e z hb B),λb o e z hb B=>?_,I.base.free,λb o e B=>?_,I.base.tups,I.base.frzs,I.base.tbls⟩,⟨_,oE,λj y R S C e3=>?_⟩,λy c q=>?_,I.free,I.freeC,λp G=>?_,λb u q=>?_,by simpa using I.len⟩
 ·obtain⟨sl,q⟩:=I.base.slot b o e z hb B
  exact⟨sl,(l.2 b (J b o e)).trans q⟩
 ·obtain⟨o',q⟩:=I.base.there b o e B
  exact⟨o',(l.2 b (J b o e)).trans q⟩
 ·by_cases L:i=j
  ·subst L
   rw[TH ]at C
   cases hq:P[i]? <;> rw[hq]at C <;> cases C
  ·rw[BF L]at C
   obtain⟨u',r',q⟩:=Z j y R S C e3;refine⟨u',r',?_⟩
   rcases q with⟨O,e⟩ | ⟨O,c,e,z⟩
   ·refine .inl ⟨O,?_⟩
    have:y≠n:=λz=>L (Pk U (z▸hi) S)
    show(if y=n then v else m y)=_;rw[qY this];exact e
   ·exact .inr ⟨O,c,e,g y c _ e z⟩
 ·obtain⟨w',z⟩:=I.cell y c q
  exact⟨w',g y c w' q z⟩
 ·obtain⟨z1,z2,T,z4⟩:=I.pin p G
  exact⟨(l.2 p.1 T).trans z1,z2,T,z4⟩
 ·refine(I.hok b u q).stay (λc R hc z=>(l.2 c ?_).trans z) (λ_ z=>z) λ_ _ z=>z
  intro e
  rcases hc with z | z
  ·rw[z]at e;rw[e,I.free]at q;cases q
  ·rw[e,I.free]at z;cases z
structure V8(K:AC)(C G:AJ):Prop where
 ty:KD K (.ref G)=some (.type "type")
 cl:(CW K G).isSome=true
 ba:LL K (.ref G) (.type "BaseException")=some true
 su:LL K (.ref C) (.ref G)=some true
theorem Vf{K}{C G g}{i}{M}{A}{E}{Q}{s}(c:V8 K C G)(X:K.In s.heap)(j:s.heap.get? g=some i)(l:i.cls=.ref C)(q:Q true s) :
  AZ M A (excMatches (.ref g) (.ref G)) Q E s:=by
 have m:Em M s.heap (LX (.ref G) (.type "tuple")) false:=PySem.W.looks_instIn X (by unfold PySem.W.instIn;rw[c.ty];show LL K (.type "type") (.type "tuple")=some false;kernel_rfl);have L2:Em M s.heap (isSubtype (.ref G) (.type "BaseException")) true:=UU X c.ba;have o:Em M s.heap (isSubtype (.ref C) (.ref G)) true:=UU X c.su
 have L4:Em M s.heap (isType (.ref G)) true:=by
  have z:=c.cl;unfold CW at z;split at z
  ·rename_i B
   intro I J L N k q;unfold isType loadHead;exact AA (M7 (k _ _ (X _ _ B)) (AE q))
  ·cases z
 have H:Em M s.heap (typeOf (.ref g)) (.ref C):=l▸(kQ j).andThen .now;unfold excMatches isExcClass;refine AA (m.at ?_);rw[qY Ac];refine AA (AE ?_);dsimp only;refine AA ?_;rw[KL];refine AA (AA (AA (L4.at ?_)));rw[qX rfl];refine L2.at ?_;simp only[Cd,Ay,if_false];refine AE ?_;dsimp only;rw[LN];refine AE (AA (H.at (AA ?_)));rw[KL];refine AA (AA (o.at ?_));rw[qX rfl];exact AE (AE (AE q))
noncomputable def VW(m:List AJ)(i:Nat)(b h:MS):MS:=λe S=>(b e S).bind λf l=>match f with
 | .ex c o=>if c % M64∈m then(h (o.set i (some (.exc c))) l).bind λs j=>match s with
   | .nx g=>.ok (.nx (g.set i none)) j
   | .bk g=>.ok (.bk (g.set i none)) j
   | .ct g=>.ok (.ct (g.set i none)) j
   | .rt d=>.ok (.rt d) j
   | .ex _ _=>.bad
  else .bad
 | f=>.ok f l
theorem Eh.forget{K}{g}{H}{e}{l}(i:Nat)(h:Eh K g H e l):Eh K g H (e.set i none) (l.set i none):=by
 refine⟨by simp[h.len],λj d q=>?_⟩
 by_cases m:i=j
 ·subst m
  rw[TH]at q
  cases o:e[i]? <;> rw[o]at q <;> cases q
 ·rw[BF m]at q ⊢
  exact h.at' j d q
section
variable{E:EW}{g n:Str}{mb mh:MS}
theorem jY(O:Ik X)(hN:X.N.Nodup)(hi:X.N[i]?=some n)(R:X.env.scope.names.lookup n=some .local)(hg:Gl X g)(hm:X.mg g=some (.ref G))(t7:∀c∈cs,V8 X.K c G)
  (hb:∀tO E',GSs (X.w' tO E') E' body mb) (hh:∀tO A,GSs ((X.p tO).suite A) noE (b₀ :: suite) mh) (nZ:(g==("__debug__" : Str))=false:=by decide) :
  GS (X.w' pn E) E (.Try body [.ExceptHandler (some (.Name g gp)) (some n) (b₀ :: suite) p6] [] [] pos) (VW cs i mb mh):=by
 intro B s σ H D I ⟨ρ,l,S,hl,hs,hm'⟩;have I0:Inv (X.p pn) B σ H s:=Inv.without (X:=X.p pn) I;have I1:Inv (X.p (pn++B)) [] σ H s:=I0.pinIn;have O1:=O.p (pn++B)
 let DS:V7:={ nx:=λm Q=>D.nx (m.set i none) Q,rt:=D.rt,bk:=λm Q=>D.bk (m.set i none) Q,ct:=λm Q=>D.ct (m.set i none) Q }
 let ET:EW:=λC j L=>C % M64∈cs/\∀A o u,L A=none->V5 o (C % M64)->QF C L o.dict->gS X.K noE mh DS (j.set i (some (.ref A))) (upd L A (.frz o u))
 have run:=hb (pn++B) ET [] s σ H D (I1.with _) ⟨ρ,l,S,hl,hs,hm'.seq λf S1 hm=>by
  cases f with
  | nx e'=>exact hm
  | rt d=>exact hm
  | bk d=>exact hm
  | ct d=>exact hm
  | ex c e1=>
   intro T L j l' s' r';dsimp only at hm;split at hm
   ·rename_i hc
    refine⟨hc,λA o u R ho hd=>?_⟩;have le:Le X.K T L T (upd L A (.frz o u)):=Le.fresh R;have s2:=(FB (ho:=.frz o u) s' R).1;refine⟨T,e1.set i (some (.exc c)),S1,(r'.mono le).set (.exc BU ho (hd.mono le.frz)) i,s2,((Bo.later hm (l'.trans le)).seq λf2 S2 hm=>?_)⟩
    cases f2 with
    | nx e2=>exact λP Q m U Y Z=>hm P Q _ (l'.trans (le.trans U)) Y (Z.forget i)
    | bk e2=>exact λP Q m U Y Z=>hm P Q _ (l'.trans (le.trans U)) Y (Z.forget i)
    | ct e2=>exact λP Q m U Y Z=>hm P Q _ (l'.trans (le.trans U)) Y (Z.forget i)
    | rt d=>exact λP Q x2 U Y Z=>hm P Q x2 (l'.trans (le.trans U)) Y Z
    | ex c' e2=>exact hm.elim
   ·exact hm.elim⟩
 refine wpAny_Try_except (BX run (λf s1 q=>?_) λe s1 q=>?_)
 ·-- the body went through
  cases f with
  | next=>
   obtain⟨j,L,J,z⟩:=q;exact L9 ⟨j,L,(Inv.pinOut (X:=X.p pn) J.without).with _,z⟩
  | brk=>
   obtain⟨j,L,J,z⟩:=q;exact⟨j,L,(Inv.pinOut (X:=X.p pn) J.without).with _,z⟩
  | cont=>
   obtain⟨j,L,J,z⟩:=q;exact⟨j,L,(Inv.pinOut (X:=X.p pn) J.without).with _,z⟩
  | ret u=>
   obtain⟨v,j,L,J,r,z⟩:=q;exact⟨v,j,L,(Inv.pinOut (X:=X.p pn) J.without).with _,r,z⟩
 ·-- an exception is caught
  obtain⟨A,C,j,L,rfl,J,x,hC,w⟩:=q
  refine SQ (X:=X.p (pn++B)) J O1 J.ok.frames x (λo z=>z) λh1 J1 x1=>?_
  refine K7 (X:=X.p (pn++B)) (s:={ s1 with heap:=h1 }) none J1 O1 x1 (by simp) λh2 J2 x2=>?_
  refine wpAny_handleBy_cons (codeAny_handlers_test ?_) (by intro z;cases z);have zT:=J2.suite A;refine K6 (X:=(X.p (pn++B)).suite A) zT hg hm ?_ nZ;have zU:=x2;obtain⟨n1,n2,oe,vs,a0,g1,g2,⟨g0,g3⟩,_⟩:=zU;refine Vf (t7 _ hC) J2.kIn g1 g2 ?_;refine codeAny_handlers_suite_as ?_
  refine K7 (X:=X.p (pn++B)) (s:={ s1 with heap:=h2 }) none J2 O1 x2 (by simp) λh3 J3 x3=>?_
  obtain⟨n1,n2,oe,vs,a0,g1,g2,⟨g0,g3⟩,_⟩:=x3;have J4:=J3.track n1 n2 g1 g3;refine PN (X:=(X.p (pn++B)).suite A) (v:=.ref A) (J4.suite A) hN hi (.inl R) rfl (λs5 J5=>?_) (.inr R)
  refine BX (hh (pn++B) A [] s5 _ _ DS J5 (w A oe _ n1 ⟨g2,vs,g3⟩ g0)) (λf s6 q=>?_) λ_ _ z=>z.elim
  have ok:(X.p (pn++B)).Ok:=J.ok
  cases f with
  | next=>
   obtain⟨σ6,H6,J6,z⟩:=q
   exact K5 (X:=X.p (pn++B)) (J6.unsuite ok) hN hi R λs7 J7=>⟨_,H6,(Inv.pinOut (X:=X.p pn) J7).with _,z⟩
  | brk=>
   obtain⟨σ6,H6,J6,z⟩:=q
   exact K5 (X:=X.p (pn++B)) (J6.unsuite ok) hN hi R λs7 J7=>⟨_,H6,(Inv.pinOut (X:=X.p pn) J7).with _,z⟩
  | cont=>
   obtain⟨σ6,H6,J6,z⟩:=q
   exact K5 (X:=X.p (pn++B)) (J6.unsuite ok) hN hi R λs7 J7=>⟨_,H6,(Inv.pinOut (X:=X.p pn) J7).with _,z⟩
  | ret u=>
   obtain⟨v,σ6,H6,J6,r,z⟩:=q
   exact K5 (X:=X.p (pn++B)) (J6.unsuite ok) hN hi R λs7 J7=>⟨v,_,H6,(Inv.pinOut (X:=X.p pn) J7).with _,r,z⟩
end
noncomputable def ID(n:Nat)(ds:List D):Lo:=ds.map some++A7 (n - ds.length) none
theorem VM{K}{j}{H}{N}{ds}{l}(r:Aq K j H ds l):Eh K j H (ID N.length ds) (start N l):=by
 refine⟨by simp[ID,start,r.length],λi d q=>?_⟩;unfold ID at q;unfold start
 by_cases g:i < ds.length
 ·rw[Af (by simpa using g),At]at q
  rw[Af (by rw[AL,<-r.length];exact g),At]
  cases e:ds[i]? with
  | none=>rw[e]at q;cases q
  | some s=>
   rw[e]at q;cases q;obtain⟨v,m,o⟩:=r.get e;exact⟨v,by rw[m];rfl,o⟩
 ·rw[Au (by simpa using g),Cm]at q
  split at q <;> cases q
noncomputable def FT(n:Nat)(i:MS)(ds:List D)(S:Sto):Res D:=(okR (i (ID n ds) S)).bind λf g=>match f with
 | .rt d=>.ok d g
 | .nx _=>.ok .non g
 | .ex c _=>.err c g
 | _=>.bad
section
variable{P:A3}{w:BR}{K:AC}{mg:Str->Option AD}{base:Bt}
theorem jj{x j}{st}{f}{fd}{N ps}{k n}(F:Fun K x j st f fd)(Sc:B9 N ps (BA st))(hn:ps.length=n){Y}
  (om:∀(L:AD) (A:BO) (i:List Env) (s:AG) (H:Hp) (E:XK),Fx k (A.deeper (LY j (BA st) s.heap.objs.size f L))->∀pn E',GSs ((Qm (CXG P w) P w K mg base N j (BA st) f L A i s H E).w' pn E') E' (GB st) Y) :
  D0 P w K mg base (CXG P w) (k+1) f fd ps (spM K n (FT N.length Y)):=by
 obtain⟨oc,od,kV,doc,pm,an,L,ct,pK,rfl,lk,oJ⟩:=F.ex
 refine fy lk oJ Sc (λvs H Q E h=>by rw[hn];exact h.len) λA i s H vs Q E R h=>?_
 obtain⟨ρ,ds,S,h1,h2,h3,m⟩:=h;have O:Ik (Qm (CXG P w) P w K mg base N j (BA st) f L A i s H E):=⟨rfl,rfl,rfl⟩;have hb:=om L A i s H E R [] (λc _ o=>E (.ref c) none o);refine⟨gS K (λc _ o=>E (.ref c) none o) Y,λζ U σ o D I q=>BX (hb ζ U σ o D (I.with _) q) (λX s1 z=>?_) λe s1 z=>?_,ρ,_,S,VM h2,h3,?_⟩
 ·cases X with
  | next=>obtain⟨g,B,J,z⟩:=z;exact⟨g,B,J.without,z⟩
  | brk=>obtain⟨g,B,J,z⟩:=z;exact⟨g,B,J.without,z⟩
  | cont=>obtain⟨g,B,J,z⟩:=z;exact⟨g,B,J.without,z⟩
  | ret u=>obtain⟨v,g,B,J,r,z⟩:=z;exact⟨v,g,B,J.without,r,z⟩
 ·refine XE.leave O z λea C g B s2 e1 J x w=>⟨ea,C,B,e1,J.os,J.bare,J.base,J.hok,?_,w⟩
  obtain⟨n1,n2,oe,rQ,a0,g1,g2,g3,g4,g5⟩:=x;refine⟨n1,n2.1,oe,rQ,a0,g1,g2,g3,g4,?_⟩
  rcases g5 with z | ⟨T,oT,ts,X,hf,h1,ne,m1,m2,r⟩
  ·exact .inl z
  ·exact .inr ⟨T,oT,ts,X,hf,h1,ne,m1,m2.1,r⟩
 ·unfold FT at m
  cases R:Y (ID N.length ds) S with
  | bad=>rw[R]at m;exact m.elim
  | err c S'=>rw[R]at m;exact m.elim
  | ok X S'=>
   rw[R]at m
   cases X with
   | nx Z=>exact λG o g l U r=>m G o .non l U .non
   | rt d=>exact m
   | bk Z=>exact m.elim
   | ct Z=>exact m.elim
   | ex c Z=>exact λG o g l U r=>m G o l U
end
section
variable{X:Cx}
noncomputable def intOp(C:Int->Int->Prop)[∀i j,Decidable (C i j)](g:Int->Int->D):D->D->Sto->Res D
 | .int i,.int j,S=>if C i j then .ok (g i j) S else .bad
 | _,_,_=>.bad
theorem ax[∀i j,Decidable (C i j)](h:intOp C g a b S=.ok d l):∃i j,a=.int i/\b=.int j/\C i j/\d=g i j/\l=S:=by
 unfold intOp at h;split at h
 ·split at h
  ·rename_i i j _ m
   cases h;exact⟨_,_,rfl,rfl,m,rfl,rfl⟩
  ·cases h
 ·cases h
theorem SN[∀i j,Decidable (C i j)](m:∀l H i j,Bc X.K l H (g i j) (v i j))(h:OpR X f (rI C v)):OpR X f (rD X.K (intOp C g)):=h.imp<|by
 rintro x y H Q ⟨l,S,a,b,d,E,o,s,A,hm,k⟩
 obtain⟨i,j,rfl,rfl,B,rfl,rfl⟩:=ax hm;cases s;cases A;exact⟨i,j,rfl,rfl,B,k l H _ .refl o (m _ _ _ _)⟩
theorem Mh(l:∀m H i j,Bc X.K m H (g i j) (v i j))(h:OpR X f (rI0 v)):OpR X f (rD X.K (intOp (λ_ _=>True) g)):=
 SN (C:=λ_ _=>True) l (h.imp λx y H Q ⟨i,j,o,s,_,q⟩=>⟨i,j,o,s,q⟩)
noncomputable instance(i j:Int):Decidable (bz i j):=inferInstanceAs (Decidable (_/\_))
noncomputable instance(i j:Int):Decidable (V9 i j):=inferInstanceAs (Decidable (_∨_))
noncomputable abbrev iC:=intOp (λ_ _=>True) λi j=>.int (i - j)
noncomputable abbrev eI:=intOp V9 λi j=>.int (i * j)
noncomputable abbrev FZ:=intOp bz λi j=>.int (i / j)
noncomputable abbrev IH:=intOp (λ_ j=>0 < j) λi j=>.int (i % j)
noncomputable abbrev ltD:=intOp (λ_ _=>True) λi j=>.bl (decide (i < j))
noncomputable abbrev leD:=intOp (λ_ _=>True) λi j=>.bl (decide (i<=j))
noncomputable abbrev gtD:=intOp (λ_ _=>True) λi j=>.bl (decide (j < i))
noncomputable abbrev geD:=intOp (λ_ _=>True) λi j=>.bl (decide (j<=i))
theorem i5:OpR X (DN .Sub) (rD X.K iC):=Mh (λ_ _ _ _=>.int _) ip
theorem i6:OpR X (DN .Mult) (rD X.K eI):=SN (λ_ _ _ _=>.int _) iq
theorem D4:OpR X (DN .FloorDiv) (rD X.K FZ):=SN (λ_ _ _ _=>.int _) dq
theorem EN:OpR X (DN .Mod) (rD X.K IH):=SN (λ_ _ _ _=>.int _) ir
theorem Tv:OpR X (BG .Lt) (rD X.K ltD):=Mh (λ_ _ _ _=>.bl _) lP
theorem Nu:OpR X (BG .LtE) (rD X.K leD):=Mh (λ_ _ _ _=>.bl _) lQ
theorem Wm:OpR X (BG .Gt) (rD X.K gtD):=Mh (λ_ _ _ _=>.bl _) lR
theorem aG:OpR X (BG .GtE) (rD X.K geD):=Mh (λ_ _ _ _=>.bl _) lS
noncomputable def G0:D->D->Sto->Res D
 | .int i,.int j,S=>.ok (.int (i+j)) S
 | .tup g,.tup m,S=>if g.length+m.length<=sizeLine then .ok (.tup (g++m)) S else .bad
 | .ref l,.ref b,S=>match S[l]?,S[b]? with
  | some (.lst g),some (.lst m)=>if g.length+m.length<=sizeLine then .ok (.ref S.length) (S++[.lst (g++m)])else .bad
  | _,_=>.bad
 | _,_,_=>.bad
noncomputable def lG(K:AC):R2:=λx y H Q=>∃a b g i,x=.ref a/\y=.ref b/\H a=some (.tup g)/\H b=some (.tup i)/\g.length+i.length<=sizeLine /\
 (g=[]->Q (.ref b) H)/\(i=[]->Q (.ref a) H)/\(∀p,H p=none->Q (.ref p) (upd H p (.tup (g++i))))
theorem du:OpR X (DN .Add) (lG X.K):=by
 intro E s G H x y v u Q I J L h;obtain⟨a,b,xs,j,rfl,rfl,l,hb,N,O,P,R⟩:=h;cases J;cases L;obtain⟨m,S,T,_⟩:=I.tuple (a:=a) (xs:=xs) (.inl (.inl l));obtain⟨U,r2,Y,_⟩:=I.tuple (a:=b) (xs:=j) (.inl (.inl hb))
 by_cases i:xs=[]
 ·obtain⟨⟨cls,Z,data,sl⟩,o,A,n,B⟩:=id T
  obtain⟨⟨C,qS,data2,qT⟩,g,hc2,n2,hd2⟩:=id Y;simp only at A B hc2 hd2;subst A B hc2 hd2;have hi:m=[]:=S.nil_iff.mpr i
  exact Yw ⟨_,o,rfl⟩ ⟨_,g,rfl⟩ Rg XR Iw IS (Hv _ _)
   (tuple_addW0 a b m.toArray U.toArray n n2 Z qS sl qT (by simp[hi])) ⟨o,g,⟨.ref b,H,I,rfl,O i⟩⟩
 ·exact dr E s G H (.ref a) (.ref b) _ _ Q I rfl rfl ⟨a,b,xs,j,rfl,rfl,.inl (.inl l),.inl (.inl hb),i,N,P,λ_ p hp=>R p hp⟩
theorem Aq.nil_of{K}{i}{H}{xs}{g}(r:Aq K i H xs g)(e:g=[]):xs=[]:=by
 subst e;cases r;rfl
theorem Dz:OpR X (DN .Add) (rD X.K G0):=(iz.or (du.or iy)).imp<|by
 rintro x y H Q ⟨j,S,a,b,d,S',g,Y,G,hm,k⟩
 cases Y with
 | int i=>
  cases G <;> first | (cases hm;done) | skip
  cases hm;exact .inl ⟨_,_,rfl,rfl,k j H _ .refl g (.int _)⟩
 | @tup N Z s A l=>
  cases G with
  | @tup O b1 ws P B=>
   unfold G0 at hm;dsimp only at hm;split at hm
   ·rename_i I
    cases hm;refine .inr (.inl ⟨_,_,_,_,rfl,rfl,A,P,by rw[<-l.length,<-B.length];exact I,λe=>?_,λe=>?_,λp C=>?_⟩)
    ·rw[l.nil_of e,List.nil_append]at k
     exact k j H _ .refl g (.tup P B)
    ·rw[B.nil_of e,BV]at k
     exact k j H _ .refl g (.tup A l)
    ·obtain⟨J,E⟩:=FB (ho:=.tup (s++ws)) g C
     exact k j _ _ E J (.tup BU ((l.append B).mono E))
   ·cases hm
  | _=>cases hm
 | @ref n Z hn=>
  cases G with
  | @ref m b1 oE=>
   unfold G0 at hm;dsimp only at hm;split at hm
   ·rename_i N O A l
    split at hm
    ·rename_i I
     cases hm;obtain⟨s,e1,R⟩:=g.ob _ _ _ A hn;obtain⟨T,e2,U⟩:=g.ob _ _ _ l oE;refine .inr (.inr ⟨_,_,_,_,rfl,rfl,e1,e2,by rw[<-R.length,<-U.length];exact I,λp C=>?_⟩);have le:Le X.K j H (j++[p]) (upd H p (.lst (s++T))):=Le.alloc C;obtain⟨J,E,L⟩:=g.alloc (ho:=.lst (s++T)) (o:=.lst (N++O)) C ⟨_,BU,(R.append U).mono le⟩;exact k _ _ _ E J (.ref L)
    ·cases hm
   ·cases hm
  | _=>cases hm
 | _=>cases hm
noncomputable def ixD:D->D->Sto->Res D:=λa b S=>match IE a S,b with
 | some g,.int i=>match atI g i with
  | some d=>.ok d S
  | none=>.bad
 | _,_=>.bad
theorem fD{K}{g}{H}{ds}{l}{i}{d}(r:Aq K g H ds l)(h:atI ds i=some d):∃v,atI l i=some v/\Bc K g H d v:=by
 unfold atI at h ⊢;rw[<-r.length]
 cases m:ixN ds.length i with
 | none=>rw[m]at h;cases h
 | some j=>
  rw[m]at h;exact r.get h
theorem lX:IxR X (rD X.K ixD):=(ix_list.or jO).imp<|by
 rintro x y H Q ⟨j,S,a,b,d,G,g,s,A,hm,k⟩
 unfold ixD at hm;split at hm
 ·rename_i I i B
  split at hm
  ·rename_i J C
   cases hm;cases A;obtain⟨p,l,rfl,E,sq⟩:=OZ g s B;obtain⟨v,m,o⟩:=fD E C
   rcases sq with sq | sq
   ·exact .inl ⟨p,l,_,v,rfl,rfl,sq,m,k j H v .refl g o⟩
   ·exact .inr ⟨p,l,_,v,rfl,rfl,sq,m,k j H v .refl g o⟩
  ·cases hm
 ·cases hm
noncomputable def Ql(neg:Bool)(x y:D)(S:Sto):Res D:=match y with
 | .non=>match x with
  | .non=>.ok (.bl (!neg)) S
  | _=>.ok (.bl neg) S
 | _=>.bad
theorem Vb:OpR X (BG .Is) (rD X.K (Ql false)):=iw.imp<|by
 rintro x y H Q ⟨g,S,a,b,d,m,i,j,l,hm,k⟩
 cases l <;> first | (cases hm;done) | skip
 refine⟨rfl,?_⟩
 cases j <;> (cases hm;exact k g H _ .refl i (.bl _))
end
noncomputable def mQ(f:List D->Sto->Res D)(m:ML):ME:=λe S=>(m e S).bind λg i=>okR (f g i)
section
variable{X:Cx}{E:EW}{e:Expr}{es:List Expr}{x:Str}{p pos:Pos}{ml:ML}{id:String}{r:List V->Hp->VK->Prop}{f:List D->Sto->Res D}
noncomputable def fM(K:AC)(r:List V->Hp->VK->Prop)(f:List D->Sto->Res D):Prop:=∀j H S m q l d o (Q:VK),B1 K j S H->Aq K j H m l->(SqL K H q l∨SqT K H q l)->f m S=.ok d o ->
 (∀g i z,Le K j H g i->B1 K g o i->Bc K g i d z->Q z i)->r [.ref q] H Q
noncomputable def j7(K:AC)(r:List V->Hp->VK->Prop)(f:List D->Sto->Res D):Prop:=∀j H S l m d o (Q:VK),B1 K j S H->Aq K j H l m->f l S=.ok d o ->
 (∀g i z,Le K j H g i->B1 K g o i->Bc K g i d z->Q z i)->r m H Q
theorem Om(m:GR X (.builtin id) r)(o:fM X.K r f)(s:Gl X x)(hm:X.mg x=none)(A:E1 x=some (.builtin id))(h:GQ X E e ml)(B:x≠"__name__":=by decide) (C:(x==("__debug__" : Str))=false:=by decide)
  (j:AO [e] X.env=(false,Bi e X.env) :: AO [] X.env:=by rfl):GE X E (.Call (.Name x p) [e] [] pos) (mQ f ml):=(Ie m s hm A (C6 h Eu j) B C j rfl).imp<|by
 rintro σ H Q ⟨G,l,S,I,J,hm⟩
 refine⟨G,l,S,I,J,hm.seq λL N hm g O q P R T U sq=>?_⟩;obtain⟨d,Y,e,k⟩:=hm.okR
 exact o g O N L q P d Y Q T U sq e λi Z z l' s' r'=>k i Z z (R.trans l') s' r'
theorem Wz(j:GR X (.builtin id) r)(m:j7 X.K r f)(o:Gl X x)(hm:X.mg x=none)(s:E1 x=some (.builtin id))(h:GA X E (e :: es) ml)(A:x≠"__name__":=by decide) (B:(x==("__debug__" : Str))=false:=by decide)
  (C:AO (e :: es) X.env=(false,Bi e X.env) :: AO es X.env:=by rfl) (G:(CN pos (AO es X.env)).any (·.1)=false:=by rfl):GE X E (.Call (.Name x p) (e :: es) [] pos) (mQ f ml):=(Ie j o hm s h A B C G).imp<|by
 rintro σ H Q ⟨I,l,S,J,L,hm⟩
 refine⟨I,l,S,J,L,hm.seq λN O hm g P R T U Y=>?_⟩;obtain⟨d,Z,e,k⟩:=hm.okR
 exact m g P O N R d Z Q U Y e λi H' z l' s' r'=>k i H' z (T.trans l') s' r'
noncomputable def lq(ds:List D)(S:Sto):Res D:=.ok (.int ds.length) S
theorem iE:fM X.K (λxs H Q=>∃p ys,xs=[.ref p]/\(SqL X.K H p ys∨SqT X.K H p ys)/\Q (.int ys.length) H) lq:=λg H S l q xs d m Q i j sq hm k=>by
 cases hm;exact⟨q,xs,rfl,sq,k g H _ .refl i (by rw[j.length];exact .int _)⟩
noncomputable def RD:List D->Sto->Res D
 | [.int i,.int j],S=>.ok (.int (if j < i then j else i)) S
 | _,_=>.bad
noncomputable def RE:List D->Sto->Res D
 | [.int i,.int j],S=>.ok (.int (if j > i then j else i)) S
 | _,_=>.bad
theorem fJ:j7 X.K (λxs H Q=>∃i j,xs=[.int i,.int j]/\Q (.int (if j < i then j else i)) H) RD:=λg H S o xs d s Q l m hm k=>by
 unfold RD at hm;split at hm
 ·cases hm
  cases m with
  | cons a t=>
   cases t with
   | cons b t=>
    cases t;cases a;cases b;exact⟨_,_,rfl,k g H _ .refl l (.int _)⟩
 ·cases hm
theorem fL:j7 X.K (λxs H Q=>∃i j,xs=[.int i,.int j]/\Q (.int (if j > i then j else i)) H) RE:=λg H S o xs d s Q l m hm k=>by
 unfold RE at hm;split at hm
 ·cases hm
  cases m with
  | cons a t=>
   cases t with
   | cons b t=>
    cases t;cases a;cases b;exact⟨_,_,rfl,k g H _ .refl l (.int _)⟩
 ·cases hm
end
noncomputable def DR(X:Cx)(scope:QO)(N':List Str)(j:List (Str×AJ))(C:AJ)(g:AG)(i:Hp)(ex:List AJ)(pn:List (AJ×Obj)):Cx where
 prog:=X.prog
 w:=X.w
 K:=X.K
 mg:=X.mg
 base:=X.base
 A:=X.A
 N:=N'
 s₀:=g
 H₀:=i
 env:=compEnvC scope j C X.env
 outer:=X.stack
 stack:=X.stack
 ex:=ex
 fn:=λx=>scope.names.lookup x==some .cell
 calm:=X.calm
 pn:=pn
 xe:=λ_ _=>False
theorem Sj:∀(names:List (Str×ND)) (g:List (Str×AJ)),(∀y∈names,y.2=.free->∃c,env.cells.lookup y.1=some c)->(∀n c,g.lookup n=some c->env.cells.lookup n=some c) ->
  ∃j,(forIn names g (λ(x:Str×ND) (G:List (Str×AJ))=>match x with | (name,kind)=>if (kind==Ej)=true then do let a <-cellOf env name;pure (GD ((name,a) :: G))else pure (GD G)):Sem (List (Str×AJ)))=pure j /\
   (∀n c,j.lookup n=some c->env.cells.lookup n=some c)/\(∀n c,g.lookup n=some c->∃I,j.lookup n=some I)/\∀y∈names,y.2=.free->∃c,j.lookup y.1=some c
 | [],g,_,l=>⟨g,rfl,l,λn c h=>⟨c,h⟩,λ_ h=>nomatch h⟩
 | (n,k) :: r,g,h,l=>by
  rw[KL]
  by_cases B:k=.free
  ·subst B
   obtain⟨c,H⟩:=h (n,.free) Aa rfl
   obtain⟨j,e,C,o,E⟩:=Sj r ((n,c) :: g) (λy i=>h y (AM _ i)) (λm d hm=>by
    rw[BM]at hm
    cases s:(m==n)with
    | true=>rw[s]at hm;cases hm;rw[eq_of_beq s];exact H
    | false=>rw[s]at hm;exact l m d hm)
   have J:cellOf env n=pure c:=by unfold cellOf;rw[H]
   refine⟨j,?_,C,λm d hm=>o m (if m==n then c else d) ?_,λy i A=>?_⟩
   ·simp only[beq_self_eq_true,if_true,J,pure_bind]
    exact e
   ·rw[BM]
    cases s:(m==n)with
    | true=>rfl
    | false=>exact hm
   ·rcases An.mp i with rfl | i
    ·exact o n c (by rw[BM,beq_self_eq_true])
    ·exact E y i A
  ·have hb:(k==Ej)=false:=by simpa using B
   obtain⟨j,e,C,o,E⟩:=Sj r g (λy i=>h y (AM _ i)) l;refine⟨j,?_,C,o,λy i A=>?_⟩
   ·simp only[hb,Ay,if_false,pure_bind]
    exact e
   ·rcases An.mp i with rfl | i
    ·exact(B A).elim
    ·exact E y i A
theorem XC(h:∀y∈scope.names,y.2=.free->∃c,env.cells.lookup y.1=some c):∃g,closureFor scope env=pure g /\
  (∀n c,g.lookup n=some c->env.cells.lookup n=some c)/\∀y∈scope.names,y.2=.free->∃c,g.lookup y.1=some c:=by
 obtain⟨g,e,i,_,j⟩:=Sj scope.names [] h (λn c z=>by simp at z);refine⟨g,?_,i,j⟩;unfold closureFor;exact(congrArg (λz=>z >>= λl=>pure l) e).trans (by rw[pure_bind])
noncomputable def Yd(X:Cx)(g:List Expr)(t:TT):Prop:=
 ∀(j:List (AJ×Obj)) (s:AG) (i:St) (H:Hp) (Q:Bool->Hp->Prop),Inv X j i H s->t i H Q ->
  AZ (AR X.prog X.w) X.A (forIn g true λc r=>if r=true then do let ok <-gP c X.env (Bi c X.env);pure (GD ok)else pure (GD r)) (TP X j i Q) X.xe s
theorem Zy:Yd X [] (λ_ H Q=>Q true H):=λg s i H Q I h=>wpAny_tests_nil ⟨H,I,h⟩
structure L8(X:Cx)(scope:QO)(own N':List Str):Prop where
 kind:scope.kind=.function
 names:∀y∈scope.names,y.2=.local->scope.names.lookup y.1=some .local
 free:∀y∈scope.names,y.2=.free->X.env.kindOf y.1=some .cell∨X.env.kindOf y.1=some .free
 len:N'.length=own.length+X.N.length
 up:∀i x,N'[own.length+i]?=some x->Vis (IR scope X.env) x->(X.N[i]?=some x/\Vis X.env.scope x/\((IR scope X.env).names.lookup x=some .cell∨(IR scope X.env).names.lookup x=some .free)/\X.env.kindOf x≠some .local)/\(x,CF)∉scope.names/\(x,Ej)∈scope.names
 vis:∀x,((IR scope X.env).names.lookup x=some .cell∨(IR scope X.env).names.lookup x=some .free)->(x,Ej)∈scope.names∨(x,CF)∈scope.names
theorem EV:∀(names:List (Str×ND)) (n:Nat) (i:List (Str×AJ)) (x:Str) (c:AJ),(Bg n names i).lookup x=some c ->
  ((x,CF)∈names/\n<=c)∨i.lookup x=some c
 | [],_,_,_,_,h=>.inr h
 | (y,k) :: r,n,i,x,c,h=>by
  unfold Bg at h;split at h
  ·rename_i j
   have j:k=.cell:=by simpa using j
   subst j
   rcases EV r (n+1) _ x c h with⟨g,l⟩ | g
   ·exact .inl ⟨AM _ g,OB l⟩
   ·rw[BM]at g
    cases hb:x==y with
    | true=>rw[hb]at g;cases g;rw[beq_iff_eq.mp hb];exact .inl ⟨Aa,AN _⟩
    | false=>rw[hb]at g;exact .inr g
  ·rcases EV r n i x c h with⟨g,l⟩ | g
   ·exact .inl ⟨AM _ g,l⟩
   ·exact .inr g
theorem Cc:∀(names:List (Str×ND)) (n:Nat) (g:List (Str×AJ)) (x:Str),(∃c,g.lookup x=some c)->∃c,(Bg n names g).lookup x=some c
 | [],_,_,_,h=>h
 | (y,k) :: r,n,g,x,h=>by
  unfold Bg;split
  ·refine Cc r (n+1) _ x ?_
   rw[BM]
   cases hb:x==y with
   | true=>exact⟨_,rfl⟩
   | false=>exact h
  ·exact Cc r n g x h
theorem DI:∀(names:List (Str×ND)) (n:Nat) (g:List (Str×AJ)) (x:Str),(x,CF)∈names->∃c,(Bg n names g).lookup x=some c/\n<=c
 | (y,k) :: r,n,g,x,h=>by
  unfold Bg
  by_cases j:(x,CF)∈r
  ·split
   ·obtain⟨c,i,m⟩:=DI r (n+1) ((y,n) :: g) x j
    exact⟨c,i,OB m⟩
   ·exact DI r n g x j
  ·rcases An.mp h with e | e
   ·cases e
    rw[qX (show(CF==CF)=true from rfl)];obtain⟨c,l⟩:=Cc r (n+1) ((y,n) :: g) y ⟨n,by rw[BM,beq_self_eq_true]⟩
    rcases EV r (n+1) _ y c l with⟨i,_⟩ | i
    ·exact(j i).elim
    ·rw[BM,beq_self_eq_true]at i
     cases i;exact⟨n,l,AN _⟩
   ·exact(j e).elim
theorem LK(l:(x,CF)∉names)(h:g.lookup x=some c):(Bg n names g).lookup x=some c:=by
 obtain⟨m,j⟩:=Cc names n g x ⟨c,h⟩
 rcases EV names n g x m j with⟨i,_⟩ | i
 ·exact(l i).elim
 ·rw[h]at i;cases i;exact j
theorem IL:∀(names:List (Str×ND)) (n:Nat) (g:List (Str×AJ)),(∀x c,g.lookup x=some c->c < n)->(∀x y c,g.lookup x=some c->g.lookup y=some c->x=y) ->
  ∀x y c,(Bg n names g).lookup x=some c->(Bg n names g).lookup y=some c->x=y
 | [],_,_,_,h=>h
 | (z,k) :: r,n,g,j,h=>by
  unfold Bg;split
  ·have i:∀x c,((z,n) :: g).lookup x=some c->(x=z/\c=n)∨g.lookup x=some c:=λx c q=>by
    rw[BM]at q
    cases hb:x==z with
    | true=>rw[hb]at q;cases q;exact .inl ⟨beq_iff_eq.mp hb,rfl⟩
    | false=>rw[hb]at q;exact .inr q
   refine IL r (n+1) _ (λx c q=>?_) λx y c o s=>?_
   ·rcases i x c q with⟨_,rfl⟩ | e
    ·exact Cb _
    ·exact Io (j x c e)
   ·rcases i x c o with⟨e,A⟩ | e <;> rcases i y c s with⟨l,m⟩ | l
    ·rw[e,l]
    ·subst A;exact zX (j _ _ l) (Cf _)
    ·subst m;exact zX (j _ _ e) (Cf _)
    ·exact h x y c e l
  ·exact IL r n g j h
theorem IK:∀(names:List (Str×ND)) (h:Bt) (g:List (Str×AJ)) (x:Str) (c:AJ),(Bg h.objs.size names g).lookup x=some c->g.lookup x=some c∨((Dv h names).IsCell c none/\h.objs.size<=c)
 | [],_,_,_,_,q=>.inl q
 | (y,k) :: r,h,g,x,c,q=>by
  unfold Bg at q;unfold Dv;split at q
  ·rename_i i
   rw[qX i];have:=IK r (h.push { cls:=.type "cell",data:=.cell none }) ((y,h.objs.size) :: g) x c (by rw[C8];exact q)
   rcases this with e | ⟨e,l⟩
   ·rw[BM]at e
    cases hb:x==y with
    | true=>
     rw[hb]at e;cases e;exact .inr ⟨⟨_,S9 _ _ _ _ (AX _ rfl),rfl⟩,AN _⟩
    | false=>rw[hb]at e;exact .inl e
   ·exact .inr ⟨e,by rw[C8]at l;exact OB l⟩
  ·rename_i i
   rw[qY i];exact IK r h g x c q
theorem U1
  (h:Q (newEnv scope s.heap.objs.size globals (Bg (s.heap.push { cls:=.type "dict",data:=.dict #[] }).objs.size scope.names o) i none .none (some g) Uj) { s with heap:=Dv (s.heap.push { cls:=.type "dict",data:=.dict #[] }) scope.names }) :
  AZ M A (Uf scope globals o [] i none .none (some g)) Q E s:=by
 simp only[Uf,WE,if_true];refine AA (wpAny_alloc ?_);refine AA (wpAny_layCells _ (λm j cells=>by cases l:j==CF <;> simp[l]) _ _ _ _ ?_);rw[LN];exact AA (AE (AE h))
section
theorem Vv(J:L8 X scope own N')(I:Inv X ζ O L B)(E:∀b∈fp,M2 X ζ L b)(rR:∀b∈fp,b < B.heap.objs.size)
  (g:∀n c,A.lookup n=some c->X.env.cells.lookup n=some c) (c2:∀y∈scope.names,y.2=.free->∃c,A.lookup y.1=some c)
  (P:B.heap.objs.size<=n) (Q:∀x c,(Bg n scope.names A).lookup x=some c->A.lookup x=some c∨(s.heap.IsCell c none/\n<=c)) (vc:∀c,n<=c->H c=none)
  (R:B.heap.objs.size<=C) (hn:s.heap.Ns C m) (rA:s.os=B.os) (hg:HV s.gens)
  (u:Un (frs X.stack) fp L H B.heap s.heap) (S:HOk X.prog X.w H s.heap) (qW:H C=none) :
  Inv (DR X scope N' (Bg n scope.names A) C B L fp (X.pn++ζ)) [] (A7 own.length none++O) H s:=by
 have l:∀x c v,A.lookup x=some c->B.heap.IsCell c v->s.heap.IsCell c v:=by
  rintro x c v e ⟨o,T,hd⟩
  obtain⟨sl,q⟩:=u.any T (I.freeC x c (g x c e)) λz=>(E c z).2.2.2.2.1 x c (g x c e) rfl
  exact⟨_,q,hd⟩
 have zV:∀x c,A.lookup x=some c->c < n:=λx c e=>by
  obtain⟨v,z⟩:=I.cell x c (g x c e);exact AY z.lt P
 have zW:(DR X scope N' (Bg n scope.names A) C B L fp (X.pn++ζ)).Ok:=by
  refine⟨I.ok.mod,J.kind,I.ok.glob,I.ok.blt,R,IL _ _ _ zV λx y c h1 h2=>I.ok.inj x y c (g x c h1) (g y c h2),λx hx=>?_,λx c z q=>?_,I.ok.hd,I.ok.frames,.inl rfl,λb hb=>?_,I.bs,Ae I.ok.bsz I.sz,λb o e hb=>?_,λb hb oP=>?_,I.stack,I.stkFree⟩
  ·rcases J.vis x hx with h | h
   ·exact Cc _ _ _ _ (c2 _ h rfl)
   ·obtain⟨c,U,_⟩:=DI scope.names n A x h
    exact⟨c,U⟩
  ·have z:(scope.names.lookup x==some .cell)=true:=z
   obtain⟨c',G,Y⟩:=DI scope.names n A x (Cr (beq_iff_eq.mp z));have q:(Bg n scope.names A).lookup x=some c:=q;rw[G]at q;cases q;exact Ae P Y
  ·refine⟨Al (AY (rR b hb) R),λx c e=>?_⟩
   rcases Q x c e with e | ⟨_,e⟩
   ·exact(E b hb).2.2.2.2.1 x c (g x c e)
   ·exact Fe (AY (rR b hb) (Ae P e))
  ·obtain⟨_,_,_,z,_⟩:=E b hb
   rcases z with z | z
   ·exact I.ok.noex b o e z
   ·exact zX (AY (AV (I.ok.bs b o e).1) z) (Cf _)
  ·obtain⟨_,z1,z2,_⟩:=E b hb
   rcases An.mp (I.stkSub b oP)with e | e
   ·exact z1 e
   ·exact z2 e
 refine⟨zW,rA,hg,u,⟨m,hn,λi x v e1 N e3=>?_⟩,λx c e=>?_,qW,λx c e=>?_,λp Z=>?_,S,?_⟩
 ·have hi:own.length<=i:=by
   apply Oz
   intro nH;rw[Af (by simpa using nH),Cm,qX nH]at N;cases N
  obtain⟨j,rfl⟩:∃j,i=own.length+j:=⟨i - own.length,by lia⟩
  rw[Au (by simp)]at N
  have zY:O[j]?=some (some v):=by simpa using N
  obtain⟨⟨n1,n2,n3,n4⟩,n5,n6⟩:=J.up j x e1 e3;obtain⟨m0,vN,Y⟩:=I.loc;obtain⟨w',r,lk⟩:=Y j x v n1 zY n2;refine⟨w',r,.inr ⟨n3,?_⟩⟩
  rcases lk with⟨k,_⟩ | ⟨_,c,U,oi⟩
  ·exact(n4 k).elim
  ·obtain⟨c',G⟩:=c2 _ n6 rfl
   have e:=g x c' G;rw[U]at e;cases e;exact⟨c,LK n5 G,l x c _ G oi⟩
 ·rcases Q x c e with e | ⟨e,_⟩
  ·obtain⟨v,z⟩:=I.cell x c (g x c e)
   exact⟨v,l x c v e z⟩
  ·exact⟨none,e⟩
 ·rcases Q x c e with e | ⟨_,e⟩
  ·obtain⟨v,o,T,hd⟩:=I.cell x c (g x c e)
   exact u.free c o T (I.freeC x c (g x c e)) λz=>(E c z).2.2.2.2.1 x c (g x c e) rfl
  ·exact vc c e
 ·have yC:p∈X.pn++ζ:=by
   have Z:p∈(X.pn++ζ)++[]:=Z;rwa [BV]at Z
  obtain⟨e,n,ne,nf,d⟩:=I.pin p yC
  have yD:p.1∉frs X.stack:=λz=>(An.mp (I.stkSub _ z)).elim ne nf
  have yE:p.1∉fp:=λz=>(E _ z).2.2.2.2.2 p yC rfl
  exact⟨u.keep p.1 p.2 e n yD yE,u.free p.1 p.2 e n yE,Al (AY (AV e) R),yD,d⟩
 ·show(A7 own.length none++O).length=N'.length
  rw[AW,Ku,I.len,J.len]
noncomputable def ZZ(k:Nat)(L:TI)(g:TG)(tc:TT)(te:TE):TE:=λB H Q=>L B H λJ C=>∀p,C p=none->∃W:Nat->Nat->St->Hp->List V->Prop,(∃m,W 0 m (A7 k none++B) (upd C p (.lst [])) []) /\
 ∀i m s o l,W i m s o l->o p=some (.lst l)/\((J.stop i o/\Q (.ref p) o)∨(J.go i o/\l.length < sizeLine/\∀x E,J.yld i o x E->g x s E λj N=>tc j N λb G=>
  if b=true then te j G λy I=>I p=some (.lst l)/\∃A,A < m/\W (i+1) A j (upd I p (.lst (l++[y]))) (l++[y])else ∃A,A < m/\W (i+1) A j G l))
theorem YT{X':Cx}{I ϖ iter:Expr}{L:List Expr}{pos:Pos}{J:It}{it p:AJ}{tn:Nat->Bt->Prop}{g:TG}{tc:TT}{te:TE}{R:Result->AG->Prop}{Q:Hp->Prop}
  (hc:X'.calm=true) (hx:X'.xe=λ_ _=>False) (T:UQ X'.prog X'.w X'.K ϖ J fp it tn) (hg:PG X' ϖ g) (qf:Yd X' L tc) (he:PE X' I te)
  (W:Nat->Nat->St->Hp->List V->Prop) (turn:∀i m j l xs,W i m j l xs->l p=some (.lst xs)/\((J.stop i l/\Q l)∨(J.go i l/\xs.length < sizeLine/\∀x qd,J.yld i l x qd->g x j qd λG H2=>tc G H2 λb H3=>
   if b=true then te G H3 λy H4=>H4 p=some (.lst xs)/\∃C,C < m/\W (i+1) C G (upd H4 p (.lst (xs++[y]))) (xs++[y])else ∃C,C < m/\W (i+1) C G H3 xs)))
  (fin:∀j l s',Inv X' [] j l s'->Q l->R (.ok .next) s')
  {m0:Nat} {N:St} {H0:Hp} {s0:AG} (I0:Inv X' [] N H0 s0) (zZ:tn 0 s0.heap) (f0:∀b∈fp,M2 X' [] H0 b) (w0:W 0 m0 N H0 []) :
  LZ (AR X'.prog X'.w) X'.A (.compLoop (.ListComp I [⟨ϖ,iter,L,0⟩] scope pos) 0 (.ref it) (.ref p) X'.env) R s0:=by
 have pE:∀{l:Hp},(∀b∈fp,l b=none)->∀b∈fp,M2 X' [] l b:=λhn b hb=>⟨hn b hb,(f0 b hb).2⟩
 refine codeAny_loop rfl (λn s'=>∃i j l xs,Inv X' [] j l s'/\tn i s'.heap/\(∀b∈fp,l b=none)/\W i n j l xs) (λn s1 hI=>?_) m0 ⟨0,N,H0,[],I0,zZ,λb hb=>(f0 b hb).1,w0⟩;obtain⟨i,B,H1,xs,I1,nD,yF,w1⟩:=hI;show AZ _ X'.A ((compTurn (.ListComp I [⟨ϖ,iter,L,0⟩] scope pos) 0 (.ref it) (.ref p) X'.env).onRaise (λx=>do Yg x X'.env;theTreesLotGoes x)) _ _ s1;refine wpAny_noted ?_;rw[compTurn_list]
 have up:∀{α:Type} {t:Sem α} {P:α->AG->Prop} {E:AD->AG->Prop} {s:AG},AZ (AR X'.prog X'.w) X'.A t P X'.xe s->AZ (AR X'.prog X'.w) X'.A t P E s:=λh=>BX h (λ_ _ z=>z) λ_ _ z=>by rw[hx]at z;exact z.elim
 obtain⟨hp,tQ⟩:=turn i n B H1 xs w1;refine AA (DE (AA ?_))
 rcases tQ with⟨Z,q⟩ | ⟨go,hz,step⟩
 ·refine up (thn (T.done X' rfl rfl rfl hc i [] s1 B H1 X'.xe I1 (pE yF) nD Z) λr s4 ⟨hr,I4⟩=>?_)
  subst hr;exact AE (fin B H1 s4 I4 q)
 ·refine up (thn (T.item X' rfl rfl rfl hc i [] s1 B H1 X'.xe I1 (pE yF) nD go) λr s4 ⟨u,hr,h4⟩=>?_)
  subst hr;refine AA (up (thn h4 λ_ s5 ⟨x,H5,I5,r5,y5,qv,fr5⟩=>?_));have vD:=I5.pinned (pE fr5) (T.obj _ _ qv);refine AA (up (thn (hg _ s5 B H5 x u _ vD r5 (step x H5 y5)) λ_ s6 ⟨O,H6,I6,q6⟩=>?_))
  have kD:∀{S:AG} {H:St} {U:Hp} {ys:List V},Inv X' ([]++Pd fp s5.heap) H U S->(∃C,C < n/\W (i+1) C H U ys)->∃m,m < n/\∃i j l xs,Inv X' [] j l S/\tn i S.heap/\(∀b∈fp,l b=none)/\W i m j l xs:=λ{S H U ys} Y ⟨C,hm,w7⟩=>by
   refine⟨C,hm,i+1,H,U,ys,Y.unpinned,T.keep _ _ _ qv λb hb o e=>(Y.pin (b,o) (A8 _ (A8 _ (JQ hb e)))).1,λb hb=>?_,w7⟩;obtain⟨o,e,d⟩:=T.obj _ _ qv b hb;exact(Y.pin (b,o) (A8 _ (A8 _ (JQ hb e)))).2.1
  refine AA (up (thn (qf _ s6 O H6 _ I6 q6) λok S ⟨U,Y,q7⟩=>?_))
  cases ok with
  | false=>
   rw[qY Ac]at q7;exact AE ⟨rfl,kD Y q7⟩
  | true=>
   rw[qX rfl]at q7;refine AA (AA (up (thn (he _ S O U _ Y q7) λyv s8 ⟨y,H8,I8,r8,hp8,q8⟩=>?_)));refine AA (up (thn (RC (X:=X') _ s8 O H8 (.ref p) [y] (.ref p) [yv] (λv H9=>v=.non/\H9=upd H8 p (.lst (xs++[y]))) I8 rfl (.cons r8 .nil) ⟨p,xs,y,rfl,rfl,hp8,hz,rfl,rfl⟩) λv9 s9 ⟨v,H9,I9,r9,e9,e10⟩=>?_));subst e10;exact AE (AE ⟨rfl,kD I9 q8⟩)
end
section
theorem RQ(H:Inv X A I m i)(J:Inv (DR X scope N' U C i m fp (X.pn++A)) [] L j s')(N:i.heap.objs.size<=C)(O:∀b∈fp,M2 X A m b)
  (s:Ek C s'.heap h'):Inv X A I j { s' with heap:=h' }:=by
 have B:∀b o,i.heap.get? b=some o->b≠C:=λb o e=>Al (AY (AV e) N)
 have g:Un (frs X.stack) fp m j i.heap s'.heap:=J.base
 have u:Un (frs X.stack) fp m j i.heap h':=by
  refine⟨λb o e n hb l=>(s.2 b (B b o e)).trans (g.keep b o e n hb l),λb o e n hb l=>?_,g.free,λb o e l=>?_,g.tups,g.frzs,g.tbls⟩
  ·obtain⟨sl,q⟩:=g.slot b o e n hb l
   exact⟨sl,(s.2 b (B b o e)).trans q⟩
  ·obtain⟨P,q⟩:=g.there b o e l
   exact⟨P,(s.2 b (B b o e)).trans q⟩
 have G:j C=none:=J.free
 have E:HOk X.prog X.w j h':=λa o e=>(J.hok a o e).stay (λb u hb q=>(s.2 b λz=>by
  subst z
  rcases hb with z | z
  ·subst z;rw[G]at e;cases e
  ·rw[G]at z;cases z).trans q) (λ_ q=>q) λ_ _ q=>q
 exact H.call' (s':={ s' with heap:=h' }) (ch:=fp) J.os u E J.bare λb hb=>by
  obtain⟨_,Q,Y,R,S,T⟩:=O b hb;exact⟨R,Q,S,T⟩
theorem P8{σ:St}{E:AD->AG->Prop}{Qf:AJ->Hp->Prop}{RR:AD->AJ->Result->AG->Prop}{it:AJ}{J:It}{tn:Nat->Bt->Prop}(hc:X.calm=true)(Sc:L8 X scope own N')
  (hg:∀H C l B ex pn,PG (DR X scope N' H C l B ex pn) ϖ g) (qf:∀H C l B ex pn,Yd (DR X scope N' H C l B ex pn) Y tc) (he:∀H C l B ex pn,PE (DR X scope N' H C l B ex pn) Z te)
  (c1:∀n c,H.lookup n=some c->X.env.cells.lookup n=some c) (c2:∀y∈scope.names,y.2=.free->∃c,H.lookup y.1=some c)
  (U:Inv X ζ σ I s2) (T:UQ X.prog X.w X.K ϖ J fp it tn) (n8:tn 0 s2.heap) (f2:∀b∈fp,M2 X ζ I b)
  (q2:∀p,I p=none->∃W:Nat->Nat->St->Hp->List V->Prop,(∃m,W 0 m (A7 own.length none++σ) (upd I p (.lst [])) []) /\
   ∀i m L N xs,W i m L N xs->N p=some (.lst xs)/\((J.stop i N/\Qf p N)∨(J.go i N/\xs.length < sizeLine/\∀x qd,J.yld i N x qd->g x L qd λO I=>tc O I λb G=>
    if b=true then te O G λy j=>j p=some (.lst xs)/\∃m',m' < m/\W (i+1) m' O (upd j p (.lst (xs++[y]))) (xs++[y])else ∃m',m' < m/\W (i+1) m' O G xs)))
  (B':∀D C H L N s',s2.heap.objs.size<=C->Inv (DR X scope N' H C s2 I fp (X.pn++ζ)) [] L N s'->Qf D N->RR (.ref D) C (.ok .next) s') :
  AZ (AR X.prog X.w) X.A (newList []) (λacc s₃=>AZ (AR X.prog X.w) X.A (Uf scope X.env.globals H [] X.env.qual none .none (some X.env)) (λtR s₄=>
   LZ (AR X.prog X.w) X.A (.compStart (.ListComp Z [⟨ϖ,iter,Y,0⟩] scope pos) 0 (.ref it) acc { tR with scope:=IR scope X.env }) (RR acc tR.locals) s₄) E s₃) E s2:=by
 have rR:∀b∈fp,b < s2.heap.objs.size:=λb hb=>by
  obtain⟨o,e,_⟩:=T.obj _ _ n8 b hb;exact AV e
 refine CP (U1 ?_);dsimp only;generalize R:s2.heap.push { cls:=.type "list",dict:=none,data:=.seq ([]:List AD).toArray }=G;generalize S:G.push { cls:=.type "dict",data:=.dict #[] }=j
 have hC:G.objs.size=s2.heap.objs.size+1:=by rw[<-R,C8]
 have D':j.objs.size=G.objs.size+1:=by rw[<-S,C8]
 have hDC:s2.heap.objs.size≠G.objs.size:=by rw[hC];exact Al (Cb _)
 have qD:s2.heap.objs.size<=G.objs.size:=by rw[hC];exact Ip _
 have tU:s2.heap.objs.size<=j.objs.size:=by rw[D'];exact Nat.le_succ_of_le qD
 have tW:∀b o,G.get? b=some o->(Dv j scope.names).get? b=some o:=λb o e=>S9 _ _ _ _ (S▸AB _ e)
 have old:∀b o,s2.heap.get? b=some o->(Dv j scope.names).get? b=some o:=λb o e=>tW b o (R▸AB _ e)
 have vO:(Dv j scope.names).get? s2.heap.objs.size=some { cls:=.type "list",dict:=none,data:=.seq ([]:List AD).toArray }:=tW _ _ (R▸AX _ rfl)
 have vP:(Dv j scope.names).Ns G.objs.size λ_=>none:=by
  have:=(Bt.Ns.new G (.type "dict")).keeps (S9 scope.names (G.push { cls:=.type "dict",data:=.dict #[] }));rw[S]at this;exact this
 have hD:I s2.heap.objs.size=none:=U.hok.fresh (AN _);have u:Un (frs X.stack) fp I (upd I s2.heap.objs.size (.lst [])) s2.heap (Dv j scope.names):=Un.laid old (AN _) hD;have hok:HOk X.prog X.w (upd I s2.heap.objs.size (.lst [])) (Dv j scope.names):=U.hok.laid old (AN _) ⟨Eg _,[],0,.nil,vO⟩
 have vc:∀c,s2.heap.objs.size < c->upd I s2.heap.objs.size (.lst []) c=none:=λc h=>by rw[A5 (Fe h)];exact U.hok.fresh (KI h)
 have qW:upd I s2.heap.objs.size (.lst []) G.objs.size=none:=vc _ (by rw[hC];exact Cb _)
 have hcl:∀x c,(Bg j.objs.size scope.names H).lookup x=some c->H.lookup x=some c∨((Dv j scope.names).IsCell c none/\j.objs.size<=c):=λx c e=>IK scope.names j H x c e
 obtain⟨W,⟨m0,w0⟩,turn⟩:=q2 s2.heap.objs.size hD
 have P:∀s₃:AG,s₃={ s2 with heap:=Dv j scope.names } ->
   LZ (AR X.prog X.w) X.A (.compLoop (.ListComp Z [⟨ϖ,iter,Y,0⟩] scope pos) 0 (.ref it) (.ref s2.heap.objs.size) (compEnvC scope (Bg j.objs.size scope.names H) G.objs.size X.env))
    (RR (.ref s2.heap.objs.size) G.objs.size) s₃:=by
  rintro s₃ rfl
  have J0:Inv (DR X scope N' (Bg j.objs.size scope.names H) G.objs.size s2 I fp (X.pn++ζ)) [] (A7 own.length none++σ) (upd I s2.heap.objs.size (.lst [])) { s2 with heap:=Dv j scope.names }:=
   Vv (s:={ s2 with heap:=Dv j scope.names }) Sc U f2 rR c1 c2 tU hcl (λc h=>vc c (by lia)) qD vP rfl U.bare u hok qW
  refine YT (X':=DR X scope N' (Bg j.objs.size scope.names H) G.objs.size s2 I fp (X.pn++ζ)) (fp:=fp) (Q:=Qf s2.heap.objs.size) hc rfl T (hg _ _ _ _ _ _) (qf _ _ _ _ _ _) (he _ _ _ _ _ _) W turn (λL N s' J q=>B' _ _ _ L N s' qD J q) J0 (T.keep _ _ _ n8 λb _ o e=>old b o e) (λb hb=>?_) w0;obtain⟨z0,z1,z2,z3,z4,z5⟩:=f2 b hb;refine⟨by rw[A5 (Al (rR b hb))];exact z0,Al (AY (rR b hb) qD),λz=>?_,.inl hb,λx c e=>?_,λp hp=>?_⟩
  ·exact(An.mp (U.stkSub _ z)).elim z1 z2
  ·rcases hcl x c e with e | ⟨_,e⟩
   ·exact z4 x c (c1 x c e)
   ·exact Fe (AY (rR b hb) (Ae tU e))
  ·have hp:p∈(X.pn++ζ)++[]:=hp
   rw[BV]at hp;exact z5 p hp
 exact codeAny_compStart_list (P _ rfl) (T.self X.A 0 _ _ _ (T.keep _ _ _ n8 λb _ o e=>old b o e) (P _ rfl))
theorem di(U:X.calm=true)(o:L8 X scope own N')(hi:PI X N iter Y)
  (Z:∀l C i j ex pn,PG (DR X scope N' l C i j ex pn) N g) (qf:∀l C i j ex pn,Yd (DR X scope N' l C i j ex pn) B tc) (he:∀l C i j ex pn,PE (DR X scope N' l C i j ex pn) E te)
  (hs:∀x,Ei iter X.env x=pure x:=by intro _;rfl):PE X (.ListComp E [⟨N,iter,B,0⟩] scope pos) (ZZ own.length Y g tc te):=by
 intro O s P H Q I h;rw[eval_ListComp];obtain⟨l,qg,c1,c2⟩:=XC (scope:=scope) (env:=X.env) (λy hy hf=>I.ok.has y.1 (o.free y hy hf));refine XO (use:=none) rfl hs qg o.kind o.names (thn (hi O s P H _ I h) λv s1 h1=>thn h1 λitv s2 h2=>?_);obtain⟨it,fp,tn,J,H2,rfl,R,T,n8,S,q2⟩:=h2
 refine P8 (Qf:=λp G=>Q (.ref p) G) (RR:=λL C=>compPost (AR X.prog X.w) X.A X.xe none (EP X O P Q) L C) U o Z qf he c1 c2 R T n8 S q2 λD C G' σ' G s' hC J q=>?_
 obtain⟨m,hn,_⟩:=J.loc;exact⟨m,hn,λh' sb=>⟨.ref D,G,RQ R J hC S sb,rfl,q⟩⟩
theorem dU{i:Nat}{y:Str}{G qE:Pos}(hc:X.calm=true)(vQ:EY (.ListComp B [⟨S,iter,E,0⟩] scope pos) (some (.Name y G)) qE.line X.env=pure true)
  (hN:X.N.Nodup) (Z:X.N[i]?=some y) (rS:Loc X.env.scope y) (U:L8 X scope own N') (hi:PI X S iter wi)
  (hg:∀L C j l ex pn,PG (DR X scope N' L C j l ex pn) S g) (qf:∀L C j l ex pn,Yd (DR X scope N' L C j l ex pn) E tc) (he:∀L C j l ex pn,PE (DR X scope N' L C j l ex pn) B te)
  (hs:∀x,Ei iter X.env x=pure x:=by intro _;rfl) (hf:X.fn y=true∨X.env.scope.names.lookup y=some .local:=by first | exact .inl rfl | exact .inr rfl | assumption) :
  PS X (.Assign [.Name y G] (.ListComp B [⟨S,iter,E,0⟩] scope pos) qE) (k6 (ZZ own.length wi g tc te) (W1 i)):=by
 intro Y s σ H D I h;rw[exec_Assign_Name_used _ _ _ _ vQ];refine AA (DE (AA ?_));show AZ _ X.A (do let _ <-comprehension (.ListComp B [⟨S,iter,E,0⟩] scope pos) scope X.env _ (newList []) false (Bi iter X.env) (some (Ul (.Name y G) X.env))) _ _ s;obtain⟨L,qg,c1,c2⟩:=XC (scope:=scope) (env:=X.env) (λy Z hf=>I.ok.has y.1 (U.free y Z hf))
 refine AA (BX (XO (use:=some (Ul (.Name y G) X.env)) (Q:=λ_ s'=>SP X Y D .next s') rfl hs qg U.kind U.names
  (thn (hi Y s σ H _ I h) λv s1 h1=>thn h1 λitv s2 h2=>?_)) (λ_ s' hq=>AE (AE hq)) λ_ _ e=>e)
 obtain⟨it,fp,tn,J,H2,rfl,O,T,n8,f2,q2⟩:=h2
 refine P8 (Qf:=λp P=>D.nx (σ.set i (some (.ref p))) P) (RR:=λacc C=>compPost (AR X.prog X.w) X.A X.xe (some (Ul (.Name y G) X.env)) (λ_ s'=>SP X Y D .next s') acc C) hc U hg qf he c1 c2 O T n8 f2 q2 λA C G' σ' P s' R J q=>?_
 obtain⟨m,hn,_⟩:=J.loc;have I3:Inv X Y σ P s':=RQ O J R f2 (mw ..);have qW:P C=none:=J.free
 have oi:∀x c,X.env.cells.lookup x=some c->c≠C:=λx c e z=>by
  obtain⟨v,q⟩:=O.cell x c e;exact zX (AY q.lt (by rw[z];exact R)) (Cf _)
 have qZ:C≠X.env.locals:=Fe (AY O.lt R);show AZ _ X.A (Ul (.Name y G) X.env (.ref A)) _ _ s';refine j9 (Q6 (v:=.ref A) I3 hN Z rS rfl (λs4 I4 ⟨a,sb,ha⟩=>?_) hf)
 have J':C≠a:=by
  rcases ha with e | e
  ·rw[e];exact qZ
  ·exact B8 (oi _ _ e)
 refine⟨m,hn.sameBut sb J',λh' K'=>⟨_,P,?_,q⟩⟩
 refine I4.turned (t':=s4.toks) (it:=C) (λb o hb e=>(K'.2 b hb).trans e) qW qZ (.inr (Ae O.sz R)) oi λp hp z=>?_
 exact zX (AY (AV (O.pin p hp).1) (by rw[z];exact R)) (Cf _)
end
noncomputable def E0(v:Nd)(g:MG)(c:MT)(m:ME):Nat->Nat->Lo->Sto->List D->Res (List D)
 | k,i,e,S,j=>match v S with
  | none=>.bad
  | some s=>match s[i]? with
   | none=>.ok j S
   | some d=>match k with
    | 0=>.bad
    | k+1=>if j.length < sizeLine then(okR (g d e S)).bind λl A=>(okR (c l A)).bind λb o=>if b=true then(okR (m l o)).bind λy B=>E0 v g c m k (i+1) l B (j++[y])else E0 v g c m k (i+1) l o j else .bad
noncomputable def Ho(n:Nat)(j:MI)(g:MG)(c:MT)(m:ME):ML:=λe S=>(j e S).bind λv i=>E0 v g c m (Cg v i) 0 (A7 n none++e) i []
noncomputable def Ju:MT:=λ_ S=>.ok true S
section
noncomputable abbrev j6(X:Cx)(E:EW)(g:List Expr)(c:MT):Prop:=Yd X g (gT X.K E c)
theorem Ii:j6 X E [] Ju:=by
 rintro g s i H Q I ⟨j,l,S,o,m,hm⟩
 exact Zy g s i H Q I (hm j H .refl m)
theorem Eh.grow{K}{j}{H}{e}{l}(n:Nat)(h:Eh K j H e l):Eh K j H (A7 n none++e) (A7 n none++l):=by
 refine⟨by simp[h.len],λi d q=>?_⟩
 by_cases g:i < n
 ·rw[Af (by simpa using g),Cm,qX g]at q
  cases q
 ·rw[Au (by simpa using g)]at q ⊢
  simp only[Ku]at q ⊢;exact h.at' _ d q
theorem Bo.ok_of{g:Type}{K:AC}{E:EH}{i:List AJ}{H:Hp}{r:Res g}{k:g->Sto->Prop}{a:g}{S:Sto}(e:r=.ok a S)(h:k a S):Bo K E i H r k:=by
 subst e;exact h
theorem Ph{g i:Type}{r:Res g}{F:g->Sto->Res i}{b:i}{S:Sto}(h:(okR r).bind F=.ok b S):∃a S1,r=.ok a S1/\F a S1=.ok b S:=by
 cases r with
 | ok a S1=>exact⟨a,S1,rfl,h⟩
 | err c S1=>cases h
 | bad=>cases h
theorem UI:∀(k i:Nat) (e:Lo) (S:Sto) (j:List D),E0 v g c m k i e S j≠.err G S':=by
 intro k
 induction k with
 | zero=>
  intro i e S j h;unfold E0 at h;split at h
  ·cases h
  ·split at h <;> cases h
 | succ k A=>
  intro i e S j h;unfold E0 at h;split at h
  ·cases h
  ·split at h
   ·cases h
   ·dsimp only at h
    split at h
    ·cases l:g _ e S with
     | ok B C=>
      rw[l]at h;dsimp only[okR,Res.bind]at h
      cases o:c B C with
      | ok b E=>
       rw[o]at h;dsimp only[okR,Res.bind]at h
       cases b with
       | true=>
        rw[qX rfl]at h
        cases s:m B E with
        | ok y H=>rw[s]at h;exact A _ _ _ _ h
        | err _ _=>rw[s]at h;cases h
        | bad=>rw[s]at h;cases h
       | false=>
        rw[qY Ac]at h;exact A _ _ _ _ h
      | err _ _=>rw[o]at h;cases h
      | bad=>rw[o]at h;cases h
     | err _ _=>rw[l]at h;cases h
     | bad=>rw[l]at h;cases h
    ·cases h
theorem Ta{K:AC}{n:Nat}{σ:St}{H:Hp}{Q:VK}(h:gL K E (Ho n mi g c m) σ H Q):ZZ n (gI K E mi) (gG K g) (gT K noE c) (gE K noE m) σ H Q:=by
 obtain⟨ρ,l,S,hl,hs,hm⟩:=h;refine⟨ρ,l,S,hl,hs,hm.seq λv U hm ρ1 H1 J l1 s1 vo p hp=>?_⟩
 obtain⟨X,T,hm,k⟩:∃X T,E0 v g c m (Cg v U) 0 (A7 n none++l) U []=.ok X T/\∀N H' p I,Le K ρ H N H'->B1 K N T H'->Aq K N H' X I->H' p=some (.lst I)->(∀n:Nat,N[n]?≠some p)->H p=none->Q (.ref p) H':=by
  cases hc:E0 v g c m (Cg v U) 0 (A7 n none++l) U []with
  | ok X T=>rw[hc]at hm;exact⟨X,T,rfl,hm⟩
  | err c T=>exact(UI _ _ _ _ _ hc).elim
  | bad=>rw[hc]at hm;exact hm.elim
 obtain⟨L',tY⟩:=FB (ho:=.lst []) s1 hp;have tM:H p=none:=l1.back hs s1 hp
 refine⟨λi j σ2 P I=>∃B e2 Y G,Le K ρ1 H1 B P/\Eh K B P e2 σ2/\B1 K B Y P/\Aq K B P G I/\P p=some (.lst I)/\(∀q:Nat,B[q]?≠some p)/\E0 v g c m j i e2 Y G=.ok X T,
  ⟨Cg v U,ρ1,_,U,[],tY,(hl.mono (l1.trans tY)).grow n,L',.nil,BU,λq e=>s1.notIn hp e,hm⟩,?_⟩
 rintro i j σ2 P I ⟨B,e2,Y,G,l2,r2,s2,ra,pX,oK,s⟩;refine⟨pX,?_⟩;unfold E0 at s
 cases hv:v Y with
 | none=>rw[hv]at s;cases s
 | some vs=>
  rw[hv]at s;dsimp only at s;obtain⟨v1,v2⟩:=vo B P Y vs i l2 s2 hv
  cases hd:vs[i]? with
  | none=>
   rw[hd]at s;cases s;exact .inl ⟨v1 hd,k B P p I (l1.trans l2) s2 ra pX oK tM⟩
  | some d=>
   rw[hd]at s;dsimp only at s;obtain⟨go,yl⟩:=v2 d hd
   cases j with
   | zero=>cases s
   | succ j=>
    dsimp only at s;split at s
    ·rename_i hz
     obtain⟨e3,S3,h3,s⟩:=Ph s;obtain⟨b,S4,h4,s⟩:=Ph s;refine .inr ⟨go,by rw[<-ra.length];exact hz,λx H' y=>?_⟩;obtain⟨ρ3,Z,s3,rd⟩:=yl x H' y;obtain⟨My,M'⟩:=Z.oth p _ pX oK;refine⟨ρ3,e2,Y,d,rd,r2.mono Z,s3,Bo.ok_of h3 λρ4 H4 σ4 l4 s4 r4=>?_⟩;obtain⟨T',U'⟩:=l4.oth p _ My M';refine⟨ρ4,e3,S3,r4,s4,Bo.ok_of h4 λρ5 H5 R s5=>?_⟩;obtain⟨yG,yH⟩:=R.oth p _ T' U'
     cases b with
     | false=>
      rw[qY Ac]at s ⊢;exact⟨j,Cb j,ρ5,e3,S4,G,l2.trans (Z.trans (l4.trans R)),r4.mono R,s5,ra.mono (Z.trans (l4.trans R)),yG,yH,s⟩
     | true=>
      rw[qX rfl]at s ⊢;obtain⟨yv,S5,h5,s⟩:=Ph s;refine⟨ρ5,e3,S4,r4.mono R,s5,Bo.ok_of h5 λA C y6 l6 s6 r6=>?_⟩;obtain⟨vd,yI⟩:=l6.oth p _ yG yH
      have l7:∀O,Le K A C A (upd C p (.lst O))->True:=λ_ _=>trivial
      have V':∀O:List V,B1 K A S5 (upd C p (.lst O))/\(∀a o,Ee K A C a o->a≠p->Ee K A (upd C p (.lst O)) a o)/\∀e' w',Bc K A C e' w'->Bc K A (upd C p (.lst O)) e' w':=λO=>by
       have L:=FN (H:=C) (p:=p) (ho:=.lst O) (.inr (by rw[vd];trivial))
       have mono:∀e' w',Bc K A C e' w'->Bc K A (upd C p (.lst O)) e' w':=λe' w' r=>r.keep L.1 L.2
       have yJ:∀a o,Ee K A C a o->a≠p->Ee K A (upd C p (.lst O)) a o:=λa o r ne=>r.keep L.1 L.2 (A5 ne)
       exact⟨⟨s6.len,s6.nd,λn o a q1 q2=>yJ a o (s6.ob n o a q1 q2) λz=>yI n (by rw[<-z];exact q2)⟩,yJ,mono⟩
      obtain⟨u1,u2,u3⟩:=V' (I++[y6]);refine⟨vd,j,Cb j,A,e3,S5,G++[yv],?_,?_,u1,?_,BU,yI,s⟩
      ·have lx:=l2.trans (Z.trans (l4.trans (R.trans l6)))
       have L:=FN (H:=C) (p:=p) (ho:=.lst (I++[y6])) (.inr (by rw[vd];trivial))
       exact⟨lx.pre,λa zs q=>L.1 a zs (lx.tup a zs q),λa o u q=>L.2 a o u (lx.frz a o u q),λa o q z=>by
        have W':a≠p:=BQ q hp;obtain⟨z1,z2⟩:=lx.oth a o q z
        exact⟨by rw[A5 W'];exact z1,z2⟩⟩
      ·have rr:=r4.mono (R.trans l6)
       exact⟨rr.len,λq d' hq=>by
        obtain⟨w',z1,z2⟩:=rr.at' q d' hq
        exact⟨w',z1,u3 _ _ z2⟩⟩
      ·have Y':=ra.mono (Z.trans (l4.trans (R.trans l6)))
       have L:=FN (H:=C) (p:=p) (ho:=.lst (I++[y6])) (.inr (by rw[vd];trivial));exact(Y'.keep L.1 L.2).append (.cons (u3 _ _ r6) .nil)
    ·cases s
theorem Oj(B:X.calm=true)(G:L8 X scope own N')(hi:GI X E A iter H)
  (I:∀l C i j ex pn,GG (DR X scope N' l C i j ex pn) A g) (J:∀l C i j ex pn,j6 (DR X scope N' l C i j ex pn) noE o c) (L:∀l C i j ex pn,GE (DR X scope N' l C i j ex pn) noE s m)
  (N:∀x,Ei iter X.env x=pure x:=by intro _;rfl):GL X E (.ListComp s [⟨A,iter,o,0⟩] scope pos) (Ho own.length H g c m):=
 (di (g:=gG X.K g) (tc:=gT X.K noE c) (te:=gE X.K noE m) B G hi I J L N).imp λ_ _ _ h=>Ta h
theorem Wv(hc:X.calm=true)(vQ:EY (.ListComp B [⟨P,iter,G,0⟩] scope pos) (some (.Name y py)) qE.line X.env=pure true)
  (hN:X.N.Nodup) (hy:X.N[i]?=some y) (rS:Loc X.env.scope y) (Sc:L8 X scope own N') (hi:GI X E P iter mi)
  (hg:∀I C j s ex pn,GG (DR X scope N' I C j s ex pn) P g) (qf:∀I C j s ex pn,j6 (DR X scope N' I C j s ex pn) noE G c) (he:∀I C j s ex pn,GE (DR X scope N' I C j s ex pn) noE B m)
  (R:∀x,Ei iter X.env x=pure x:=by intro _;rfl) (hf:X.fn y=true∨X.env.scope.names.lookup y=some .local:=by first | exact .inl rfl | exact .inr rfl | assumption) :
  GS X E (.Assign [.Name y py] (.ListComp B [⟨P,iter,G,0⟩] scope pos) qE) (B5 i (Ha (Ho own.length mi g c m))):=by
 refine(dU (g:=gG X.K g) (tc:=gT X.K noE c) (te:=gE X.K noE m) hc vQ hN hy rS Sc hi hg qf he R hf).imp λD σ H ⟨L,l,S,T,R,hm⟩=>?_
 refine Ta (E:=E) (Q:=λx H'=>D.nx (σ.set i (some x)) H') ⟨L,l,S,T,R,Bo.seq (F:=λU Y=>Res.ok (L2.D.ref Y.length) (Y++[Ob.lst U])) (k:=λd O=>Bo X.K noH L H ((tgN i d l O).bind λe1 O=>.ok (.nx e1) O) λfl S'=>Sf X.K E L H S' D fl) (Bo.lift hm T .refl λd O h=>h) λU Y hm A H1 p xs J s1 r1 hp hn tM=>?_⟩
 have l0:∀(n:Nat) a,A[n]?=some a->(A++[p])[n]?=some a:=λn a h=>by rw[Af (AI.mp h).1];exact h
 obtain⟨s2,Z⟩:=s1.adopt (o:=.lst U) hn ⟨xs,hp,r1.more l0⟩
 have l2:Le X.K L H (A++[p]) H1:=⟨λn a h=>l0 n a (J.pre n a h),J.tup,J.frz,λa o e h=>⟨(J.oth a o e h).1,λn q=>by
  rcases HN q with⟨q,_⟩ | ⟨_,q⟩
  ·exact(J.oth a o e h).2 n q
  ·exact BQ e tM q⟩⟩
 exact hm _ _ _ l2 s2 ((T.mono l2).set (.ref Z) i)
end
end L2
namespace L2
open PySem PySem.Spec PyProof.Rows PySem.SeqAt
noncomputable def Km:D->D->Option Bool
 | .non,.non=>some true
 | .bl a,.bl b=>some (a==b)
 | .int a,.int b=>some (a==b)
 | .str a,.str b=>some (a==b)
 | .non,.int _=>some false
 | .non,.str _=>some false
 | .non,.bl _=>some false
 | .non,.tup _=>some false
 | .int _,.non=>some false
 | .str _,.non=>some false
 | .bl _,.non=>some false
 | .tup _,.non=>some false
 | .int _,.tup _=>some false
 | .tup _,.int _=>some false
 | _,_=>none
noncomputable def eqL(f:D->D->Option Bool):List D->List D->Option Bool
 | [],[]=>some true
 | [],_ :: _=>some false
 | _ :: _,[]=>some false
 | x :: g,y :: i=>match f x y,eqL f g i with
  | some a,some b=>some (a&&b)
  | _,_=>none
noncomputable def eqP:Nat->D->D->Option Bool
 | 0,x,y=>Km x y
 | n+1,x,y=>match x,y with
  | .tup g,.tup i=>eqL (eqP n) g i
  | x,y=>Km x y
theorem Kl(h:eqL f (x :: xs) (y :: ys)=some b):∃a c,f x y=some a/\eqL f xs ys=some c/\b=(a&&c):=by
 unfold eqL at h;split at h
 ·rename_i a c g i
  cases h;exact⟨a,c,g,i,rfl⟩
 ·cases h
theorem W7:∀{xs ys:List D} {b:Bool},eqL f xs ys=some b->(∀(j:Nat) x y,xs[j]?=some x->ys[j]?=some y->∃c,f x y=some c) /\
  b=((Bd (min xs.length ys.length)).all (λj=>match xs[j]?,ys[j]? with | some x,some y=>(f x y).getD false | _,_=>false)&&xs.length==ys.length)
 | [],[],b,h=>by cases h;exact⟨λj x y h=>by simp at h,by simp⟩
 | [],y :: ys,b,h=>by cases h;exact⟨λj x y h=>by simp at h,by simp⟩
 | x :: xs,[],b,h=>by cases h;exact⟨λj x y _ h=>by simp at h,by simp⟩
 | x :: xs,y :: ys,b,h=>by
  obtain⟨a,c,l,m,rfl⟩:=Kl h;obtain⟨o,s⟩:=W7 m;refine⟨λj A B g i=>?_,?_⟩
  ·cases j with
   | zero=>simp at g i;subst g;subst i;exact⟨a,l⟩
   | succ j=>exact o j A B (by simpa using g) (by simpa using i)
  ·rw[s,AU,AU,show min (xs.length+1) (ys.length+1)=min xs.length ys.length+1 by lia,List.range_succ_eq_map,gY,Ub]
   simp only[List.getElem?_cons_zero,l,Im,Function.comp_def,Jp];rw[Bool.and_assoc]
   congr 1
   congr 1
   rw[Bool.eq_iff_iff];simp
section
variable{K:AC}{ρ:List AJ}{H:Hp}
theorem W4(n k:Nat)(y:D):eqP n (.ref k) y=none:=by cases n <;> cases y <;> rfl
theorem W5(n:Nat)(ds:List D)(y:D):eqP n (.fro ds) y=none:=by cases n <;> cases y <;> rfl
theorem W6(n:Nat)(c:AJ)(y:D):eqP n (.exc c) y=none:=by cases n <;> cases y <;> rfl
theorem Mc(o:Bc K ρ H x v)(g:Bc K ρ H i v):x=i∨(∃ds j l,x=.tup ds/\i=.tup j/\Aq K ρ H ds l/\Aq K ρ H j l)∨(∀n y,eqP n x y=none)∨∀n y,eqP n i y=none:=by
 cases o with
 | non=>cases g;exact .inl rfl
 | bl b=>cases g;exact .inl rfl
 | int b=>cases g;exact .inl rfl
 | str b=>cases g;exact .inl rfl
 | fro _ _=>exact .inr (.inr (.inl λn y=>W5 n _ y))
 | ref _=>exact .inr (.inr (.inl λn y=>W4 n _ y))
 | exc _ _=>exact .inr (.inr (.inl λn y=>W6 n _ y))
 | tup s A=>
  cases g with
  | fro _ _=>exact .inr (.inr (.inr λn y=>W5 n _ y))
  | ref _=>exact .inr (.inr (.inr λn y=>W4 n _ y))
  | exc _ _=>exact .inr (.inr (.inr λn y=>W6 n _ y))
  | tup m B=>
   rw[s]at m;cases m;exact .inr (.inl ⟨_,_,_,rfl,rfl,A,B⟩)
theorem ei:∀(n:Nat) {x A y:D} {v:V} {b b':Bool},Bc K ρ H x v->Bc K ρ H A v->eqP n x y=some b->eqP n A y=some b'->b=b':=by
 intro n
 induction n with
 | zero=>
  intro x A y v b b' G I h i
  rcases Mc G I with rfl | ⟨B,J,l,rfl,rfl,_,_⟩ | q | q
  ·rw[h]at i;cases i;rfl
  ·have:eqP 0 (.tup B) y=eqP 0 (.tup J) y:=by cases y <;> rfl
   rw[<-this,h]at i;cases i;rfl
  ·rw[q]at h;cases h
  ·rw[q]at i;cases i
 | succ n N=>
  intro x A y v b b' G I h i
  have lists:∀{C:List D} {l:List V} {E j:List D} {b b':Bool},Aq K ρ H C l->Aq K ρ H E l->eqL (eqP n) C j=some b->eqL (eqP n) E j=some b'->b=b':=by
   intro C
   induction C with
   | nil=>
    intro l E j b b' m o g s;cases m;cases o;rw[g]at s;cases s;rfl
   | cons d B L=>
    intro l E j b b' m o g s
    cases m with
    | cons O P=>
     cases o with
     | cons Q R=>
      cases j with
      | nil=>cases g;cases s;rfl
      | cons y j=>
       obtain⟨p,q,S,T,rfl⟩:=Kl g;obtain⟨Y,Z,U,X,rfl⟩:=Kl s;rw[N O Q S U,L P R T X]
  rcases Mc G I with rfl | ⟨B,J,l,rfl,rfl,m,o⟩ | q | q
  ·rw[h]at i;cases i;rfl
  ·by_cases c:∃j,y=.tup j
   ·obtain⟨j,rfl⟩:=c
    exact lists m o h i
   ·have:eqP (n+1) (.tup B) y=eqP (n+1) (.tup J) y:=by
     cases y <;> first | rfl | exact(c ⟨_,rfl⟩).elim
    rw[<-this,h]at i;cases i;rfl
  ·rw[q]at h;cases h
  ·rw[q]at i;cases i
theorem Dj(h:Km x x=some b):b=true:=by
 cases x <;> first | (cases h;done) | (cases h;simp)
theorem P5:∀(n:Nat) {x:D} {b:Bool},eqP n x x=some b->b=true
 | 0,_,_,h=>Dj h
 | n+1,x,b,h=>by
  have lists:∀{i:List D} {b:Bool},eqL (eqP n) i i=some b->b=true:=by
   intro i
   induction i with
   | nil=>intro b g;cases g;rfl
   | cons d o j=>
    intro b g;obtain⟨p,q,l,m,rfl⟩:=Kl g;rw[P5 n l,j m];rfl
  cases x with
  | tup i=>exact lists h
  | non=>exact Dj (x:=.non) h
  | bl c=>exact Dj (x:=.bl c) h
  | int c=>exact Dj (x:=.int c) h
  | str c=>exact Dj (x:=.str c) h
  | ref c=>exact Dj (x:=.ref c) h
  | fro c=>exact Dj (x:=.fro c) h
  | exc c=>exact Dj (x:=.exc c) h
theorem K8(g:(∃f,y=.fro f)∨(∃r,y=.ref r)∨∃c,y=.exc c)(n:Nat):eqP n x y=none:=by
 rcases g with⟨f,rfl⟩ | ⟨r,rfl⟩ | ⟨c,rfl⟩ <;> (cases n <;> cases x <;> rfl)
theorem bW(n:Nat)(B:Bc K ρ H x v)(m:Bc K ρ H y v)(h:eqP n x y=some b):b=true:=by
 induction n generalizing x y v b with
 | zero=>
  rcases Mc B m with rfl | ⟨C,E,i,rfl,rfl,_,_⟩ | q | q
  ·exact P5 0 h
  ·cases h
  ·rw[q]at h;cases h
  ·cases m with
   | fro _ _=>rw[K8 (.inl ⟨_,rfl⟩)]at h;cases h
   | ref _=>rw[K8 (.inr (.inl ⟨_,rfl⟩))]at h;cases h
   | exc _ _=>rw[K8 (.inr (.inr ⟨_,rfl⟩))]at h;cases h
   | non=>cases(q 0 .non)
   | bl b=>cases(q 0 (.bl b))
   | int b=>cases(q 0 (.int b))
   | str b=>cases(q 0 (.str b))
   | tup _ _=>cases(q 0 .non)
 | succ n G=>
  have lists:∀{o s:List D} {i:List V} {b:Bool},Aq K ρ H o i->Aq K ρ H s i->eqL (eqP n) o s=some b->b=true:=by
   intro o
   induction o with
   | nil=>intro s i b j l g;cases j;cases l;cases g;rfl
   | cons d C A=>
    intro s i b j l g
    cases j with
    | cons I J=>
     cases l with
     | cons L N=>
      obtain⟨p,q,O,P,rfl⟩:=Kl g;rw[G I L O,A J N P];rfl
  rcases Mc B m with rfl | ⟨C,E,i,rfl,rfl,j,l⟩ | q | q
  ·exact P5 (n+1) h
  ·exact lists j l h
  ·rw[q]at h;cases h
  ·cases m with
   | fro _ _=>rw[K8 (.inl ⟨_,rfl⟩)]at h;cases h
   | ref _=>rw[K8 (.inr (.inl ⟨_,rfl⟩))]at h;cases h
   | exc _ _=>rw[K8 (.inr (.inr ⟨_,rfl⟩))]at h;cases h
   | non=>cases(q 0 .non)
   | bl b=>cases(q 0 (.bl b))
   | int b=>cases(q 0 (.int b))
   | str b=>cases(q 0 (.str b))
   | tup _ _=>cases(q 0 .non)
end
section
variable{X:Cx}{ζ:List (AJ×Obj)}{σ:St}{H:Hp}{s:AG}{ρ:List AJ}
theorem Fm(A:BO):A.in1.units=A.units+1:=rfl
theorem Bb.at_(r:Bb g l)(h:j < l.toArray.size):∃v,g[j]?=some v/\RelV v l.toArray[j]:=by
 have o:j < l.length:=by simpa using h
 have m:j < g.length:=by rw[r.length];exact o
 obtain⟨u,A,B⟩:=r.get (i:=j) (x:=g[j]) (by simp[m]);refine⟨g[j],by simp[m],?_⟩
 have:l.toArray[j]=u:=by
  have:=AI.mp A;obtain⟨_,e⟩:=this;simpa using e
 rw[this];exact B
theorem SD(O:∀(x y:D) (b:Bool) (l m:V) (u v:AD),eqP n x y=some b->Bc X.K ρ H x l->Bc X.K ρ H y m->RelV l u->RelV m v->EqAt A s u v b)
  (h:eqL (eqP n) xs ys=some b) (o:Aq X.K ρ H xs P) (B:Aq X.K ρ H ys ws) (C:Bb P g) (E:Bb ws i) :
  ∃e:Nat->Bool,(∀j (G:j < g.toArray.size) (I:j < i.toArray.size),EqAt A s g.toArray[j] i.toArray[j] (e j))/\b=((Bd (min g.toArray.size i.toArray.size)).all e&&g.toArray.size==i.toArray.size):=by
 obtain⟨Q,R⟩:=W7 h;refine⟨λj=>match xs[j]?,ys[j]? with | some x,some y=>(eqP n x y).getD false | _,_=>false,λj G I=>?_,?_⟩
 ·obtain⟨v,S,T⟩:=Bb.at_ C G
  obtain⟨w,U,Y⟩:=Bb.at_ E I;obtain⟨x,J,Z⟩:=o.get' S;obtain⟨y,L,ry⟩:=B.get' U;obtain⟨c,N⟩:=Q j x y J L;have:=O x y c v w _ _ N Z ry T Y;simp only[J,L,N,Im];exact this
 ·rw[R,o.length,B.length,C.length,E.length]
  simp
theorem Na(I:Inv X ζ σ H s)(j:A.units < Dq)(h:Km x y=some b)(G:Bc X.K ρ H x J)(l:Bc X.K ρ H y L)(m:RelV J u)(g:RelV L v) :
  EqAt A s u v b/\RcAt A s u v b/\RcNeAt A s u v (!b):=by
 cases G with
 | non=>
  cases m
  cases l with
  | non=>cases g;cases h;exact⟨EqAt.same _,RcAt.none_none,RcNeAt.none_none⟩
  | bl c=>cases g;cases h;exact⟨EqAt.none_bool _,RcAt.none_bool _,RcNeAt.none_bool _⟩
  | int i=>obtain⟨t,rfl⟩:=g;cases h;exact⟨EqAt.none_int _ _,RcAt.none_int _ _,RcNeAt.none_int _ _⟩
  | str z=>obtain⟨t,rfl⟩:=g;cases h;exact⟨EqAt.none_str _ _,RcAt.none_str _ _,RcNeAt.none_str _ _⟩
  | tup o B=>
   cases g;cases h;obtain⟨C,_,p,_⟩:=I.tuple (.inl (.inl o));exact⟨EqAt.none_tuple p j,RcAt.none_tuple p j,RcNeAt.none_tuple p j⟩
  | _=>cases h
 | bl a=>
  cases m
  cases l with
  | non=>cases g;cases h;exact⟨EqAt.bool_none _,RcAt.bool_none _,RcNeAt.bool_none _⟩
  | bl c=>cases g;cases h;exact⟨EqAt.bool_bool _ _,RcAt.bool_bool _ _,RcNeAt.bool_bool _ _⟩
  | _=>cases h
 | int a=>
  obtain⟨t,rfl⟩:=m
  cases l with
  | non=>cases g;cases h;exact⟨EqAt.int_none _ _,RcAt.int_none _ _,RcNeAt.int_none _ _⟩
  | int i=>obtain⟨E,rfl⟩:=g;cases h;exact⟨EqAt.int_int _ _ _ _,RcAt.int_int _ _ _ _,RcNeAt.int_int _ _ _ _⟩
  | tup o B=>
   cases g;cases h;obtain⟨C,_,p,_⟩:=I.tuple (.inl (.inl o));exact⟨EqAt.int_tuple _ _ p j,RcAt.int_tuple _ _ p j,RcNeAt.int_tuple _ _ p j⟩
  | _=>cases h
 | str a=>
  obtain⟨t,rfl⟩:=m
  cases l with
  | non=>cases g;cases h;exact⟨EqAt.str_none _ _,RcAt.str_none _ _,RcNeAt.str_none _ _⟩
  | str i=>obtain⟨E,rfl⟩:=g;cases h;exact⟨EqAt.str_str _ _ _ _,RcAt.str_str _ _ _ _,RcNeAt.str_str _ _ _ _⟩
  | _=>cases h
 | tup o B=>
  cases m;obtain⟨C,_,p,_⟩:=I.tuple (.inl (.inl o))
  cases l with
  | non=>cases g;cases h;exact⟨EqAt.tuple_none p j,RcAt.tuple_none p j,RcNeAt.tuple_none p j⟩
  | int i=>obtain⟨E,rfl⟩:=g;cases h;exact⟨EqAt.tuple_int _ _ p j,RcAt.tuple_int _ _ p j,RcNeAt.tuple_int _ _ p j⟩
  | _=>cases h
 | _=>cases h
theorem Vt(I:Inv X ζ σ H s):∀(n:Nat) (A:BO) (x y:D) (b:Bool) (g i:V) (u v:AD),A.units+n < Dq->eqP n x y=some b->Bc X.K ρ H x g->Bc X.K ρ H y i->RelV g u->RelV i v->EqAt A s u v b:=by
 intro n
 induction n with
 | zero=>exact λA x y b g i u v P h l m o B=>(Na I (by omega) h l m o B).1
 | succ n Q=>
  intro A x y b g i u v P h l m o B
  by_cases C:∃E G,x=.tup E/\y=.tup G
  ·obtain⟨E,G,rfl,rfl⟩:=C
   cases l with
   | @tup _ a vs J L=>
    cases m with
    | @tup _ c ws N O=>
     cases o;cases B
     by_cases j:a=c
     ·subst j
      rw[bW (n+1) (.tup J L) (.tup N O) h];exact EqAt.same _
     ·obtain⟨f',R,p,_⟩:=I.tuple (.inl (.inl J))
      obtain⟨nL,S,T,_⟩:=I.tuple (.inl (.inl N));obtain⟨e,U,rfl⟩:=SD (A:=A.in1) (λx y b g i u v Y Z g3 g4 g5=>Q A.in1 x y b g i u v (by rw[Fm];lia) Y Z g3 g4 g5) h L O R S;exact EqAt.of_refs j (kP p T (by lia) U)
  ·have hf:Km x y=some b:=by
    cases x <;> cases y <;> first | exact h | exact(C ⟨_,_,rfl,rfl⟩).elim
   exact(Na I (by lia) hf l m o B).1
noncomputable def SW(d:D)(S:Sto):Option (List D):=match d with
 | .fro g=>some g
 | .ref n=>match S[n]? with
  | some (.lst g)=>some g
  | _=>none
 | _=>none
noncomputable def eqB(x y:D)(S:Sto):Option Bool:=match SW x S,SW y S with
 | some g,some i=>if g.length=i.length then eqL (eqP 8) g i else some false
 | none,none=>eqP 8 x y
 | some _,none=>match y with
  | .tup _=>some false
  | .non=>some false
  | _=>none
 | none,some _=>match x with
  | .tup _=>some false
  | .non=>some false
  | _=>none
noncomputable def eqD(neg:Bool)(x y:D)(S:Sto):Res D:=match eqB x y S with
 | some b=>.ok (.bl (if neg then !b else b)) S
 | none=>.bad
theorem Ml{K}{S}{d}{x}{ds}(g:B1 K ρ S H)(r:Bc K ρ H d x)(h:SW d S=some ds):∃p xs,x=.ref p/\Aq K ρ H ds xs/\SqL K H p xs:=by
 cases r with
 | fro i j=>cases h;exact⟨_,_,rfl,j,i.sq⟩
 | @ref n a l=>
  obtain⟨o,m,A⟩:=g.there l;unfold SW at h;simp only[m]at h
  cases o with
  | lst C=>cases h;obtain⟨E,e,B⟩:=A;exact⟨_,_,rfl,B,.inl (.inl e)⟩
  | _=>cases h
 | _=>cases h
theorem bZ{S}{x y}{b}{C E}{u v}(I:Inv X ζ σ H s)(hu:X.A.units+64 < Dq)(T:B1 X.K ρ S H)(G:Bc X.K ρ H x C)(J:Bc X.K ρ H y E)(L:RelV C u)(N:RelV E v)(h:eqB x y S=some b) :
  RcAt X.A s u v b/\RcNeAt X.A s u v (!b):=by
 unfold eqB at h;split at h
 ·rename_i O ys U Y
  obtain⟨p,vs,rfl,P,sq⟩:=Ml T G U;obtain⟨p',rQ,rfl,vR,Β⟩:=Ml T J Y;cases L;cases N;obtain⟨l,o,g,_⟩:=I.list sq;obtain⟨B,vS,Z,_⟩:=I.list Β;split at h
  ·rename_i j
   obtain⟨e,Q,rfl⟩:=SD (A:=X.A.in1) (λx y b C E u v g1 g2 g3 g4 g5=>Vt I 8 X.A.in1 x y b C E u v (by rw[Fm];lia) g1 g2 g3 g4 g5) h P vR o vS
   have i:l.toArray.size=B.toArray.size:=by
    simp only[Aj];rw[<-o.length,<-vS.length,<-P.length,<-vR.length];exact j
   have e1:((Bd (min l.toArray.size B.toArray.size)).all e&&l.toArray.size==B.toArray.size)=(Bd l.toArray.size).all e:=by
    rw[<-i,Nat.min_self,beq_self_eq_true,Bool.and_true]
   rw[e1];exact⟨RcAt.lists g.isList Z.isList i (by lia) Q,RcNeAt.lists g.isList Z.isList i (by lia) Q⟩
  ·rename_i j
   cases h
   have i:(l.toArray.size != B.toArray.size)=true:=by
    simp only[Aj];rw[<-o.length,<-vS.length,<-P.length,<-vR.length];simpa using j
   exact⟨RcAt.lists_lengths g.isList Z.isList i (by lia),RcNeAt.lists_lengths g.isList Z.isList i (by lia)⟩
 ·by_cases ht:∃O ys,x=.tup O/\y=.tup ys
  ·obtain⟨O,ys,rfl,rfl⟩:=ht
   cases G with
   | tup a1 a2=>
    cases J with
    | tup R b2=>
     cases L;cases N;obtain⟨l,o,p,_⟩:=I.tuple (.inl (.inl a1));obtain⟨B,oQ,m,_⟩:=I.tuple (.inl (.inl R));obtain⟨e,Q,rfl⟩:=SD (n:=7) (A:=X.A.in1) (λx y b C E u v g1 g2 g3 g4 g5=>Vt I 7 X.A.in1 x y b C E u v (by rw[Fm];lia) g1 g2 g3 g4 g5) h a2 b2 o oQ;exact⟨kP p m (by lia) Q,RcNeAt.tuples p m (by lia) Q⟩
  ·have hf:Km x y=some b:=by
    cases x <;> cases y <;> first | exact h | exact(ht ⟨_,_,rfl,rfl⟩).elim
   exact(Na I (by lia) hf G J L N).2
 ·rename_i O U Y
  obtain⟨p,vs,rfl,P,sq⟩:=Ml T G U;cases L;obtain⟨l,o,g,_⟩:=I.list sq;split at h
  ·cases h
   cases J with
   | tup R b2=>
    cases N;obtain⟨B,oQ,m,_⟩:=I.tuple (.inl (.inl R));exact⟨RcAt.list_tuple g.isList m (by lia),RcNeAt.list_tuple g.isList m (by lia)⟩
  ·cases h
   cases J;cases N;exact⟨RcAt.list_none g.isList (by lia),RcNeAt.list_none g.isList (by lia)⟩
  ·cases h
 ·rename_i O U Y
  obtain⟨p,vs,rfl,P,sq⟩:=Ml T J Y;cases N;obtain⟨l,o,g,_⟩:=I.list sq;split at h
  ·cases h
   cases G with
   | tup R b2=>
    cases L;obtain⟨B,oQ,m,_⟩:=I.tuple (.inl (.inl R));exact⟨RcAt.tuple_list m g.isList (by lia),RcNeAt.tuple_list m g.isList (by lia)⟩
  ·cases h
   cases G;cases L;exact⟨RcAt.none_list g.isList (by lia),RcNeAt.none_list g.isList (by lia)⟩
  ·cases h
theorem Hn(i:X.A.units+64 < Dq):OpR X (BG .Eq) (rD X.K (eqD false)):=by
 intro ζ s σ H x y v u Q I j l h;obtain⟨ρ,S,a,b,d,C,g,m,o,hm,k⟩:=h;unfold eqD at hm;split at hm
 ·rename_i c B
  cases hm;exact(bZ I i g m o j l B).1 _ _ _ _ ⟨.bl c,H,I,rfl,k ρ H _ .refl g (.bl _)⟩
 ·cases hm
theorem Pi(i:X.A.units+64 < Dq):OpR X (BG .NotEq) (rD X.K (eqD true)):=by
 intro ζ s σ H x y v u Q I j l h;obtain⟨ρ,S,a,b,d,C,g,m,o,hm,k⟩:=h;unfold eqD at hm;split at hm
 ·rename_i c B
  cases hm;exact(bZ I i g m o j l B).2 _ _ _ _ ⟨.bl (!c),H,I,rfl,k ρ H _ .refl g (.bl _)⟩
 ·cases hm
noncomputable def LV(x:D):List D->Option Bool
 | []=>some false
 | d :: g=>match eqP 8 d x,LV x g with
  | some a,some b=>some (a||b)
  | _,_=>none
noncomputable def inD(neg:Bool)(x y:D)(S:Sto):Res D:=match IE y S with
 | some g=>match LV x g with
  | some b=>.ok (.bl (if neg then !b else b)) S
  | none=>.bad
 | none=>.bad
theorem V2(h:LV x (d :: ds)=some b):∃a c,eqP 8 d x=some a/\LV x ds=some c/\b=(a||c):=by
 unfold LV at h;split at h
 ·rename_i a c g i
  cases h;exact⟨a,c,g,i,rfl⟩
 ·cases h
open Classical in
theorem Mx(I:Inv X ζ σ H s)(P:A.units+8 < Dq)(Q:Bc X.K ρ H x R)(S:RelV R v):∀{ds:List D} {C:List V} {l:List AD} {b:Bool},Aq X.K ρ H ds C->Bb C l->LV x ds=some b ->
  ∃e:AD->Bool,(∀y∈l,EqAt A s y v (e y))/\b=l.any e:=by
 intro ds C l b r q h
 let e:AD->Bool:=λy=>decide (∃d w,d∈ds/\Bc X.K ρ H d w/\RelV w y/\eqP 8 d x=some true)
 have all:∀{g:List D} {m:List V} {i:List AD} {o:Bool},(∀d∈g,d∈ds)->Aq X.K ρ H g m->Bb m i->LV x g=some o->(∀y∈i,EqAt A s y v (e y))/\o=i.any e:=by
  intro g
  induction g with
  | nil=>intro m i o _ r q h;cases r;cases q;cases h;exact⟨(λ_ z=>nomatch z),rfl⟩
  | cons d g T=>
   intro m i o L r q h
   cases r with
   | cons E U=>
    cases q with
    | @cons w y _ _ G Y=>
     obtain⟨a,c,J,Z,rfl⟩:=V2 h;obtain⟨i1,i2⟩:=T (λz j=>L z (AM _ j)) U Y Z
     have N:e y=a:=by
      by_cases B:∃d w,d∈ds/\Bc X.K ρ H d w/\RelV w y/\eqP 8 d x=some true
      ·obtain⟨d',w',_,O,g2,g3⟩:=id B
       rw[RelV.inj g2 G]at O;have:=ei 8 O E g3 J;rw[<-this];exact wX B
      ·have:a=false:=by
        cases a with
        | false=>rfl
        | true=>exact(B ⟨d,_,L d Aa,E,G,J⟩).elim
       rw[this];exact wY B
     refine⟨λz j=>?_,by rw[Ge,N,<-i2]⟩
     rcases An.mp j with rfl | j
     ·rw[N]
      exact Vt I 8 A d x a _ _ _ _ P J E Q G S
     ·exact i1 z j
 obtain⟨e1,e2⟩:=all (λ_ h=>h) r q h;exact⟨e,e1,e2⟩
theorem lY(O:X.A.units+64 < Dq):OpR X (BG .In) (rD X.K (inD false)):=by
 intro ζ s σ H x y v u Q I B J h;obtain⟨ρ,S,a,b,d,P,g,C,L,hm,k⟩:=h;unfold inD at hm;split at hm
 ·rename_i R N
  split at hm
  ·rename_i c E
   cases hm;obtain⟨p,T,rfl,G,sq⟩:=OZ g L N;cases J
   rcases sq with sq | sq
   ·obtain⟨i,j,l,_⟩:=I.list sq
    obtain⟨e,m,rfl⟩:=Mx I (A:=X.A.in1) (by rw[Fm];lia) C B G j E;exact in_listAt e l.isList (λz o=>m z (by simpa using o)) ⟨.bl (i.toArray.any e),H,I,rfl,by rw[Jq];exact k ρ H _ .refl g (.bl _)⟩
   ·obtain⟨i,j,l,_⟩:=I.tuple sq
    obtain⟨e,m,rfl⟩:=Mx I (A:=X.A.in1) (by rw[Fm];lia) C B G j E;exact in_tupleAt e l (λz o=>m z (by simpa using o)) ⟨.bl (i.toArray.any e),H,I,rfl,by rw[Jq];exact k ρ H _ .refl g (.bl _)⟩
  ·cases hm
 ·cases hm
theorem aD(O:X.A.units+64 < Dq):OpR X (BG .NotIn) (rD X.K (inD true)):=by
 intro ζ s σ H x y v u Q I B J h;obtain⟨ρ,S,a,b,d,P,g,C,L,hm,k⟩:=h;unfold inD at hm;split at hm
 ·rename_i R N
  split at hm
  ·rename_i c E
   cases hm;obtain⟨p,T,rfl,G,sq⟩:=OZ g L N;cases J
   rcases sq with sq | sq
   ·obtain⟨i,j,l,_⟩:=I.list sq
    obtain⟨e,m,rfl⟩:=Mx I (A:=X.A.in1) (by rw[Fm];lia) C B G j E;exact notIn_listAt e l.isList (λz o=>m z (by simpa using o)) ⟨.bl (!i.toArray.any e),H,I,rfl,by rw[Jq];exact k ρ H _ .refl g (.bl _)⟩
   ·obtain⟨i,j,l,_⟩:=I.tuple sq
    obtain⟨e,m,rfl⟩:=Mx I (A:=X.A.in1) (by rw[Fm];lia) C B G j E;exact notIn_tupleAt e l (λz o=>m z (by simpa using o)) ⟨.bl (!i.toArray.any e),H,I,rfl,by rw[Jq];exact k ρ H _ .refl g (.bl _)⟩
  ·cases hm
 ·cases hm
end
open PySem PySem.Spec PyProof.Rows
noncomputable def NU(mo ma:ME):ME:=λe S=>(mo e S).bind λd g=>match d with
 | .ref n=>match g[n]? with
  | some (.lst _)=>(ma e g).bind λy i=>match i[n]? with
   | some (.lst j)=>if j.length < sizeLine then .ok .non (i.set n (.lst (j++[y])))else .bad
   | _=>.bad
  | _=>.bad
 | _=>.bad
section
variable{X:Cx}{E:EW}{o e:Expr}{mo ma:ME}
theorem Wf{K}{g}{S}{H}{n}{x}{xs}(s:B1 K g S H)(r:Bc K g H (.ref n) x)(h:S[n]?=some (.lst xs)):∃a vs,x=.ref a/\g[n]?=some a/\H a=some (.lst vs)/\Aq K g H xs vs:=by
 cases r with
 | ref i=>
  obtain⟨vs,e,j⟩:=s.ob n _ _ h i;exact⟨_,vs,rfl,i,e,j⟩
theorem Fq(ho:GE X E o mo)(P:GE X E e ma)(R:EZ o "append" X.env (Bi o X.env)=Bi o X.env:=by rfl)
  (T:((CN j (AO [e] X.env)).all (λx=>!x.1)&&(GZ j (Df [] X.env)).all (λx=>x.1.isSome)
    &&decide ([e].length+([]:List Nk).length+(if ([]:List Nk).isEmpty then 0 else 1) < 30))=true:=by rfl)
  (U:(i.endLine==j.line)=true:=by rfl) (m:AO [e] X.env=(false,Bi e X.env) :: AO [] X.env:=by rfl) (Y:(CN j (AO [] X.env)).any (·.1)=false:=by rfl) :
  GE X E (.Call (.Attribute o "append" i) [e] [] j) (NU mo ma):=(Z6 PySem.F.plainAttrs_list PySem.F.slot_list_append PySem.F.type_list_append RC ho (C6 P Eu m) R T U m Y).imp<|by
 rintro σ H Q ⟨Z,l,S,C,m,hm⟩
 refine⟨Z,l,S,C,m,hm.seq λx S1 hm s H1 v A G r1=>?_⟩
 cases x <;> first | exact hm.elim | skip
 rename_i n;dsimp only at hm;split at hm
 ·rename_i xs0 h0
  obtain⟨a,vs,rfl,hn,e0,_⟩:=Wf G r1 h0;refine⟨.inl ⟨rfl,vs,.inl (.inl e0)⟩,s,l,S1,C.mono A,G,(hm.later A).seq λy S2 hm g I u J L r2=>?_⟩;split at hm
  ·rename_i xs h3
   split at hm
   ·rename_i hz
    have B:=J.pre n a hn;obtain⟨ws,N,O⟩:=L.ob n _ _ h3 B;have le:Le X.K g I g (upd I a (.lst (ws++[u]))):=Le.write B (by rw[N];trivial);obtain⟨s3,l3⟩:=L.write (ho:=.lst (ws++[u])) (o:=.lst (xs++[y])) B ⟨_,BU,(O.append (.cons r2 .nil)).mono le⟩ le;exact⟨a,ws,u,rfl,rfl,N,by rw[<-O.length];exact hz,hm g _ _ (A.trans (J.trans l3)) s3 .non⟩
   ·exact hm.elim
  ·exact hm.elim
 ·exact hm.elim
end
noncomputable def IB{g β:Type}[DecidableEq g](i:List (g×β))(k:g):Option β:=(i.find? λj=>decide (j.1=k)).map (·.2)
noncomputable def Pc{i j:Type}[DecidableEq i](l:List (i×j))(k:i)(v:j):List (i×j):=
 if (l.any λg=>decide (g.1=k))=true then l.map (λg=>if g.1=k then(g.1,v)else g)else l++[(k,v)]
section
variable{κ:Type}[DecidableEq κ]{K:AC}{ρ:List AJ}{H:Hp}
theorem KVR.val(k:κ):∀{x:List (κ×D)} {y:List (κ×V)},KVR K ρ H x y->(IB x k=none->JF y k=none)/\∀d,IB x k=some d->∃v,JF y k=some v/\Bc K ρ H d v
 | _,_,.nil=>⟨λ_=>rfl,λd h=>by cases h⟩
 | (g,a) :: x,(l,b) :: y,.cons r t=>by
  obtain⟨i,j⟩:=r;dsimp only at i j;subst i;unfold IB JF;rw[Co,Co]
  by_cases e:g=k
  ·simp only[e,decide_true]
   exact⟨(λh=>nomatch h),(λd h=>by cases h;exact⟨b,rfl,j⟩)⟩
  ·simp only[e,decide_false]
   exact KVR.val k t
theorem KVR.any(k:κ):∀{x:List (κ×D)} {y:List (κ×V)},KVR K ρ H x y->(x.any λi=>decide (i.1=k))=y.any λi=>decide (i.1=k)
 | _,_,.nil=>rfl
 | (g,a) :: x,(j,b) :: y,.cons r t=>by
  rw[Ge,Ge,KVR.any k t,show g=j from r.1]
theorem KVR.repl(k:κ)(j:Bc K ρ H d v):∀{x:List (κ×D)} {y:List (κ×V)},KVR K ρ H x y->KVR K ρ H (x.map λi=>if i.1=k then(i.1,d)else i) (y.map λi=>if i.1=k then(i.1,v)else i)
 | _,_,.nil=>.nil
 | (g,a) :: x,(o,b) :: y,.cons r t=>by
  obtain⟨l,m⟩:=r;dsimp only at l m;subst l;rw[Ao,Ao];refine .cons ?_ (KVR.repl k j t)
  by_cases e:g=k
  ·rw[qX e,qX e];exact⟨rfl,j⟩
  ·rw[qY e,qY e];exact⟨rfl,m⟩
theorem KVR.put(k:κ)(g:Bc K ρ H d v)(h:KVR K ρ H x y):KVR K ρ H (Pc x k d) (Jy y k v):=by
 unfold Pc Jy;rw[KVR.any k h];split
 ·exact KVR.repl k g h
 ·exact UZ h ⟨rfl,g⟩
end
noncomputable def ao:D->Option Key
 | .int i=>some (.inl i)
 | .str x=>some (.inr x)
 | _=>none
noncomputable def RI:List D->Option (List Key)
 | []=>some []
 | d :: g=>match ao d,RI g with
  | some k,some i=>some (k :: i)
  | _,_=>none
theorem Og{K}{g}{H}{d}{v}{k}(r:Bc K g H d v)(h:ao d=some k):v=kV k:=by
 cases r <;> first | (cases h;done) | (cases h;rfl)
theorem Mm{K}{j}{H}:∀{ds:List D} {i:List V} {g:List Key},Aq K j H ds i->RI ds=some g->i=g.map kV
 | _,_,_,.nil,h=>by cases h;rfl
 | _,_,_,.cons r t,h=>by
  unfold RI at h;split at h
  ·rename_i k g l m
   cases h;rw[Og r l,Mm t m];rfl
  ·cases h
noncomputable def YS(x y:D)(S:Sto):Option (Option D):=match x with
 | .ref n=>match S[n]? with
  | some (.dK g)=>match ao y with
   | some k=>some (IB g k)
   | none=>none
  | some (.dT g)=>match y with
   | .tup i=>match RI i with
    | some j=>some (IB g j)
    | none=>none
   | _=>none
  | some (.fK g)=>match ao y with
   | some k=>some (IB g k)
   | none=>none
  | some (.fT g)=>match y with
   | .tup i=>match RI i with
    | some j=>some (IB g j)
    | none=>none
   | _=>none
  | _=>none
 | _=>none
theorem Sh{K}{C}{S}{H}{x y}{O P}{o}(s:B1 K C S H)(Q:Bc K C H x O)(E:Bc K C H y P)(h:YS x y S=some o) :
  ∃a I,O=.ref a/\M3 H a P I/\(o=none->I=none)/\∀d,o=some d->∃v,I=some v/\Bc K C H d v:=by
 unfold YS at h;split at h
 ·rename_i n
  cases Q with
  | @ref _ a G=>
   split at h
   ·rename_i J g
    split at h
    ·rename_i k i
     cases h;obtain⟨j,e,r⟩:=s.ob n _ _ g G;rw[Og E i];obtain⟨l,m⟩:=KVR.val k r;exact⟨a,JF j k,rfl,M3.k e,l,m⟩
    ·cases h
   ·rename_i J g
    split at h
    ·rename_i R
     split at h
     ·rename_i A i
      cases h;obtain⟨j,e,r⟩:=s.ob n _ _ g G
      cases E with
      | tup B L=>
       obtain⟨l,m⟩:=KVR.val A r;rw[Mm L i]at B;exact⟨a,JF j A,rfl,M3.t e B,l,m⟩
     ·cases h
    ·cases h
   ·rename_i J g
    split at h
    ·rename_i k i
     cases h;obtain⟨N,j,e,r⟩:=s.ob n _ _ g G;rw[Og E i];obtain⟨l,m⟩:=KVR.val k r;exact⟨a,JF j k,rfl,(.inl ⟨_,_,.inr ⟨N,e⟩,rfl,rfl⟩),l,m⟩
    ·cases h
   ·rename_i J g
    split at h
    ·rename_i R
     split at h
     ·rename_i A i
      cases h;obtain⟨N,j,e,r⟩:=s.ob n _ _ g G
      cases E with
      | tup B L=>
       obtain⟨l,m⟩:=KVR.val A r;rw[Mm L i]at B;exact⟨a,JF j A,rfl,(.inr ⟨_,_,_,.inr ⟨N,e⟩,rfl,B,rfl⟩),l,m⟩
     ·cases h
    ·cases h
   ·cases h
 ·cases h
noncomputable def W8(x y:D)(S:Sto):Res D:=match YS x y S with
 | some (some d)=>.ok d S
 | _=>.bad
noncomputable def OP(neg:Bool)(y x:D)(S:Sto):Res D:=match YS x y S with
 | some o=>.ok (.bl (if neg then !o.isSome else o.isSome)) S
 | none=>.bad
section
variable{X:Cx}{E:EW}{mo mi mv:ME}
theorem eg(L:X.A.units+1 < Dq)(ho:GE X E o mo)(hi:GE X E i mi)(j:jz i:=by intro _ _;rfl):GE X E (.Subscript o i pos) (m2 W8 mo mi):=(dh L ho hi j).imp λN H Q h=>by
 refine(Li h:tOp (rD X.K W8) (gE X.K E mo) (gE X.K E mi) N H Q) |> λt=>?_
 obtain⟨O,l,S,P,j,k⟩:=t;refine⟨O,l,S,P,j,k.imp λx S1 k m R u T U Y=>?_⟩;obtain⟨s,Z,S2,t8,oj,B⟩:=k m R u T U Y;refine⟨s,Z,S2,t8,oj,B.imp λy S3 B C I v l3 s3 r3=>?_⟩;obtain⟨G,S4,x4,y4,d,S5,J,r4,r5,hm,k4⟩:=B C I v l3 s3 r3;unfold W8 at hm;split at hm
 ·rename_i d' hd
  cases hm;obtain⟨a,o',rfl,g,_,g2⟩:=Sh J r4 r5 hd;obtain⟨w',rfl,oQ⟩:=g2 _ rfl;exact⟨a,w',rfl,g,k4 G I w' .refl J oQ⟩
 ·cases hm
theorem c8{i}{H}{Q}(h:gE X.K E (m2 (OP false) mi mo) i H Q):kt (gE X.K E mi) (gE X.K E mo) i H Q:=by
 obtain⟨J,l,S,L,N,k⟩:=(Li h:tOp (rD X.K (OP false)) (gE X.K E mi) (gE X.K E mo) i H Q);refine⟨J,l,S,L,N,k.imp λx S1 k j O u P R T=>?_⟩;obtain⟨m,U,Y,Z,oj,o⟩:=k j O u P R T;refine⟨m,U,Y,Z,oj,o.imp λy S3 o s B v l3 s3 r3=>?_⟩;obtain⟨A,S4,x4,y4,d,S5,C,r4,r5,hm,k4⟩:=o s B v l3 s3 r3;unfold OP at hm;split at hm
 ·rename_i G hd
  cases hm;obtain⟨a,I,rfl,g,g1,g2⟩:=Sh C r5 r4 hd;refine⟨a,I,rfl,g,?_⟩
  have:I.isSome=G.isSome:=by
   cases G with
   | none=>rw[g1 rfl];rfl
   | some d=>obtain⟨w',rfl,_⟩:=g2 d rfl;rfl
  rw[this];exact k4 A B _ .refl C (.bl _)
 ·cases hm
theorem VD{i}{H}{Q}(h:gE X.K E (m2 (OP true) mi mo) i H Q):WW (gE X.K E mi) (gE X.K E mo) i H Q:=by
 obtain⟨J,l,S,L,N,k⟩:=(Li h:tOp (rD X.K (OP true)) (gE X.K E mi) (gE X.K E mo) i H Q);refine⟨J,l,S,L,N,k.imp λx S1 k j O u P R T=>?_⟩;obtain⟨m,U,Y,Z,oj,o⟩:=k j O u P R T;refine⟨m,U,Y,Z,oj,o.imp λy S3 o s B v l3 s3 r3=>?_⟩;obtain⟨A,S4,x4,y4,d,S5,C,r4,r5,hm,k4⟩:=o s B v l3 s3 r3;unfold OP at hm;split at hm
 ·rename_i G hd
  cases hm;obtain⟨a,I,rfl,g,g1,g2⟩:=Sh C r5 r4 hd;refine⟨a,I,rfl,g,?_⟩
  have:I.isSome=G.isSome:=by
   cases G with
   | none=>rw[g1 rfl];rfl
   | some d=>obtain⟨w',rfl,_⟩:=g2 d rfl;rfl
  rw[this];exact k4 A B _ .refl C (.bl _)
 ·cases hm
theorem aV{K}{m}{i}{H}{Q}(h:gT K E (mB m) i H Q):gE K E m i H λx H1=>∃c,x=.bl c/\Q c H1:=by
 obtain⟨j,l,S,o,s,hm⟩:=h;refine⟨j,l,S,o,s,hm.seq λd G hm g H1 x A B C=>?_⟩
 cases d <;> first | exact hm.elim | skip
 cases C;exact⟨_,rfl,hm g H1 A B⟩
theorem jX(g:X.A.units+1 < Dq)(hi:GE X E i mi)(ho:GE X E o mo)(j:Ck .In o=false:=by rfl):GT X E (.Compare i [.In] [o] pos) (mB (m2 (OP false) mi mo)):=(Zu (ik g hi ho) j).imp λ_ _ _ h=>c8 (aV h)
theorem YF(g:X.A.units+1 < Dq)(hi:GE X E i mi)(ho:GE X E o mo)(j:Ck .NotIn o=false:=by rfl):GT X E (.Compare i [.NotIn] [o] pos) (mB (m2 (OP true) mi mo)):=(Zu (Xz g hi ho) j).imp λ_ _ _ h=>VD (aV h)
noncomputable def aU:ME:=λ_ S=>.ok (.ref S.length) (S++[.dT []])
theorem bL:GE X E (.Dict [] [] pos) aU:=(Z5 (X:=X) (pos:=pos)).imp<|by
 rintro A H Q ⟨B,l,S,C,i,k⟩ p j
 obtain⟨m,s,g⟩:=i.alloc (ho:=.dT []) (o:=.dT []) j ⟨[],BU,.nil⟩;exact k _ _ _ s m (.ref g)
noncomputable def eo(x y v:D)(S:Sto):Option Sto:=match x with
 | .ref n=>match S[n]? with
  | some (.dK g)=>match ao y with
   | some k=>if g.length < sizeLine then some (S.set n (.dK (Pc g k v)))else none
   | none=>none
  | some (.dT g)=>match y with
   | .tup i=>match RI i with
    | some j=>if g.length < sizeLine then some (S.set n (.dT (Pc g j v)))else none
    | none=>none
   | _=>none
  | _=>none
 | _=>none
noncomputable def PV(mo mi mv:ME):MS:=λe S=>(mv e S).lift e λv g=>(mo e g).lift e λx i=>(mi e i).lift e λy j=>match eo x y v j with
 | some l=>.ok (.nx e) l
 | none=>.bad
theorem eV(hu:X.A.units+1 < Dq)(ho:GE X E o mo)(hi:GE X E i mi)(hv:GE X E value mv)(T:EY value (some (.Subscript o i G)) pos.line X.env=pure false:=by rfl):GS X E (.Assign [.Subscript o i G] value pos) (PV mo mi mv):=(dS hu ho hi hv T).imp<|by
 rintro D σ H ⟨ρ,l,S,B,T,hm⟩
 refine⟨ρ,l,S,B,T,hm.lift B .refl λv S1 hm U H1 N m s1 r1=>⟨U,l,S1,B.mono m,s1,(hm.later m).lift (B.mono m) m λx S2 hm Y H2 xv s s2 r2=>⟨Y,l,S2,B.mono (m.trans s),s2,(hm.later s).lift (B.mono (m.trans s)) (m.trans s) λy S3 hm j O yv I P r3=>?_⟩⟩⟩;have yK:=r1.mono (s.trans I);have Γ:=r2.mono I;have yL:=B.mono (m.trans (s.trans I));split at hm
 ·rename_i S4 g
  unfold eo at g;split at g
  ·rename_i n
   cases Γ with
   | @ref _ a C=>
    split at g
    ·rename_i Z h4
     split at g
     ·rename_i Q hk
      split at g
      ·rename_i hz
       cases g;obtain⟨J,e,r⟩:=P.ob n _ _ h4 C;rw[Og r3 hk];have le:Le X.K j O j (upd O a (.dK (Jy J Q N))):=Le.write C (by rw[e];trivial);obtain⟨s5,L⟩:=P.write (ho:=.dK (Jy J Q N)) (o:=.dK (Pc Z Q v)) C ⟨_,BU,(KVR.put Q yK r).mono le⟩ le;exact⟨a,_,rfl,US.k e (by rw[<-KVR.length r];exact hz),hm j _ σ (m.trans (s.trans (I.trans L))) s5 (yL.mono L)⟩
      ·cases g
     ·cases g
    ·rename_i Z h4
     split at g
     ·rename_i ds
      split at g
      ·rename_i R hk
       split at g
       ·rename_i hz
        cases g;obtain⟨J,e,r⟩:=P.ob n _ _ h4 C
        cases r3 with
        | tup b1 b2=>
         rw[Mm b2 hk]at b1;have le:Le X.K j O j (upd O a (.dT (Jy J R N))):=Le.write C (by rw[e];trivial);obtain⟨s5,L⟩:=P.write (ho:=.dT (Jy J R N)) (o:=.dT (Pc Z R v)) C ⟨_,BU,(KVR.put R yK r).mono le⟩ le;exact⟨a,_,rfl,US.t e b1 (by rw[<-KVR.length r];exact hz),hm j _ σ (m.trans (s.trans (I.trans L))) s5 (yL.mono L)⟩
       ·cases g
      ·cases g
     ·cases g
    ·cases g
  ·cases g
 ·exact hm.elim
end
section
variable{X:Cx}{E:EW}{a b c:Expr}{pos:Pos}
theorem Xi{K}{f g}{J}{H}{Q}(h:gE K E (m3 f g ma T U) J H Q):Za (rD K f) (rD K g) (gE K E ma) (gE K E T) (gE K E U) J H Q:=by
 obtain⟨Y,l,S,A,Z,hm⟩:=h;refine⟨Y,l,S,A,Z,hm.seq λx S1 hm B H1 u i s1 r1=>⟨B,l,S1,A.mono i,s1,(hm.later i).seq λy L hm C H2 v j s2 N=>?_⟩⟩
 cases s:f x y L with
 | bad=>rw[s]at hm;exact hm.elim
 | err _ _=>rw[s]at hm;exact hm.elim
 | ok z O=>
  rw[s]at hm;dsimp only[okR,Res.bind]at hm;refine⟨C,L,x,y,z,O,s2,r1.mono j,N,s,λm H3 w o P r3=>?_⟩
  cases z with
  | bl k=>
   cases r3;refine⟨k,rfl,?_⟩
   cases k with
   | true=>
    rw[qX rfl];refine⟨m,l,O,A.mono (i.trans (j.trans o)),P,Bo.seq (hm.later (j.trans o)) λw S4 hm G H4 wv R s4 r4=>?_⟩;obtain⟨d,S',e,k⟩:=hm.okR;exact⟨G,S4,y,w,d,S',s4,N.mono (o.trans R),r4,e,λI H' z l' s' r'=>k I H' z (i.trans (j.trans (o.trans (R.trans l')))) s' r'⟩
   | false=>rw[qY Ac];exact hm m H3 _ (i.trans (j.trans o)) P (.bl false)
  | _=>exact hm.elim
theorem Kf(ho:OpR X (BG op) (rD X.K f))(j:OpR X (BG i) (rD X.K g))(l:GE X E a ma)(hb:GE X E b m)(o:GE X E c s)
  (hm:lastMarks [op,i] [b,c]=false:=by with_unfolding_all rfl):GT X E (.Compare a [op,i] [b,c] pos) (mB (m3 f g ma m s)):=(Zv ho j l hb o hm).imp λ_ _ _ h=>Xi (aV h)
noncomputable def Qh(m:ME):ME:=λe S=>(m e S).bind λd g=>match d with
 | .int i=>.ok (.int (-i)) g
 | _=>.bad
theorem Lv(h:GE X E a ma):GE X E (.UnaryOp .USub a pos) (Qh ma):=(lK g9 h).imp<|by
 rintro C H Q ⟨i,l,S,j,m,hm⟩
 refine⟨i,l,S,j,m,hm.seq λd G hm g o x s A B=>?_⟩
 cases d <;> first | exact hm.elim | skip
 cases B;exact⟨_,rfl,hm g o _ s A (.int _)⟩
end
noncomputable abbrev MO:=Lo->Sto->Res (Option Int)
noncomputable def gO(K:AC)(E:EW)(m:MO):TO:=λl H Q=>∃i e S,Eh K i H e l/\B1 K i S H/\Bo K (λc=>E c l) i H (m e S) λo s=>∀g j,Le K i H g j->B1 K g s j->Q o j
noncomputable abbrev GO(X:Cx)(E:EW)(e:Option Expr)(m:MO):Prop:=PO X e (gO X.K E m)
noncomputable def HK:MO:=λ_ S=>.ok none S
noncomputable def Ew(m:ME):MO:=λe S=>(m e S).bind λd g=>match d with
 | .int i=>.ok (some i) g
 | _=>.bad
noncomputable def DQ{α:Type}(xs:List α)(lo hi:Option Int):List α:=(xs.drop (HT.sIx xs.length 0 lo)).take (HT.sIx xs.length xs.length hi - HT.sIx xs.length 0 lo)
noncomputable def Y7(n:Nat)(lo hi:Option Int):Bool:=decide (HT.sIx n 0 lo=0/\HT.sIx n n hi=n)
noncomputable def R8(d:D)(lo hi:Option Int)(S:Sto):Res D:=match d with
 | .tup g=>if Y7 g.length lo hi=true then .bad else .ok (.tup (DQ g lo hi)) S
 | _=>match SW d S with
  | some g=>.ok (.ref S.length) (S++[.lst (DQ g lo hi)])
  | none=>.bad
noncomputable def DZ(m:ME)(ml g:MO):ME:=λe S=>(m e S).bind λd i=>(ml e i).bind λlo j=>(g e j).bind λl o=>okR (R8 d lo l o)
section
variable{X:Cx}{E:EW}{e:Expr}{lo hi:Option Expr}{pos p2:Pos}{m:ME}{ml mh:MO}
theorem PO.imp(h:PO X o t)(i:∀g H Q,t' g H Q->t g H Q):PO X o t':=λj s g H Q I q=>h j s g H Q I (i g H Q q)
theorem EX:GO X E none HK:=PO.imp dY λj H Q ⟨g,l,S,o,i,hm⟩=>hm g H .refl i
theorem DJ(h:GE X E e m):GO X E (some e) (Ew m):=PO.imp (dX h)<|by
 rintro G H Q ⟨i,l,S,j,o,hm⟩
 refine⟨i,l,S,j,o,hm.seq λd I hm g s x A B C=>?_⟩
 cases d <;> first | exact hm.elim | skip
 cases C;exact⟨_,rfl,hm g s A B⟩
theorem UH{K}{g}{H}{ds}{i}(r:Aq K g H ds i)(lo hi:Option Int):Aq K g H (DQ ds lo hi) (P7 i lo hi):=by
 unfold DQ P7;rw[r.length];exact(r.drop _).take _
theorem C3(Z:GE X E e m)(j:GO X E lo ml)(hu:GO X E hi mh):GE X E (.Subscript e (.Slice lo hi none p2) pos) (DZ m ml mh):=(Z3 (dE.or iD) Z j hu).imp<|by
 rintro σ H Q ⟨ρ,l,S,j,hs,hm⟩
 refine⟨ρ,l,S,j,hs,hm.seq λd S1 hm G H1 x s s1 r1=>⟨G,l,S1,j.mono s,s1,(hm.later s).seq λlo S2 hm I H2 A s2=>⟨I,l,S2,j.mono (s.trans A),s2,(hm.later A).seq λhi J hm B L N O=>?_⟩⟩⟩;obtain⟨d',S',e,k⟩:=hm.okR;have T:=r1.mono (A.trans N)
 have lst:∀g,SW d J=some g->Res.ok (.ref J.length) (J++[.lst (DQ g lo hi)])=Res.ok d' S'->lE X.K x lo hi L Q:=λg i e=>by
  cases e;obtain⟨p,P,rfl,rr,sq⟩:=Ml O T i;refine⟨p,P,rfl,sq,λq i=>?_⟩;have le:Le X.K B L (B++[q]) (upd L q (.lst (P7 P lo hi))):=Le.alloc i;obtain⟨R,C,u5⟩:=O.alloc (ho:=.lst (P7 P lo hi)) (o:=.lst (DQ g lo hi)) i ⟨_,BU,(UH rr lo hi).mono le⟩;exact k _ _ _ (s.trans (A.trans (N.trans C))) R (.ref u5)
 cases d with
 | tup g=>
  unfold R8 at e;dsimp only at e;split at e
  ·cases e
  ·rename_i hw
   cases e
   cases T with
   | @tup _ a U h1 Y=>
    refine .inr ⟨a,U,rfl,.inl (.inl h1),λz=>hw ?_,λq i=>?_⟩
    ·unfold Y7
     rw[Y.length];exact wX z
    ·obtain⟨R,C⟩:=FB (ho:=.tup (P7 U lo hi)) O i
     exact k _ _ _ (s.trans (A.trans (N.trans C))) R (.tup BU ((UH Y lo hi).mono C))
 | non=>cases e
 | bl _=>cases e
 | int _=>cases e
 | str _=>cases e
 | exc _=>cases e
 | fro g=>exact .inl (lst g rfl e)
 | ref n=>
  unfold R8 at e;dsimp only at e;split at e
  ·rename_i g i
   exact .inl (lst g i e)
  ·cases e
end
section
variable{X:Cx}{E:EW}{e:Expr}{p pos:Pos}{m:ME}
noncomputable def Gj(m:ME):ME:=λe S=>(m e S).bind λd g=>match IE d g with
 | some i=>.ok (.tup i) g
 | none=>.bad
theorem Ij(P:Gl X "tuple") (hm:X.mg "tuple" = none) (h:GE X E e m) (J:AO [e] X.env=(false,Bi e X.env) :: AO [] X.env:=by rfl):GE X E (.Call (.Name "tuple" p) [e] [] pos) (Gj m):=
 (NQ Qn P hm mZ (C6 h Eu J) (by decide) (by decide) J rfl).imp<|by
 rintro σ H Q ⟨R,l,S,T,U,hm⟩
 refine⟨R,l,S,T,U,hm.seq λd Y hm s j x L B Z=>?_⟩
 cases g:IE d Y with
 | none=>rw[g]at hm;exact hm.elim
 | some ds=>
  rw[g]at hm
  have N:∀a i,x=.ref a->SqL X.K j a i->Aq X.K s j ds i->∃p C,[x]=[.ref p]/\((SqL X.K j p C/\∀l,j l=none->Q (.ref l) (upd j l (.tup C)))∨(SqT X.K j p C/\Q (.ref p) j)):=λa i e sq G=>by
   subst e;refine⟨a,i,rfl,.inl ⟨sq,λq g=>?_⟩⟩;obtain⟨s2,O⟩:=FB (ho:=.tup i) B g;exact hm _ _ _ (L.trans O) s2 (.tup BU (G.mono O))
  cases Z with
  | @tup _ a i A I=>cases g;exact⟨a,i,rfl,.inr ⟨.inl (.inl A),hm s j _ L B (.tup A I)⟩⟩
  | @fro _ a i A I=>cases g;exact N a i rfl A.sq I
  | @ref n a hn=>
   obtain⟨o,ho,ro⟩:=B.there hn;unfold IE at g;simp only[ho]at g
   cases o with
   | lst es=>cases g;obtain⟨i,e,G⟩:=ro;exact N a i rfl (.inl (.inl e)) G
   | _=>cases g
  | _=>cases g
noncomputable def atL(d:D)(S:Sto):Option (Nat×List D):=match d with
 | .ref n=>match S[n]? with
  | some (.lst g)=>some (n,g)
  | _=>none
 | _=>none
theorem jx{K}{g}{S}{H}{d}{x}{n}{xs}(s:B1 K g S H)(r:Bc K g H d x)(h:atL d S=some (n,xs)):d=.ref n/\S[n]?=some (.lst xs)/\∃a vs,x=.ref a/\g[n]?=some a/\H a=some (.lst vs)/\Aq K g H xs vs:=by
 unfold atL at h;split at h
 ·split at h
  ·rename_i j i
   cases h;exact⟨rfl,i,Wf s r i⟩
  ·cases h
 ·cases h
end
section
variable{X:Cx}
theorem range_getD{g:Type}(d:g)(bs:List g):(Bd bs.length).map (λi=>bs.getD i d)=bs:=by
 apply IU
 intro i;rw[At]
 by_cases h:i < bs.length
 ·rw[Dh h]
  simp[List.getD,h]
 ·rw[DL.mpr (by simpa using h),DL.mpr (by simpa using h)]
  rfl
theorem cz{bs:List Bool}{g:List AD}(r:Bb (bs.map V.bl) g){i:Nat}{v:AD}(h:g.toArray[i]?=some v):v=.bool (bs.getD i false):=by
 have j:g[i]?=some v:=by simpa using h
 obtain⟨o,e⟩:=AI.mp j
 have hb:i < bs.length:=by have:=r.length;simp at this;lia
 obtain⟨u,l,m⟩:=r.get (show(bs.map V.bl)[i]?=some (V.bl bs[i]) by simp[hb]);rw[j]at l;cases l;rw[show v=Jw bs[i]from m];simp[List.getD,hb]
noncomputable def Zs(K:AC)(f:List Bool->Bool):List V->Hp->VK->Prop:=λg H Q=>∃p bs,g=[.ref p]/\(SqL K H p (bs.map V.bl)∨SqT K H p (bs.map V.bl))/\Q (.bl (f bs)) H
theorem Vy{J:List (AJ×Obj)}{s:AG}{L:St}{H:Hp}{p:AJ}{bs:List Bool}{R:AD->AG->Prop}{E:AD->AG->Prop}(S:X.calm=true)(I:Inv X J L H s)(l:SqL X.K H p (bs.map V.bl)∨SqT X.K H p (bs.map V.bl))
  (h:∀m G,(∃I fp wr n P St tr,m=Ai I/\Walks X.prog X.w X.A.in1 I fp wr n P St/\St 0 G.heap/\TruthOf X.prog X.w X.A.in1 P tr/\(Bd n).map tr=bs /\
   ∀(h':Bt) (tk:Nat),(∀b o,¬b∈wr->G.heap.get? b=some o->h'.get? b=some o)->Inv X J L H { G with heap:=h',toks:=tk })->R m G) :
  AZ (AR X.prog X.w) X.A.in1 (gN (.ref p)) R E s:=by
 have N:X.A.in1.handled=none:=I.ok.hd S
 have fin:∀(g:List AD),Bb (bs.map V.bl) g->(Bd g.toArray.size).map (λi=>bs.getD i false)=bs:=λg r=>by
  have:g.toArray.size=bs.length:=by have:=r.length;simp at this;simpa using this.symm
  rw[this,range_getD]
 have B:∀(g:List AD),Bb (bs.map V.bl) g->TruthOf X.prog X.w X.A.in1 (λi v=>g.toArray[i]?=some v) (λi=>bs.getD i false):=λg r i v s Q E T q=>by
  rw[cz r T];exact CO q
 have kp:∀(O:Obj) (h':Bt) (tk:Nat),(∀b o,¬b∈[s.heap.objs.size]->(s.heap.push O).get? b=some o->h'.get? b=some o)->Inv X J L H { s with heap:=h',toks:=tk }:=λO h' tk k=>
  I.kept λb o e=>k b o (by simpa using Al (AV e)) (AB _ e)
 rcases l with l | l
 ·obtain⟨g,C,j,U⟩:=I.list l
  refine De j.isList (h _ _ ⟨s.heap.objs.size,_,_,_,_,_,_,rfl,XU N _ p (Al (AV j.isList.choose_spec.1)) g.toArray,⟨⟨_,AX _ rfl,rfl,rfl⟩,?_⟩,B g C,fin g C,kp _⟩)
  exact j.isList.at λo e=>AB _ e
 ·obtain⟨g,C,j,U⟩:=I.tuple l
  have pt:s.heap.IsTuple p g.toArray:=j;refine Ir pt (h _ _ ⟨s.heap.objs.size,_,_,_,_,_,_,rfl,Um N _ p (Al j.lt) g.toArray,⟨⟨_,AX _ rfl,rfl,rfl⟩,?_⟩,B g C,fin g C,kp _⟩);obtain⟨o,e,c⟩:=pt;exact⟨o,AB _ e,c⟩
theorem Yc(i:X.calm=true):GR X (.builtin "all") (Zs X.K λbs=>bs.all id):=by
 intro C s E H G L Q I r h;obtain⟨p,bs,rfl,j,q⟩:=h;obtain⟨u,rfl,l⟩:=vals1 r;cases l;refine call_all_walk (Vy i I j λm N ⟨J,o,wr,n,P,St,tr,e,W,st,g,A,kp⟩=>⟨J,o,wr,n,P,St,tr,e,W,st,g,λB tk k=>⟨.bl _,H,kp B tk k,rfl,?_⟩⟩);rw[<-A]at q;dsimp only at q;rw[Ub]at q;exact q
noncomputable def Vz:List D->Option (List Bool)
 | []=>some []
 | .bl b :: g=>(Vz g).map (b :: ·)
 | _ :: _=>none
theorem XF{K}{j}{H}:∀{ds:List D} {i:List V} {bs:List Bool},Aq K j H ds i->Vz ds=some bs->i=bs.map V.bl
 | _,_,_,.nil,h=>by cases h;rfl
 | .bl b :: ds,_,bs,.cons r t,h=>by
  unfold Vz at h
  cases g:Vz ds with
  | none=>rw[g]at h;cases h
  | some l=>rw[g]at h;cases h;cases r;rw[XF t g];rfl
 | .non :: _,_,_,.cons r t,h=>by cases h
 | .int _ :: _,_,_,.cons r t,h=>by cases h
 | .str _ :: _,_,_,.cons r t,h=>by cases h
 | .tup _ :: _,_,_,.cons r t,h=>by cases h
 | .fro _ :: _,_,_,.cons r t,h=>by cases h
 | .ref _ :: _,_,_,.cons r t,h=>by cases h
 | .exc _ :: _,_,_,.cons r t,h=>by cases h
noncomputable def fB(f:List Bool->Bool)(ds:List D)(S:Sto):Res D:=match Vz ds with
 | some bs=>.ok (.bl (f bs)) S
 | none=>.bad
theorem Zh:fM X.K (Zs X.K f) (fB f):=λg H S l q m d o Q i j sq hm k=>by
 unfold fB at hm;split at hm
 ·rename_i bs hb
  cases hm;rw[XF j hb]at sq;exact⟨q,bs,rfl,sq,k g H _ .refl i (.bl _)⟩
 ·cases hm
noncomputable abbrev bw:=fB λbs=>bs.all id
noncomputable def Ez:List D->Option ZLi
 | []=>some []
 | .int b :: g=>(Ez g).map (b :: ·)
 | _ :: _=>none
theorem GK:∀{ds:List D} {ns:ZLi},Ez ds=some ns->ds=ns.map D.int
 | [],_,h=>by cases h;rfl
 | .int b :: ds,ns,h=>by
  unfold Ez at h
  cases g:Ez ds with
  | none=>rw[g]at h;cases h
  | some i=>rw[g]at h;cases h;rw[GK g];rfl
 | .non :: _,_,h=>by cases h
 | .bl _ :: _,_,h=>by cases h
 | .str _ :: _,_,h=>by cases h
 | .tup _ :: _,_,h=>by cases h
 | .fro _ :: _,_,h=>by cases h
 | .ref _ :: _,_,h=>by cases h
 | .exc _ :: _,_,h=>by cases h
noncomputable def tyD(d:D)(S:Sto):Option String:=match d with
 | .non=>some "NoneType"
 | .bl _=>some "bool"
 | .int _=>some "int"
 | .str _=>some "str"
 | .tup _=>some "tuple"
 | .ref n=>match S[n]? with
  | some (.lst _)=>some "list"
  | some (.dK _)=>some "dict"
  | some (.dT _)=>some "dict"
  | _=>none
 | .fro _=>none
 | .exc _=>none
theorem hU{K}{j}{S}{H}{d}{x}{T}(s:B1 K j S H)(r:Bc K j H d x)(h:tyD d S=some T):M1 K H x (.type T):=by
 cases r with
 | non=>cases h;exact .non
 | bl b=>cases h;exact .bl b
 | int i=>cases h;exact .int i
 | str i=>cases h;exact .str i
 | tup B _=>cases h;exact .tup B
 | fro _ _=>cases h
 | exc _ _=>cases h
 | @ref n a C=>
  obtain⟨o,E,g⟩:=s.there C;unfold tyD at h;simp only[E]at h
  cases o with
  | lst l=>cases h;obtain⟨m,e,A⟩:=g;exact .lst e
  | dK l=>cases h;obtain⟨m,e,A⟩:=g;exact .dK e
  | dT l=>cases h;obtain⟨m,e,A⟩:=g;exact .dT e
  | ins _ _=>cases h
  | fK _=>cases h
  | fT _=>cases h
  | mem _=>cases h
noncomputable def fu(c T:String):Option Bool:=if T==c then some true else if T=="bool"&&c=="int" then some true else if ["NoneType", "bool", "int", "str", "tuple", "list", "dict"].contains T&&["bool", "int", "str", "tuple", "list", "dict"].contains c then some false else none
end
noncomputable def JP{α:Type}(r g:Res α):Res α:=match r with
 | .bad=>g
 | r=>r
theorem X1{g:Type}(r r':Res g):JP r r'=r∨JP r r'=r':=by cases r <;> simp[JP]
noncomputable def op2(f g:D->D->Sto->Res D):D->D->Sto->Res D:=λx y S=>JP (f x y S) (g x y S)
theorem aW(f g:D->D->Sto->Res D)(ma i:ME)(l:Lo)(S:Sto):m2 (op2 f g) ma i l S=m2 f ma i l S∨m2 (op2 f g) ma i l S=m2 g ma i l S:=by
 unfold m2
 cases ma l S with
 | ok x m=>
  dsimp only[Res.bind]
  cases i l m with
  | ok y j=>
   dsimp only[Res.bind];unfold op2
   rcases X1 (f x y j) (g x y j)with e | e <;> rw[e] <;> simp
  | err c j=>exact .inl rfl
  | bad=>exact .inl rfl
 | err c m=>exact .inl rfl
 | bad=>exact .inl rfl
section
theorem jf{m g m2}(C:GE X E e g)(G:GE X E e m2)(h:∀l S,m l S=g l S∨m l S=m2 l S):GE X E e m:=by
 rintro i s j H Q I ⟨o,l,S,A,B,a⟩
 rcases h l S with q | q
 ·rw[q]at a;exact C i s j H Q I ⟨o,l,S,A,B,a⟩
 ·rw[q]at a;exact G i s j H Q I ⟨o,l,S,A,B,a⟩
theorem bD(A:GT X E e B)(C:GT X E e G)(h:∀l S,t l S=B l S∨t l S=G l S):GT X E e t:=by
 rintro g s i H Q I ⟨j,l,S,m,o,a⟩
 rcases h l S with q | q
 ·rw[q]at a;exact A g s i H Q I ⟨j,l,S,m,o,a⟩
 ·rw[q]at a;exact C g s i H Q I ⟨j,l,S,m,o,a⟩
theorem jd(B:GI X E g e C)(G:GI X E g e J)(h:∀l S,t l S=C l S∨t l S=J l S):GI X E g e t:=by
 rintro i s j H R I ⟨m,l,S,o,A,a⟩
 rcases h l S with q | q
 ·rw[q]at a;exact B i s j H R I ⟨m,l,S,o,A,a⟩
 ·rw[q]at a;exact G i s j H R I ⟨m,l,S,o,A,a⟩
theorem fo{m g m2}(h:∀l S,m l S=g l S∨m l S=m2 l S)(l:Lo)(S:Sto):mB m l S=mB g l S∨mB m l S=mB m2 l S:=by
 unfold mB
 rcases h l S with q | q <;> rw[q] <;> simp
noncomputable abbrev inA(neg:Bool):=op2 (inD neg) (OP neg)
theorem fw(j:X.A.units+64 < Dq)(hi:GE X E i l)(ho:GE X E o mo)(g:Ck .In o=false:=by with_unfolding_all rfl):GT X E (.Compare i [.In] [o] pos) (mB (m2 (inA false) l mo)):=
 bD (Bu (lY j) hi ho g) (jX (by lia) hi ho g) (fo λ_ _=>aW _ _ _ _ _ _)
theorem UB(j:X.A.units+64 < Dq)(hi:GE X E i l)(ho:GE X E o mo)(g:Ck .NotIn o=false:=by with_unfolding_all rfl):GT X E (.Compare i [.NotIn] [o] pos) (mB (m2 (inA true) l mo)):=
 bD (Bu (aD j) hi ho g) (YF (by lia) hi ho g) (fo λ_ _=>aW _ _ _ _ _ _)
noncomputable abbrev ixA:=op2 ixD W8
theorem Cn(l:X.A.units+64 < Dq)(ho:GE X E o mo)(hi:GE X E i j)(g:Ss i:=by intro _ _;rfl):GE X E (.Subscript o i pos) (m2 ixA mo j):=
 jf (bJ lX ho hi g) (eg (by lia) ho hi g) λ_ _=>aW _ _ _ _ _ _
noncomputable def Jr(d:D):Nd:=match d with
 | .tup g=>He g
 | d=>Hd d
noncomputable def JS(m:ME):MI:=λe S=>(m e S).bind λd g=>match Jr d g with
 | some _=>.ok (Jr d) g
 | none=>.bad
theorem Kg(h:GE X E e m):GI X E i e (JS m):=jd (jc h) (ja h) λl S=>by
 unfold JS mF fv
 cases m l S with
 | ok d g=>
  dsimp only[Res.bind]
  cases d <;> first | exact .inl rfl | exact .inr rfl
 | err c g=>exact .inl rfl
 | bad=>exact .inl rfl
noncomputable def LJ(m:ME):ME:=λe S=>(m e S).bind λd g=>match IE d g with
 | some i=>.ok (.int i.length) g
 | none=>.bad
theorem JY(i:Gl X "len") (hm:X.mg "len" = none) (h:GE X E e m) (j:AO [e] X.env=(false,Bi e X.env) :: AO [] X.env:=by rfl):GE X E (.Call (.Name "len" p) [e] [] pos) (LJ m):=
 (Om So iE i hm cN (Ww h) (by decide) (by decide) j).imp λB H Q ⟨o,l,S,s,A,a⟩=>⟨o,l,S,s,A,by
  have q:mQ lq (Mj m) l S=LJ m l S:=by
   unfold mQ Mj LJ
   cases m l S with
   | ok d g=>
    dsimp only[Res.bind]
    cases IE d g <;> rfl
   | err c g=>rfl
   | bad=>rfl
  rw[q];exact a⟩
theorem eY(g:X.calm=true)(i:Gl X "min") (hm:X.mg "min" = none) (h:GA X E [a,b] ml) (j:AO [a,b] X.env=(false,Bi a X.env) :: AO [b] X.env:=by rfl) (l:(CN pos (AO [b] X.env)).any (·.1)=false:=by rfl):GE X E (.Call (.Name "min" p) [a,b] [] pos) (mQ RD ml):=
 Wz (YX g) fJ i hm Ow h (by decide) (by decide) j l
theorem ed(g:X.calm=true)(i:Gl X "max") (hm:X.mg "max" = none) (h:GA X E [a,b] ml) (j:AO [a,b] X.env=(false,Bi a X.env) :: AO [b] X.env:=by rfl) (l:(CN pos (AO [b] X.env)).any (·.1)=false:=by rfl):GE X E (.Call (.Name "max" p) [a,b] [] pos) (mQ RE ml):=
 Wz (YZ g) fL i hm Ox h (by decide) (by decide) j l
theorem bM(g:X.calm=true)(i:Gl X "all") (hm:X.mg "all" = none) (h:GE X E e m) (j:AO [e] X.env=(false,Bi e X.env) :: AO [] X.env:=by rfl):GE X E (.Call (.Name "all" p) [e] [] pos) (mQ bw (Mj m)):=
 Om (Yc g) Zh i hm mn (Ww h) (by decide) (by decide) j
end
noncomputable def isB(t A:String):Option Bool:=if ["NoneType", "bool", "int", "str", "tuple", "list", "dict"].contains A then fu t A else none
noncomputable def isN(A:String):Option Bool:=if ["NoneType", "bool", "int", "str", "tuple", "list", "dict"].contains A then some false else none
noncomputable def mIs(g:String->Option Bool)(tabC:AJ->Option Bool)(m:ME):ME:=λe S=>(m e S).bind λd i=>match d with
 | .exc C=>match tabC (C % M64)with
  | some b=>.ok (.bl b) i
  | none=>.bad
 | d=>match tyD d i with
  | some T=>match g T with
   | some b=>.ok (.bl b) i
   | none=>.bad
  | none=>.bad
noncomputable def ck(g:QO)(x:Str):Bool:=decide (g.names.lookup x=some .local)||decide (g.names.lookup x=some .cell)||decide (g.names.lookup x=some .free)
noncomputable def bj(X:Cx)(scope:QO)(own N':List Str):Bool:=
 decide (scope.kind=.function)&&scope.names.all (λy=>!decide (y.2=.local)||decide (scope.names.lookup y.1=some .local)) &&
 scope.names.all (λy=>!decide (y.2=.free)||decide (X.env.kindOf y.1=some .cell)||decide (X.env.kindOf y.1=some .free))&&decide (N'.length=own.length+X.N.length) &&
 ((N'.drop own.length).zip X.N).all (λp=>!ck (IR scope X.env) p.1||(decide (p.1=p.2)&&ck X.env.scope p.1&&(decide ((IR scope X.env).names.lookup p.1=some .cell)||decide ((IR scope X.env).names.lookup p.1=some .free))&&!decide (X.env.kindOf p.1=some .local)&&!scope.names.any (λz=>decide (z=(p.1,CF)))&&scope.names.any (λz=>decide (z=(p.1,Ej))))) &&
 (IR scope X.env).names.all (λy=>(!decide (y.2=.cell)&&!decide (y.2=.free))||scope.names.any (λz=>decide (z=(y.1,Ej)))||scope.names.any (λz=>decide (z=(y.1,CF))))
theorem TM:ck g x=true↔Vis g x:=by
 unfold ck Vis;simp[or_assoc]
theorem LB(h:bj X scope own N'=true):L8 X scope own N':=by
 unfold bj at h;simp only[Bl]at h;obtain⟨⟨⟨⟨⟨H,m⟩,o⟩,s⟩,A⟩,B⟩:=h;rw[By]at m o A B;refine⟨of_decide_eq_true H,λy l e=>?_,λy l e=>?_,of_decide_eq_true s,λi x e v=>?_,λx j=>?_⟩
 ·have:=m y l
  simpa[e]using this
 ·have:=o y l
  simpa[e]using this
 ·have C:=of_decide_eq_true s
  have R:own.length+i < N'.length:=(AI.mp e).1
  have j:i < X.N.length:=by lia
  have hm:(x,X.N[i])∈(N'.drop own.length).zip X.N:=by
   rw[List.mem_iff_getElem?];refine⟨i,?_⟩;rw[List.getElem?_zip_eq_some];exact⟨by rw[E4];exact e,by simp[j]⟩
  have:=A _ hm;rw[TM.mpr v]at this;simp only[Cd,gc,Bl,Bool.or_eq_true,decide_eq_true_eq,EF,decide_eq_false_iff_not]at this;obtain⟨⟨⟨⟨⟨I,J⟩,L⟩,O⟩,E⟩,P⟩:=this;refine⟨⟨by rw[I];simp[j],TM.mp J,L,O⟩,λq=>?_,?_⟩
  ·rw[Y1]at E
   exact E _ q (wX rfl)
  ·obtain⟨z,G,e⟩:=cF.mp P
   rw[of_decide_eq_true e]at G;exact G
 ·have g:∀k,(IR scope X.env).names.lookup x=some k->(k=.cell∨k=.free)->(x,Ej)∈scope.names∨(x,CF)∈scope.names:=λk e Q=>by
   have:=B _ (Cr e)
   rcases Q with rfl | rfl
   ·simpa using this
   ·simpa using this
  rcases j with e | e
  ·exact g _ e (.inl rfl)
  ·exact g _ e (.inr rfl)
structure Dfn(K:AC)(mg:Str->Option AD)(x qual:Str)(st:Dr)(ps:List Str) where
 f:AJ
 fd:Gf
 F:Fun K x qual st f fd
 b:Binds K fd ps []
 m:mg x=some (.ref f)
theorem Dfn.kp{K}{i}{x g}{st}{ps}(d:Dfn K i x g st ps):E5 K (.ref d.f)=true:=d.F.kp
structure Mtd(K:AC)(x qual:Str)(st:Dr)(ps:List Str) where
 f:AJ
 fd:Gf
 F:Fun K x qual st f fd
 b:Binds K fd ps []
structure Own(K:AC)(mg:Str->Option AD)(x:Str)(C f:AJ):Prop where
 cl:Cls K C
 mk':Mk K C f
 m:mg x=some (.ref C)
structure XIs(K:AC)(C:AJ):Prop where
 cl:(CW K C).isSome=true
 ga:Bq K (.ref C) "__getattribute__" = some (some (.builtin "BaseException.__getattribute__"))
 gn:Bq K (.ref C) "__getattr__" = some none
 ca:Bq K (.ref C) "__class__" = some (some (.builtin "object.__class__"))
 sp:MJ K (.builtin "object.__class__") "__get__" = some (some (.builtin "getset_descriptor.__get__"))
 tk:Yj K (.builtin "object.__class__")=some true
 ob:Hu K C (.type "object")=some true
 be:Hu K C (.type "BaseException")=some true
theorem V5.inst(k:HOk P w H h)(g:h.get? a=some o)(x:V5 o (C % M64))(m:QF C H o.dict):∃i,DW h a o (C % M64) i/\(M64<=C->∃d,i=some d/\bx d (C / M64 - 1)):=by
 obtain⟨j,E,s⟩:=x
 have no:Yx o=true:=by unfold Yx;rw[s]
 rcases m with⟨lt,e⟩ | ⟨l,i,u,e,A,G,r⟩
 ·exact⟨none,⟨g,j,no,by rw[e];trivial⟩,λq=>zX q (Nat.not_le.mpr lt)⟩
 ·obtain⟨B,_⟩:=(show CK P w H h l (.frz i u)from k l _ A)
  exact⟨some i,⟨g,j,no,by rw[e];exact B⟩,λ_=>⟨i,rfl,r⟩⟩
section
variable{prog:A3}{w:BR}{A:BO}{E:AD->AG->Prop}{s:AG}{K:AC}{a C:AJ}{o:Obj}{od:Option Obj}
theorem YN(c:XIs K C)(X:K.In s.heap)(I:DW s.heap a o C od)(h:Q () s):AZ M A (G6 "BaseException.__getattribute__" ⟨[.ref a,g],[]⟩) Q E s:=by
 obtain⟨i,G,d,t,os⟩:=s;have j:=I.type (M:=M);have l:Em M i (LX (.ref a) (.type "BaseException")) true:=j.andThen (UV X c.be)
 have m:builtinKind "BaseException.__getattribute__" = some .slot:=by decide +kernel
 have B:splitId "BaseException.__getattribute__" = some ("BaseException", "__getattribute__"):=by decide +kernel
 have H:=TC (.ref a) g;simp only[G6,m,B];refine AA (l.at ?_)
 repeat(any_goals (first | assumption | wp_step))
theorem YL(c:XIs K C)(X:K.In s.heap)(I:DW s.heap a o C od)(h:Q (.done (.ret (.ref C))) s) :
  AZ (AR prog w) A (Builtin.«object.__getattribute__» ⟨[.ref a,.str "__class__" tk],[]⟩) Q E s:=by
 obtain⟨m,B,d,t,os⟩:=s;have g:=I.type (M:=AR prog w)
 have i:N9 K C od "__class__" = some (.bind (.builtin "getset_descriptor.__get__") (.builtin "object.__class__")):=by
  obtain⟨G,j⟩:=Qu.mp c.cl;unfold N9;rw[j,c.ca];simp only[Bw];rw[c.sp];simp only[Bw];rw[c.tk];rfl
 have l:=Ur (M:=AR prog w) X I i;unfold Builtin.«object.__getattribute__»;refine AA (AE ?_);dsimp only;refine AA (AE (AA (g.at (AA (l.at ?_)))));dsimp only;unfold cG;dsimp only;refine AA (Bz (Fa (PySem.W.class_get X I c.ob ?_)));exact AE h
theorem YM(c:XIs K C)(X:K.In s.heap)(I:DW s.heap a o C od)(h:Q (some (.ref C)) { s with toks:=s.toks+1 }):AZ (AR prog w) A (getAttr? (.ref a) "__class__") Q E s:=by
 obtain⟨l,m,d,t,os⟩:=s;have g:=I.type (M:=AR prog w);have i:=EB (M:=AR prog w) X c.ga;have L2:=EB (M:=AR prog w) X c.gn;unfold getAttr? getAttrBy? getAttrBy;refine AA (wpAny_mkText (AA (FS (Bz (AA (g.at (AA (i.at ?_))))))))
 have j:(Rf (Ai C)&&MB "BaseException.__getattribute__"==MB "object.__getattribute__")=false:=by show(true&&_)=false;decide +kernel
 dsimp only;rw[qY (by rw[j];exact Ac)];unfold mS hookBefore;refine AA ?_;rw[qX (show Rf (Ai C)=true from rfl)];refine L2.at (AA (FS (Bz ?_)));unfold kO;rw[qY (by simp)];unfold boundAndCalled;refine AA (Su (EC.ga.bind (.ref a)) ?_);refine Fa (Dg EC.ga.plain Sy (YN c X I (YL c X I ?_)));exact AE (AE h)
theorem T7(c:XIs K C):PySem.W.KitX K (.ref a) (.ref C) (λh=>∃o od,DW h a o C od) where
 ty:=λM h X ⟨o,od,I⟩=>I.type
 it:=λM h X _=>by
  have z:=c.cl;unfold CW at z;split at z
  ·rename_i g
   intro j l m B k q;unfold isType loadHead;exact AA (M7 (k _ _ (X _ _ g)) (AE q))
  ·cases z
 ne:=λh tp G H n sl X i=>by
  refine Bool.eq_false_iff.mpr λq=>?_
  have e:C=tp:=Ai.inj (beq_iff_eq.mp q);subst e;have z:=c.cl;unfold CW at z;split at z
  ·rename_i g
   have y:=(X _ _ g).symm.trans i;cases y
  ·cases z
 ca:=λX ⟨o,od,I⟩ k=>YM c X I k
end
noncomputable def rIs(K:AC)(c:V)(cv:AD):List V->Hp->VK->Prop:=λg H Q=>(∃x t b,g=[x,c]/\M1 K H x t/\BH K t cv=some b/\Q (.bl b) H) ∨
 ∃a o u C b,g=[.ref a,c]/\H a=some (.frz o u)/\(V5 o (C % M64)/\QF C H o.dict)/\XIs K (C % M64)/\BH K (.ref (C % M64)) cv=some b/\Q (.bl b) H
section
variable{X:Cx}{E:EW}{m:ME}{tabC:AJ->Option Bool}
theorem fA(l:∀u,RelV c u->u=cv):GR X (.builtin "isinstance") (rIs X.K c cv):=by
 intro N s O H P R Q I r h
 rcases h with⟨x,t,b,rfl,ty,e,q⟩ | ⟨a,o,u,C,b,rfl,B,A,G,e,q⟩
 ·obtain⟨v,w,rfl,i,j⟩:=vals2 r
  rw[l w j]
  exact YA I i ty e λtk=>⟨.bl b,H,I.tok tk,rfl,q⟩
 ·obtain⟨v,w,rfl,i,j⟩:=vals2 r
  rw[l w j];cases(show v=Ai a from i);obtain⟨g,_⟩:=(show CK X.prog X.w H s.heap a (.frz o u)from I.hok a _ B);obtain⟨L,J,-⟩:=A.1.inst I.hok g A.2
  exact Bs (T7 G) I.kIn ⟨o,L,J⟩ e (λz=>nomatch z) λtk=>⟨.bl b,H,I.tok tk,rfl,q⟩
theorem Wy(R:∀u,RelV c u->u=cv)(U:∀T b,i T=some b->BH X.K (.type T) cv=some b)(L:∀C b,tabC C=some b->XIs X.K C/\BH X.K (.ref C) cv=some b)
  (Y:Gl X "isinstance") (hm:X.mg "isinstance" = none) (h:GE X E e m) (Z:PE X ce (tC c))
  (N:AO [e,ce] X.env=(false,Bi e X.env) :: AO [ce] X.env:=by rfl) (rT:AO [ce] X.env=(false,Bi ce X.env) :: AO [] X.env:=by rfl) (nV:(CN pos (AO [ce] X.env)).any (·.1)=false:=by rfl) :
  GE X E (.Call (.Name "isinstance" p) [e,ce] [] pos) (mIs i tabC m):=
 (Ie (fA R) Y hm MD (C6 h (C6 Z Eu rT) N) (by decide) (by decide) N nV).imp<|by
 rintro σ H Q ⟨A,l,S,hl,hs,hm⟩
 refine⟨A,l,S,hl,hs,hm.seq λd B hm o G x O I P=>?_⟩
 have rW:∀(z:Bo X.K (λc=>E c σ) A H (match tyD d B with | some T=>(match i T with | some b=>Res.ok (D.bl b) B | none=>.bad) | none=>.bad) λd S'=>∀j s x,Le X.K A H j s->B1 X.K j S' s->Bc X.K j s d x->Q x s),rIs X.K c cv [x,c] G Q:=λhm=>by
  cases J:tyD d B with
  | none=>rw[J]at hm;exact hm.elim
  | some T=>
   rw[J]at hm;dsimp only at hm
   cases hb:i T with
   | none=>rw[hb]at hm;exact hm.elim
   | some b=>
    rw[hb]at hm;exact .inl ⟨x,_,b,rfl,hU I P J,U T b hb,hm o G _ O I (.bl _)⟩
 cases d with
 | exc C=>
  dsimp only at hm
  cases hb:tabC (C % M64)with
  | none=>rw[hb]at hm;exact hm.elim
  | some b=>
   rw[hb]at hm
   cases P with
   | exc g x dc=>exact .inr ⟨_,_,_,C,b,rfl,g,⟨x,dc⟩,(L _ b hb).1,(L _ b hb).2,hm o G _ O I (.bl _)⟩
 | _=>exact rW hm
end
end L2
namespace Srt
open PySem PyProof.Rows
structure Ord(U:A0->Prop)(lt:A0->A0->Bool):Prop where
 asym:∀x y,U x->U y->lt x y=true->lt y x=false
 ntr:∀x y z,U x->U y->U z->lt y x=false->lt z y=false->lt z x=false
theorem Ord.irr(o:Ord U lt)(h:U x):lt x x=false:=by
 cases e:lt x x with
 | false=>rfl
 | true=>exact(o.asym x x h h e).symm.trans e |>.symm▸rfl
noncomputable def ix(xs:Array A0)(i:Nat):A0:=xs.getD i (.none,.none)
theorem Ih(h:xs[i]?=ys[j]?):ix xs i=ix ys j:=by
 unfold ix;rw[D8,D8,h]
theorem Ct(h:i < xs.size):xs[i]?=some (ix xs i):=by
 unfold ix;rw[D8,getElem?_pos xs i h];rfl
theorem X8(j:g < xs.size)(l:d<=g)(k:Nat) :
  ix (gR xs g d) k=if k=g - d then ix xs g else if g - d < k/\k<=g then ix xs (k - 1)else ix xs k:=by
 have e:=getElem?_bubble j d l k;split
 ·rename_i h;rw[qX h]at e;exact Ih e
 ·rename_i h
  rw[qY h]at e;split
  ·rename_i i;rw[qX i]at e;exact Ih e
  ·rename_i i;rw[qY i]at e;exact Ih e
theorem Da(g:j<=xs.size)(k:Nat) :
  ix (Iv xs i j ((j - i) / 2)) k=if i<=k/\k < j then ix xs (i+j - 1 - k)else ix xs k:=by
 have e:=getElem?_mirror_all (i:=i) g k;split
 ·rename_i h;rw[qX h]at e;exact Ih e
 ·rename_i h;rw[qY h]at e;exact Ih e
section
noncomputable def Jv(prog:A3)(w:BR)(A:BO)(s:AG)(a₀:Array A0)(g:NA)(lt:A0->A0->Bool):Prop:=
 ∀x y,x∈a₀->y∈a₀->∀(Q:Bool->AG->Prop) (E:AD->AG->Prop),Q (lt x y) s->AZ (AR prog w) A (keyLt' g x.1 y.1) Q E s
structure Good(a₀:Array A0)(κ:NA)(st:A9):Prop where
 perm:(AS st).Perm a₀
 kind:kindOf st=κ
 failed:HX st=none
theorem Good.size{st:A9}(g:Good a₀ i st):(AS st).size=a₀.size:=g.perm.size_eq
theorem Good.mem{st:A9}(g:Good a₀ l st){i:Nat}(h:i < a₀.size):ix (AS st) i∈a₀:=by
 have j:i < (AS st).size:=by rw[g.size];exact h
 have e:=Ct j;have:=CQ e;exact BE.mp ((ER.mp g.perm).mem_iff.mp (BE.mpr this))
theorem Good.setArr{st:A9}(g:Good a₀ i st){xs:Array A0}(j:xs.Perm (AS st)):Good a₀ i (setArr st xs):=⟨j.trans g.perm,g.kind,g.failed⟩
theorem O4{st:A9}{x y:A0}{Q:Option Bool->A9->Prop}(C:Jv prog w A s a₀ i lt)(g:Good a₀ i st)(j:x∈a₀)(l:y∈a₀)(h:Q (some (lt x y)) st):wpS (AR prog w) A E s (lt' x y) Q st:=by
 rw[lt'_eq];refine AH (GV ?_);rw[g.kind];refine AH (wpS_lift (FS ?_));refine C x y j l _ _ ⟨rfl,?_⟩;exact AK h
theorem NE{st:A9}{i j:Nat}{Q:Option Bool->A9->Prop}(C:Jv prog w A s a₀ m lt)(g:Good a₀ m st)(hi:i < a₀.size)(l:j < a₀.size)(h:Q (some (lt (ix (AS st) i) (ix (AS st) j))) st) :
  wpS (AR prog w) A E s (kC i j) Q st:=by
 rw[ltAt'_eq];refine AH (GV ?_);show wpS _ _ _ _ (do let x <-elem' (AS st) i;let y <-elem' (AS st) j;lt' x y) Q st;rw[cK,cK,Ct (by rw[g.size];exact hi),Ct (by rw[g.size];exact l)];exact AH (AK (AH (AK (O4 C g (g.mem hi) (g.mem l) h))))
noncomputable def Up(lt:A0->A0->Bool)(xs:Array A0)(lo hi:Nat):Prop:=∀i j,lo<=i->i<=j->j < hi->lt (ix xs j) (ix xs i)=false
noncomputable def Dn(lt:A0->A0->Bool)(xs:Array A0)(lo hi:Nat):Prop:=∀i j,lo<=i->i<=j->j < hi->lt (ix xs i) (ix xs j)=false
noncomputable def Out(xs ys:Array A0)(lo hi:Nat):Prop:=∀i,(i < lo∨hi<=i)->ix ys i=ix xs i
theorem Out.refl{xs:Array A0}{lo hi:Nat}:Out xs xs lo hi:=λ_ _=>rfl
theorem Out.trans{xs ys g:Array A0}{lo hi:Nat}(a:Out xs ys lo hi)(b:Out ys g lo hi):Out xs g lo hi:=λi h=>(b i h).trans (a i h)
theorem Up.out{xs ys:Array A0}{lo hi l h:Nat}(u:Up lt xs l h)(o:Out xs ys lo hi)(d:h<=lo∨hi<=l):Up lt ys l h:=λi j g m s=>by
 rw[o i (by lia),o j (by lia)];exact u i j g m s
theorem Up.grow{st:A9}(O:Ord (·∈a₀) lt)(g:Good a₀ B st){lo hi:Nat}(l:hi < a₀.size)(u:Up lt (AS st) lo hi)(C:lo < hi)(h:lt (ix (AS st) hi) (ix (AS st) (hi - 1))=false):Up lt (AS st) lo (hi+1):=λi j m o E=>by
 by_cases s:j < hi
 ·exact u i j m o s
 ·have:j=hi:=by lia
  subst this
  by_cases A:i=j
  ·subst A;exact O.irr (g.mem l)
  ·exact O.ntr _ _ _ (g.mem (by lia)) (g.mem (show j - 1 < _ by omega)) (g.mem l) (u i (j - 1) m (by lia) (by lia)) h
theorem wpS_binarySort{st:A9}{lo n ok:Nat}{Q:Bool->A9->Prop}(C:Jv prog w A s a₀ R lt)(O:Ord (·∈a₀) lt)(hn:lo+n<=a₀.size)(hok:ok<=n)(g:Good a₀ R st)(u:Up lt (AS st) lo (lo+ok))
  (h:∀m,Good a₀ R m->Up lt (AS m) lo (lo+n)->Out (AS st) (AS m) lo (lo+n)->AT m=AT st->Q true m):wpS (AR prog w) A E s (binarySort' lo n ok) Q st:=by
 rw[binarySort'_eq]
 refine AH (Cq (Bh (I:=λk c m=>c=(none,())/\Good a₀ R m/\Up lt (AS m) lo (lo+min k n)/\Out (AS st) (AS m) lo (lo+n)/\AT m=AT st)
  (Q:=λc m=>c=(none,())/\Good a₀ R m/\Up lt (AS m) lo (lo+n)/\Out (AS st) (AS m) lo (lo+n)/\AT m=AT st) ?step ?fin ?init) ?post)
 case post=>
  rintro c m ⟨rfl,U,X,Y,Z⟩;exact AK (h m U X Y Z)
 case init=>
  refine⟨rfl,g,λi j P S h3=>?_,.refl,rfl⟩
  by_cases h0:ok=0
  ·have:i=j:=by lia
   subst this;exact O.irr (g.mem (by omega))
  ·exact u i j P S (by lia)
 case fin=>
  rintro c m ⟨hc,U,X,Y,Z⟩;refine⟨hc,U,?_,Y,Z⟩;rwa [show min (max (max ok 1) n) n=n by lia]at X
 case step=>
  rintro k c H hak hkn ⟨rfl,B,T,o1,p1⟩;rw[show min k n=k by lia]at T
  have J:lo+k < a₀.size:=by lia
  refine AH (Cq (Bh (I:=λx c o=>o=H/\∃l r,c=(none,l,r)/\l<=r/\r<=k/\r - l<=k - x /\
    (∀i,i < l->lt (ix (AS H) (lo+k)) (ix (AS H) (lo+i))=false)/\(∀i,r<=i->i < k->lt (ix (AS H) (lo+k)) (ix (AS H) (lo+i))=true))
   (Q:=λc o=>o=H/\∃l r,c=(none,l,r)/\l<=k /\
    (∀i,i < l->lt (ix (AS H) (lo+k)) (ix (AS H) (lo+i))=false)/\(∀i,l<=i->i < k->lt (ix (AS H) (lo+k)) (ix (AS H) (lo+i))=true)) ?istep ?ifin ?iinit) ?ipost)
  case iinit=>exact⟨rfl,0,k,rfl,by lia,by lia,by lia,λi hi=>by lia,λi P S=>by lia⟩
  case ifin=>
   rintro c o ⟨rfl,l,r,rfl,hlr,p0,hm,L,N⟩
   have:l=r:=by lia
   subst this;exact⟨rfl,l,l,rfl,p0,L,N⟩
  case istep=>
   rintro x c o _ hxk ⟨rfl,l,r,rfl,hlr,p0,hm,L,N⟩;dsimp only
   by_cases ot:l ≥ r
   ·rw[qX ot]
    have:l=r:=by lia
    subst this;exact AK ⟨rfl,l,l,rfl,p0,L,N⟩
   ·rw[qY ot]
    refine AH (NE C B J (by lia) ?_)
    cases G:lt (ix (AS o) (lo+k)) (ix (AS o) (lo+(l+r) / 2))with
    | true=>
     refine AK ⟨rfl,l,(l+r) / 2,rfl,by lia,by lia,by omega,L,λi P S=>?_⟩
     cases e:lt (ix (AS o) (lo+k)) (ix (AS o) (lo+i))with
     | true=>rfl
     | false=>
      have:=O.ntr _ _ _ (B.mem (show lo+(l+r) / 2 < _ by lia)) (B.mem (show lo+i < _ by lia)) (B.mem J) (T (lo+(l+r) / 2) (lo+i) (by lia) (by lia) (by lia)) e;rw[G]at this;cases this
    | false=>
     refine AK ⟨rfl,(l+r) / 2+1,r,rfl,by lia,by omega,by omega,λi P=>?_,N⟩;exact O.ntr _ _ _ (B.mem (show lo+i < _ by lia)) (B.mem (show lo+(l+r) / 2 < _ by lia)) (B.mem J) (T (lo+i) (lo+(l+r) / 2) (by lia) (by lia) (by lia)) G
  case ipost=>
   rintro c o ⟨rfl,l,r,rfl,yM,L,N⟩;show wpS _ _ _ _ (do moveDown' (lo+k) (lo+l);pure (GD (none,()))) _ _;rw[moveDown'_eq]
   have Ε:lo+k < (AS o).size:=by rw[B.size];exact J
   have e:∀i,ix (gR (AS o) (lo+k) (lo+k - (lo+l))) i=if i=lo+l then ix (AS o) (lo+k)else if lo+l < i/\i<=lo+k then ix (AS o) (i - 1)else ix (AS o) i:=λi=>by
    rw[X8 Ε (by lia),show lo+k - (lo+k - (lo+l))=lo+l by lia]
   refine AH (Cz (AK ⟨rfl,B.setArr (bubble_perm _ _ _),?_,o1.trans λi hi=>?_,p1⟩))
   ·rw[show min (k+1) n=k+1 by lia]
    intro i j P S h3;show lt (ix (gR (AS o) (lo+k) (lo+k - (lo+l))) j) (ix (gR (AS o) (lo+k) (lo+k - (lo+l))) i)=false;rw[e,e]
    repeat' split
    all_goals first
     | (exfalso;lia)
     | exact O.irr (B.mem J)
     | (have q:=L (i - lo) (by lia);rw[show lo+(i - lo)=i by lia]at q;exact q)
     | (have q:=N (j - 1 - lo) (by omega) (by omega);rw[show lo+(j - 1 - lo)=j - 1 by lia]at q;exact O.asym _ _ (B.mem J) (B.mem (by lia)) q)
     | exact T _ _ (by omega) (by omega) (by lia)
   ·show ix (gR (AS o) (lo+k) (lo+k - (lo+l))) i=ix (AS o) i
    rw[e,qY (by lia),qY (by lia)]
end
section
theorem IW{g:Type}{M:Model}{r:String}{Q:PUnit->g->Prop}{st:g}(h:Q ⟨⟩ st):wpS M A E s (liftM (rule r):StateT g Sem PUnit) Q st:=wpS_lift (gJ ⟨rfl,h⟩)
theorem Dn.flip{xs:Array A0}{lo hi:Nat}(g:hi<=xs.size)(d:Dn lt xs lo hi):Up lt (Iv xs lo hi ((hi - lo) / 2)) lo hi:=λi j l m o=>by
 rw[Da g,Da g,qX (by lia),qX (by lia)];exact d _ _ (by omega) (by omega) (by omega)
theorem Dn.part{xs:Array A0}{lo hi m:Nat}(g:hi<=xs.size)(hm:lo<=m)(l:m<=hi)(d:Dn lt xs lo hi)(e:Up lt xs m hi):Dn lt (Iv xs m hi ((hi - m) / 2)) lo hi:=λi j o s A=>by
 rw[Da g,Da g]
 by_cases B:m<=i
 ·rw[qX (by lia),qX (by lia)]
  exact e _ _ (by omega) (by omega) (by omega)
 ·rw[qY (by lia)]
  split
  ·exact d _ _ (by omega) (by lia) (by omega)
  ·exact d _ _ (by omega) (by omega) (by omega)
theorem JO{xs:Array A0}{i j lo hi:Nat}(g:j<=xs.size)(l:lo<=i)(m:j<=hi):Out xs (Iv xs i j ((j - i) / 2)) lo hi:=λk o=>by
 rw[Da g,qY (by lia)]
theorem Dn.grow{st:A9}(O:Ord (·∈a₀) lt)(g:Good a₀ B st){lo hi:Nat}(l:hi < a₀.size)(u:Dn lt (AS st) lo hi)(C:lo < hi)(h:lt (ix (AS st) (hi - 1)) (ix (AS st) hi)=false):Dn lt (AS st) lo (hi+1):=λi j m o E=>by
 by_cases s:j < hi
 ·exact u i j m o s
 ·have:j=hi:=by lia
  subst this
  by_cases A:i=j
  ·subst A;exact O.irr (g.mem l)
  ·exact O.ntr _ _ _ (g.mem l) (g.mem (show j - 1 < _ by omega)) (g.mem (by lia)) h (u i (j - 1) m (by lia) (by lia))
theorem U5(O:Ord (·∈a₀) lt){st:A9}(g:Good a₀ o st){lo:Nat}(h:lo < a₀.size):Up lt (AS st) lo (lo+1):=λi j s A B=>by
 have l:i=lo:=by lia
 have m:j=lo:=by lia
 rw[l,m];exact O.irr (g.mem h)
theorem cX{st:A9}{lo nk n:Nat}{Q:Option Nat->A9->Prop}(C:Jv prog w A s a₀ j lt)(O:Ord (·∈a₀) lt)(G:1<=n)(H:n<=nk)(J:lo+nk<=a₀.size)(g:Good a₀ j st)(u:Up lt (AS st) lo (lo+n))
  (h:∀n,1<=n->n<=nk->Up lt (AS st) lo (lo+n)->Q (some n) st):wpS (AR prog w) A E s (do
   let mut n:=n
   for _ in [n:nk] do
    let some l <-kC (lo+n) (lo+n - 1) | return none
    if l then break
    n:=n+1
   return some n) Q st:=by
 refine AH (Cq (Bh (I:=λx c i=>i=st/\c=(none,x)/\Up lt (AS st) lo (lo+x))
  (Q:=λc i=>i=st/\∃n,c=(none,n)/\1<=n/\n<=nk/\Up lt (AS st) lo (lo+n)) ?step ?fin ⟨rfl,rfl,u⟩) ?post)
 case fin=>
  rintro c i ⟨rfl,rfl,u⟩
  have e:max n nk=nk:=by lia
  rw[e]at u ⊢;exact⟨rfl,nk,rfl,by lia,AN _,u⟩
 case step=>
  rintro x c i L N ⟨rfl,rfl,u⟩;dsimp only;refine AH (NE C g (by lia) (by lia) ?_)
  cases m:lt (ix (AS i) (lo+x)) (ix (AS i) (lo+x - 1))with
  | true=>exact AK ⟨rfl,x,rfl,by lia,by lia,u⟩
  | false=>exact AK ⟨rfl,rfl,Up.grow (hi:=lo+x) O g (by lia) u (by lia) m⟩
 case post=>
  rintro c i ⟨rfl,n,rfl,o,B,u⟩;exact AK (h n o B u)
theorem wpS_countRun{st}{lo nk}{Q}(C:Jv prog w A s a₀ H lt)(O:Ord (·∈a₀) lt)(h1:1<=nk)(hn:lo+nk<=a₀.size)(g:Good a₀ H st)
  (h:∀l n,Good a₀ H l->1<=n->n<=nk->Up lt (AS l) lo (lo+n)->Out (AS st) (AS l) lo (lo+nk)->AT l=AT st->Q (some n) l):wpS (AR prog w) A E s (countRun' lo nk) Q st:=by
 rw[countRun'_eq]
 refine AH (Cq (Bh (I:=λx c l=>l=st/\c=(none,x)/\Up lt (AS st) lo (lo+x))
  (Q:=λc l=>l=st/\∃n,c=(none,n)/\1<=n/\n<=nk/\Up lt (AS st) lo (lo+n)/\(n=nk∨lt (ix (AS st) (lo+n)) (ix (AS st) (lo+n - 1))=true)) ?step ?fin ?init) ?post)
 case init=>
  refine⟨rfl,rfl,λi j a1 a2 a3=>?_⟩
  have:i=j:=by lia
  subst this;exact O.irr (g.mem (by lia))
 case fin=>
  rintro c l ⟨rfl,rfl,u⟩
  have e:max 1 nk=nk:=by lia
  rw[e]at u ⊢;exact⟨rfl,nk,rfl,h1,AN _,u,.inl rfl⟩
 case step=>
  rintro x c l rg u7 ⟨rfl,rfl,u⟩;dsimp only;refine AH (NE C g (by lia) (by lia) ?_)
  cases N:lt (ix (AS l) (lo+x)) (ix (AS l) (lo+x - 1))with
  | true=>exact AK ⟨rfl,x,rfl,rg,by lia,u,.inr N⟩
  | false=>exact AK ⟨rfl,rfl,Up.grow (hi:=lo+x) O g (by lia) u (by lia) N⟩
 case post=>
  rintro c l ⟨rfl,n,rfl,rY,oK,u,hd⟩;dsimp only
  by_cases T:n=nk
  ·rw[qX (by simpa using T)]
   exact AK (h l n g rY oK u .refl rfl)
  ·rw[qY (by simpa using T)]
   have oC:=hd.resolve_left T
   have P:∀(nD:A9),Good a₀ H nD->Dn lt (AS nD) lo (lo+(n+1))->Out (AS l) (AS nD) lo (lo+nk)->AT nD=AT l ->
     wpS (AR prog w) A E s (do
      liftM (rule "list.sort.descending-run")
      let mut n:=n+1
      let mut neq:=0
      for _ in [n:nk] do
       let some X <-kC (lo+n) (lo+n - 1) | return none
       if X then
        if neq > 0 then OS (lo+n - (neq+1)) (lo+n)
        neq:=0
       else
        let some rZ <-kC (lo+n - 1) (lo+n) | return none
        if rZ then break
        neq:=neq+1
       n:=n+1
      if neq > 0 then OS (lo+n - (neq+1)) (lo+n)
      OS lo (lo+n)
      for _ in [n:nk] do
       let some X <-kC (lo+n) (lo+n - 1) | return none
       if X then break
       n:=n+1
      return some n) Q nD:=by
    intro nD Y d1 o1 p1;refine AH (IW ?_)
    refine AH (Cq (Bh (I:=λx c B=>Good a₀ H B/\∃q,c=(none,x,q)/\q+1<=x/\Dn lt (AS B) lo (lo+x)/\Up lt (AS B) (lo+x - (q+1)) (lo+x)/\Out (AS l) (AS B) lo (lo+nk)/\AT B=AT l)
     (Q:=λc B=>Good a₀ H B/\∃n q,c=(none,n,q)/\n<=nk/\q+1<=n/\Dn lt (AS B) lo (lo+n)/\Up lt (AS B) (lo+n - (q+1)) (lo+n)/\Out (AS l) (AS B) lo (lo+nk)/\AT B=AT l) ?dstep ?dfin ?dinit) ?dpost)
    case dinit=>
     refine⟨Y,0,rfl,by lia,d1,?_,o1,p1⟩;have:=U5 O Y (lo:=lo+n) (by lia);rwa [show lo+(n+1) - (0+1)=lo+n by lia,show lo+(n+1)=lo+n+1 by lia]
    case dfin=>
     rintro c B ⟨G,q,rfl,N,d2,S,J,L⟩
     have e:max (n+1) nk=nk:=by lia
     rw[e]at d2 S N ⊢;exact⟨G,nk,q,rfl,AN _,N,d2,S,J,L⟩
    case dstep=>
     rintro x c B rg u7 ⟨G,q,rfl,N,d2,S,J,L⟩;dsimp only;refine AH (NE C G (by lia) (by lia) ?_)
     cases hs:lt (ix (AS B) (lo+x)) (ix (AS B) (lo+x - 1))with
     | true=>
      dsimp only;rw[qX rfl];have Z:=O.asym _ _ (G.mem (show lo+x < _ by lia)) (G.mem (show lo+x - 1 < _ by lia)) hs
      by_cases sd:q > 0
      ·rw[qX sd,LC]
       have o:lo+x<=(AS B).size:=by rw[G.size];lia
       have U:Good a₀ H (setArr B (Iv (AS B) (lo+x - (q+1)) (lo+x) ((lo+x - (lo+x - (q+1))) / 2))):=G.setArr (Sw _ _ _ _);have d3:=Dn.part (lt:=lt) (lo:=lo) o (show lo<=lo+x - (q+1) by lia) (by omega) d2 S;refine AH (Cz (AK ⟨U,0,rfl,by lia,?_,?_,J.trans (JO o (by lia) (by lia)),L⟩))
       ·refine Dn.grow (hi:=lo+x) O U (by lia) d3 (by lia) ?_
        show lt (ix (Iv (AS B) (lo+x - (q+1)) (lo+x) ((lo+x - (lo+x - (q+1))) / 2)) (lo+x - 1)) (ix (Iv (AS B) (lo+x - (q+1)) (lo+x) ((lo+x - (lo+x - (q+1))) / 2)) (lo+x))=false;rw[Da o,Da o,qX (by omega),qY (by lia)];exact O.ntr _ _ _ (G.mem (by lia)) (G.mem (show lo+x - 1 < _ by lia)) (G.mem (by omega)) Z (d2 _ _ (by lia) (by omega) (by lia))
       ·have:=U5 O U (lo:=lo+x) (by lia)
        rwa [show lo+(x+1) - (0+1)=lo+x by lia,show lo+(x+1)=lo+x+1 by lia]
      ·rw[qY sd]
       refine AK ⟨G,0,rfl,by lia,Dn.grow (hi:=lo+x) O G (by lia) d2 (by lia) Z,?_,J,L⟩;have:=U5 O G (lo:=lo+x) (by lia);rwa [show lo+(x+1) - (0+1)=lo+x by lia,show lo+(x+1)=lo+x+1 by lia]
     | false=>
      dsimp only;rw[qY Ac];refine AH (NE C G (by lia) (by lia) ?_)
      cases hl:lt (ix (AS B) (lo+x - 1)) (ix (AS B) (lo+x))with
      | true=>exact AK ⟨G,x,q,rfl,by lia,N,d2,S,J,L⟩
      | false=>
       refine AK ⟨G,q+1,rfl,by lia,Dn.grow (hi:=lo+x) O G (by lia) d2 (by lia) hl,?_,J,L⟩;rw[show lo+(x+1) - (q+1+1)=lo+x - (q+1) by lia];exact Up.grow (hi:=lo+x) O G (by lia) S (by omega) hs
    case dpost=>
     rintro c B ⟨G,m,q,rfl,hm,N,d2,S,J,L⟩;dsimp only
     have o:lo+m<=(AS B).size:=by rw[G.size];lia
     have last:∀oY,Good a₀ H oY->Dn lt (AS oY) lo (lo+m)->Out (AS l) (AS oY) lo (lo+nk)->AT oY=AT l->∀(R:StateT A9 Sem (Option Nat)),R=(do
        let mut n:=m
        for _ in [n:nk] do
         let some X <-kC (lo+n) (lo+n - 1) | return none
         if X then break
         n:=n+1
        return some n)->wpS (AR prog w) A E s (do OS lo (lo+m);R) Q oY:=by
      rintro oY U d3 o3 p3 R rfl
      have u9:lo+m<=(AS oY).size:=by rw[U.size];lia
      rw[LC];refine AH (Cz ?_);have g4:Good a₀ H (setArr oY (Iv (AS oY) lo (lo+m) ((lo+m - lo) / 2))):=U.setArr (Sw _ _ _ _)
      exact cX C O (by lia) hm hn g4 (Dn.flip u9 d3) λk k1 k2 k3=>h _ k g4 k1 k2 k3 (o3.trans (JO u9 (by lia) (by lia))) p3
     by_cases sd:q > 0
     ·rw[qX sd,LC]
      refine AH (Cz ?_);exact last _ (G.setArr (Sw _ _ _ _)) (Dn.part o (by lia) (by omega) d2 S) (J.trans (JO o (by lia) (by lia))) L _ rfl
     ·rw[qY sd]
      exact last _ G d2 J L _ rfl
   have Z:=O.asym _ _ (g.mem (show lo+n < _ by lia)) (g.mem (show lo+n - 1 < _ by omega)) oC
   by_cases vN:n > 1
   ·rw[qX vN]
    refine AH (NE C g (by lia) (by omega) ?_)
    cases hr:lt (ix (AS l) lo) (ix (AS l) (lo+n - 1))with
    | true=>exact AK (h l n g rY oK u .refl rfl)
    | false=>
     dsimp only;rw[qY Ac,LC]
     have o:lo+n<=(AS l).size:=by rw[g.size];lia
     have Y:Good a₀ H (setArr l (Iv (AS l) lo (lo+n) ((lo+n - lo) / 2))):=g.setArr (Sw _ _ _ _)
     have al:∀i j,lo<=i->i < lo+n->lo<=j->j < lo+n->lt (ix (AS l) i) (ix (AS l) j)=false:=λi j i1 i2 j1 j2=>by
      have q1:=u j (lo+n - 1) (by omega) (by lia) (by omega);have q2:=u lo i (by lia) (by omega) (by omega);exact O.ntr _ _ _ (g.mem (by lia)) (g.mem (show lo < _ by lia)) (g.mem (by lia)) (O.ntr _ _ _ (g.mem (by lia)) (g.mem (show lo+n - 1 < _ by lia)) (g.mem (by lia)) q1 hr) q2
     refine AH (Cz ?_);refine P _ Y ?_ (JO o (by lia) (by lia)) rfl;refine Dn.grow (hi:=lo+n) O Y (by lia) (λi j a1 a2 a3=>?_) (by lia) ?_
     ·show lt (ix (Iv (AS l) lo (lo+n) ((lo+n - lo) / 2)) i) (ix (Iv (AS l) lo (lo+n) ((lo+n - lo) / 2)) j)=false
      rw[Da o,Da o,qX (by lia),qX (by lia)];exact al _ _ (by omega) (by omega) (by omega) (by omega)
     ·show lt (ix (Iv (AS l) lo (lo+n) ((lo+n - lo) / 2)) (lo+n - 1)) (ix (Iv (AS l) lo (lo+n) ((lo+n - lo) / 2)) (lo+n))=false
      rw[Da o,Da o,qX (by omega),qY (by lia),show lo+(lo+n) - 1 - (lo+n - 1)=lo by omega];exact O.ntr _ _ _ (g.mem (by lia)) (g.mem (show lo+n - 1 < _ by lia)) (g.mem (by lia)) Z hr
   ·rw[qY vN]
    have e:n=1:=by lia
    subst e;refine P _ g (Dn.grow (hi:=lo+1) O g (by lia) (λi j a1 a2 a3=>?_) (by lia) Z) .refl rfl
    have e1:i=lo:=by lia
    have e2:j=lo:=by lia
    rw[e1,e2];exact O.irr (g.mem (by lia))
end
noncomputable def mH:Bool->A0->Array A0->Nat->Nat->Nat->StateT A9 Sem (Option Nat):=sortPriv% PySem.Builtin.gallop
section
noncomputable abbrev BS:=Option (Option Nat)×Nat×Nat
theorem fC{st:A9}{p:Nat->Bool}{n lo hi:Nat}{F:Nat->BS->StateT A9 Sem (ForInStep BS)}{T:BS->StateT A9 Sem (Option Nat)}{Q:Option Nat->A9->Prop}(H:lo<=hi)(J:hi<=n)
  (L:∀i,i < lo->p i=true) (N:∀i,hi<=i->i < n->p i=false) (mono:∀i j,i<=j->j < n->p j=true->p i=true)
  (O:∀x l h (R:ForInStep BS->A9->Prop),l<=h->h<=n->(l ≥ h->R (.done (none,l,h)) st)->(l < h->p (l+(h - l) / 2)=true->R (.yield (none,l+(h - l) / 2+1,h)) st)->(l < h->p (l+(h - l) / 2)=false->R (.yield (none,l,l+(h - l) / 2)) st) ->
   wpS (AR prog w) A E s (F x (none,l,h)) R st)
  (P:∀l h,h<=n->(∀i,i < h->p i=true)->(∀i,h<=i->i < n->p i=false)->wpS (AR prog w) A E s (T (none,l,h)) Q st):wpS (AR prog w) A E s (forIn [0:n] (none,lo,hi) F >>= T) Q st:=by
 refine AH (Cq (Bh (I:=λx c g=>g=st/\∃l h,c=(none,l,h)/\l<=h/\h<=n/\h - l<=n - x/\(∀i,i < l->p i=true)/\(∀i,h<=i->i < n->p i=false))
  (Q:=λc g=>g=st/\∃l h,c=(none,l,h)/\h<=n/\(∀i,i < h->p i=true)/\(∀i,h<=i->i < n->p i=false)) ?step ?fin ⟨rfl,lo,hi,rfl,H,J,by lia,L,N⟩) ?post)
 case fin=>
  rintro c g ⟨rfl,l,h,rfl,G,m,S,o,B⟩
  have:l=h:=by lia
  subst this;exact⟨rfl,l,l,rfl,m,o,B⟩
 case step=>
  rintro x c g _ Z ⟨rfl,l,h,rfl,G,m,S,o,B⟩
  refine O x l h _ G m (λot=>?_) (λU C=>?_) λU C=>?_
  ·have:l=h:=by lia
   subst this;exact⟨rfl,l,l,rfl,m,o,B⟩
  ·exact⟨rfl,_,_,rfl,by lia,m,by omega,λi hi=>mono i (l+(h - l) / 2) (by lia) (by lia) C,B⟩
  ·refine⟨rfl,_,_,rfl,by lia,by lia,by omega,o,λi X Y=>?_⟩
   cases e:p i with
   | false=>rfl
   | true=>rw[mono _ i X Y e]at C;cases C
 case post=>
  rintro c g ⟨rfl,l,h,rfl,m,o,B⟩;exact P l h m o B
theorem W0{st:A9}{q:Nat->Bool}{n mx:Nat}{F:Nat->BS->StateT A9 Sem (ForInStep BS)}{T:BS->StateT A9 Sem (Option Nat)}{Q:Option Nat->A9->Prop}(hm:mx<=n)(B:q 0=true)
  (C:∀x a b (R:ForInStep BS->A9->Prop),a < b->(b ≥ mx->R (.done (none,a,b)) st)->(b < mx->q b=false->R (.done (none,a,b)) st)->(b < mx->q b=true->R (.yield (none,b,2 * b+1)) st)->wpS (AR prog w) A E s (F x (none,a,b)) R st)
  (G:∀a b,a < b->q a=true->(a=0∨a < mx)->(b < mx->q b=false)->wpS (AR prog w) A E s (T (none,a,b)) Q st):wpS (AR prog w) A E s (forIn [0:n] (none,0,1) F >>= T) Q st:=by
 refine AH (Cq (Bh (I:=λx c g=>g=st/\∃a b,c=(none,a,b)/\a < b/\x+1<=b/\q a=true/\(a=0∨a < mx))
  (Q:=λc g=>g=st/\∃a b,c=(none,a,b)/\a < b/\q a=true/\(a=0∨a < mx)/\(b < mx->q b=false)) ?step ?fin ⟨rfl,0,1,rfl,by lia,by lia,B,.inl rfl⟩) ?post)
 case fin=>
  rintro c g ⟨rfl,a,b,rfl,i,H,j,l⟩;exact⟨rfl,a,b,rfl,i,j,l,λh=>by lia⟩
 case step=>
  rintro x c g _ L ⟨rfl,a,b,rfl,i,H,j,l⟩
  refine C x a b _ i (λN=>?_) (λo m=>?_) λo m=>?_
  ·exact⟨rfl,a,b,rfl,i,j,l,λh=>by lia⟩
  ·exact⟨rfl,a,b,rfl,i,j,l,λ_=>m⟩
  ·exact⟨rfl,b,2 * b+1,rfl,by lia,by lia,m,.inr o⟩
 case post=>
  rintro c g ⟨rfl,a,b,rfl,i,j,l,J⟩;exact G a b i j l J
theorem EG{st:A9}{left:Bool}{key:A0}{arr:Array A0}{base n hint:Nat}{Q:Option Nat->A9->Prop}(C:Jv prog w A s a₀ κ lt)(g:Good a₀ κ st)(p:Nat->Bool)
  (Z:key∈a₀) (vU:∀i,i < n->base+i < arr.size/\ix arr (base+i)∈a₀) (hp:∀i,i < n->p i=if left=true then lt (ix arr (base+i)) key else !lt key (ix arr (base+i)))
  (mono:∀i j,i<=j->j < n->p j=true->p i=true) (hh:hint < n)
  (h:∀k,k<=n->(∀i,i < k->p i=true)->(∀i,k<=i->i < n->p i=false)->Q (some k) st):wpS (AR prog w) A E s (mH left key arr base n hint) Q st:=by
 have S:∀i,i < n->∀R:Option Bool->A9->Prop,R (some (p i)) st->wpS (AR prog w) A E s (do let x <-elem' arr (base+i);if left=true then lt' x key else do let y <-lt' key x;pure (y.map (!·))) R st:=by
  intro i B R X;obtain⟨P,I⟩:=vU i B;rw[cK,Ct P];refine AH (AK ?_);rw[hp i B]at X
  cases left with
  | true=>exact O4 C g I Z X
  | false=>exact AH (O4 C g Z I (AK X))
 refine(AH ?_:wpS _ _ _ _ (mH left key arr base n hint) Q st);refine S hint hh _ ?_
 have fin:∀(lo B:Nat) {F:Nat->BS->StateT A9 Sem (ForInStep BS)} {T:BS->StateT A9 Sem (Option Nat)},lo<=B->B<=n->(∀i,i < lo->p i=true)->(∀i,B<=i->i < n->p i=false) ->
   (∀x l m (R:ForInStep BS->A9->Prop),l<=m->m<=n->(l ≥ m->R (.done (none,l,m)) st)->(l < m->p (l+(m - l) / 2)=true->R (.yield (none,l+(m - l) / 2+1,m)) st)->(l < m->p (l+(m - l) / 2)=false->R (.yield (none,l,l+(m - l) / 2)) st) ->
    wpS (AR prog w) A E s (F x (none,l,m)) R st)->(∀l m,T (none,l,m)=pure (some m))->wpS (AR prog w) A E s (forIn [0:n] (none,lo,B) F >>= T) Q st:=λlo B F T P I h3 h4 hF hT=>
  fC P I h3 h4 mono hF λl m q1 q2 q3=>by rw[hT];exact AK (h m q1 q2 q3)
 cases hq:p hint with
 | true=>
  dsimp only;rw[qX rfl]
  refine W0 (q:=λi=>decide (hint+i < n)&&p (hint+i)) (mx:=n - hint) (by lia) (by simp[hq,hh]) (λx a b R Y J L N=>?_) λa b Y G ha hb=>?_
  ·dsimp only
   by_cases o:b ≥ n - hint
   ·rw[qX o];exact AK (J o)
   ·rw[qY o]
    refine AH (S (hint+b) (by lia) _ ?_);have H:decide (hint+b < n)=true:=wX (by lia)
    cases e:p (hint+b)with
    | true=>exact AK (N (by lia) (by simp[H,e]))
    | false=>exact AK (L (by lia) (by simp[H,e]))
  ·dsimp only
   have U:p (hint+a)=true:=by simp at G;exact G.2
   have yN:hint+a < n:=by simp at G;exact G.1
   refine fin (hint+a+1) (hint+min b (n - hint)) (by omega) (by omega) (λi B=>mono i (hint+a) (by lia) yN U) (λi P I=>?_) (λx l m R l1 l2 J L N=>?_) λl m=>rfl
   ·by_cases O:b < n - hint
    ·have:=hb O
     have H:decide (hint+b < n)=true:=wX (by lia);rw[H,gZ]at this
     cases e:p i with
     | false=>rfl
     | true=>rw[mono (hint+b) i (by lia) I e]at this;cases this
    ·omega
   ·dsimp only
    by_cases o:l ≥ m
    ·rw[qX o];exact AK (J o)
    ·rw[qY o]
     refine AH (S (l+(m - l) / 2) (by lia) _ ?_)
     cases e:p (l+(m - l) / 2)with
     | true=>exact AK (L (by lia) e)
     | false=>exact AK (N (by lia) e)
 | false=>
  dsimp only;rw[qY Ac]
  refine W0 (q:=λi=>decide (i<=hint)&&!p (hint - i)) (mx:=hint+1) (by lia) (by simp[hq]) (λx a b R Y J L N=>?_) λa b Y G ha hb=>?_
  ·dsimp only
   by_cases o:b ≥ hint+1
   ·rw[qX o];exact AK (J o)
   ·rw[qY o]
    refine AH (S (hint - b) (by omega) _ ?_);have H:decide (b<=hint)=true:=wX (by lia)
    cases e:p (hint - b)with
    | true=>exact AK (L (by lia) (by simp[H,e]))
    | false=>exact AK (N (by lia) (by simp[H,e]))
  ·dsimp only
   have U:p (hint - a)=false:=by simp at G;exact G.2
   have yN:a<=hint:=by simp at G;exact G.1
   refine fin (hint+1 - min b (hint+1)) (hint - a) (by omega) (by omega) (λi B=>?_) (λi P I=>?_) (λx l m R l1 l2 J L N=>?_) λl m=>rfl
   ·by_cases O:b < hint+1
    ·have:=hb O
     have H:decide (b<=hint)=true:=wX (by lia);rw[H,gZ]at this;exact mono i (hint - b) (by omega) (by lia) (by simpa using this)
    ·omega
   ·cases e:p i with
    | false=>rfl
    | true=>rw[mono (hint - a) i P I e]at U;cases U
   ·dsimp only
    by_cases o:l ≥ m
    ·rw[qX o];exact AK (J o)
    ·rw[qY o]
     refine AH (S (l+(m - l) / 2) (by lia) _ ?_)
     cases e:p (l+(m - l) / 2)with
     | true=>exact AK (L (by lia) e)
     | false=>exact AK (N (by lia) e)
end
structure MI(R:A0->A0->Prop)(T o ra rb:List A0):Prop where
 perm:(o++(ra++rb)).Perm T
 srt:o.Pairwise R
 low:∀x∈o,∀y∈ra++rb,R x y
 sa:ra.Pairwise R
 sb:rb.Pairwise R
structure G4(R:A0->A0->Prop)(T r:List A0):Prop where
 perm:r.Perm T
 srt:r.Pairwise R
section
theorem MI.takeA(m:MI R T o (xs++l) rb)(h:∀x∈xs,∀y∈rb,R x y):MI R T (o++xs) l rb:=by
 have j:=BL.mp m.sa;refine⟨by simpa[BW]using m.perm,BL.mpr ⟨m.srt,j.1,λx g y i=>m.low x g y (by simp[i])⟩,λx g y i=>?_,j.2.1,m.sb⟩
 rcases Ax.mp g with g | g
 ·exact m.low x g y (by rcases Ax.mp i with h | h <;> simp[h])
 ·rcases Ax.mp i with i | i
  ·exact j.2.2 x g y i
  ·exact h x g y i
theorem MI.takeB(m:MI R T o l (xs++rb))(h:∀x∈xs,∀y∈l,R x y):MI R T (o++xs) l rb:=by
 have j:=BL.mp m.sb;refine⟨?_,BL.mpr ⟨m.srt,j.1,λx g y i=>m.low x g y (by simp[i])⟩,λx g y i=>?_,m.sa,j.2.1⟩
 ·refine List.Perm.trans ?_ m.perm
  rw[BW];refine Ix o ?_;rw[<-BW,<-BW];exact QQ rb Uv
 ·rcases Ax.mp g with g | g
  ·exact m.low x g y (by rcases Ax.mp i with h | h <;> simp[h])
  ·rcases Ax.mp i with i | i
   ·exact h x g y i
   ·exact j.2.2 x g y i
theorem MI.endA(m:MI R T o g []):G4 R T (o++g):=by
 refine⟨by simpa using m.perm,BL.mpr ⟨m.srt,m.sa,λx i y j=>m.low x i y (by simp[j])⟩⟩
theorem MI.endB(m:MI R T o [] g):G4 R T (o++g):=by
 refine⟨by simpa using m.perm,BL.mpr ⟨m.srt,m.sb,λx i y j=>m.low x i y (by simp[j])⟩⟩
theorem MI.last(m:MI R T o g i)(h:∀y∈i,∀x∈g,R y x):G4 R T (o++(i++g)):=by
 refine⟨(Ix o Uv).trans m.perm,BL.mpr ⟨m.srt,BL.mpr ⟨m.sb,m.sa,h⟩,λx j y l=>m.low x j y (by rcases Ax.mp l with h | h <;> simp[h])⟩⟩
end
theorem Op(h:i < a.size):a.toList.drop i=ix a i :: a.toList.drop (i+1):=by
 rw[IP (by simpa using h)]
 congr 1
 have:=Ct h;rw[getElem?_pos a i h]at this;simpa using this
theorem HQ{a:Array A0}{i k:Nat}(h:i+k<=a.size):a.toList.drop i=(a.extract i (i+k)).toList++a.toList.drop (i+k):=by
 have e:(a.extract i (i+k)).toList=(a.toList.drop i).take k:=by simp[Nj]
 rw[e,<-LO,CU]
theorem Oe(h:i+k<=a.size)(g:x∈(a.extract i (i+k)).toList):∃j,j < k/\x=ix a (i+j):=by
 rw[BE,OV]at g;obtain⟨j,l,rfl⟩:=g;refine⟨j,by lia,?_⟩;have:=Ct (xs:=a) (i:=i+j) (by lia);rw[getElem?_pos a _ (by lia)]at this;simpa using this
theorem Jd(a:Array A0)(i:Nat):(a.extract i a.size).toList=a.toList.drop i:=by
 simp[Nj];exact Bx (by simp)
theorem Ey(g:x∈a.toList.drop i):∃j,i<=j/\j < a.size/\x=ix a j:=by
 obtain⟨k,l,rfl⟩:=WF.mp g;simp at l;refine⟨i+k,by lia,by omega,?_⟩;have:=Ct (xs:=a) (i:=i+k) (by omega);rw[getElem?_pos a _ (by omega)]at this;simpa using this
section
variable{prog:A3}{w:BR}{A:BO}{E:AD->AG->Prop}{s:AG}{a₀:Array A0}{κ:NA}{lt:A0->A0->Bool}
theorem BN{st:A9}{a:Array A0}{i:Nat}{Q:A0->A9->Prop}(h:i < a.size)(g:Q (ix a i) st):wpS (AR prog w) A E s (elem' a i) Q st:=by
 rw[cK,Ct h];exact AK g
noncomputable def mLo:Array A0->Array A0->StateT A9 Sem (Array A0):=sortPriv% PySem.Builtin.mergeLo
noncomputable def mHi:Array A0->Array A0->StateT A9 Sem (Array A0):=sortPriv% PySem.Builtin.mergeHi
structure J9(a₀:Array A0)(κ:NA)(st st':A9):Prop where
 good:Good a₀ κ st'
 arr:AS st'=AS st
 pend:AT st'=AT st
theorem J9.gal{st g:A9}(h:J9 a₀ κ st g)(n:Nat):J9 a₀ κ st (F0 (kindOf g) (AS g) (AT g) n (HX g)):=⟨⟨h.good.perm,h.good.kind,h.good.failed⟩,h.arr,h.pend⟩
noncomputable abbrev Rl(lt:A0->A0->Bool)(x y:A0):Prop:=lt y x=false
theorem TU(O:Ord (·∈a₀) lt){a:Array A0}(ma:∀i,i < a.size->ix a i∈a₀)(l:a.toList.Pairwise (Rl lt)):∀i j,i<=j->j < a.size->Rl lt (ix a i) (ix a j):=λi j o g=>by
 by_cases e:i=j
 ·subst e;exact O.irr (ma i g)
 ·have m:=Op (a:=a) (i:=i) (by lia)
  have:=l.sublist (List.drop_sublist i a.toList);rw[m]at this;refine(List.pairwise_cons.mp this).1 _ ?_;rw[show a.toList.drop (i+1)=(a.extract (i+1) (i+1+(j - (i+1)))).toList++a.toList.drop (i+1+(j - (i+1)))from HQ (by lia),show i+1+(j - (i+1))=j by lia,Op g];simp
theorem SX(ma:∀x∈a.toList,x∈a₀):∀i,i < a.size->ix a i∈a₀:=λi g=>ma _ (BE.mpr (CQ (Ct g)))
theorem OW{st:A9}{n:Nat}{Q:Unit->A9->Prop}(h:Q () (F0 (kindOf st) (AS st) (AT st) n (HX st))):wpS (AR prog w) A E s ((sortPriv% PySem.Builtin.setMinGallop) n) Q st:=Cz h
noncomputable abbrev L7:=Option (Array A0)×Array A0×Nat×Nat×Nat×Nat×Nat
theorem cV{st:A9}{a b:Array A0}{Q:Array A0->A9->Prop}(C:Jv prog w A s a₀ κ lt)(O:Ord (·∈a₀) lt)(g:Good a₀ κ st)
  (ma:∀x∈a.toList,x∈a₀) (mb:∀x∈b.toList,x∈a₀) (sa:a.toList.Pairwise (Rl lt)) (sb:b.toList.Pairwise (Rl lt)) (na:0 < a.size) (nb:0 < b.size)
  (h0:∀x∈a.toList,Rl lt (ix b 0) x) (h1:∀y∈b.toList,Rl lt y (ix a (a.size - 1)))
  (h:∀r B,J9 a₀ κ st B->G4 (Rl lt) (a.toList++b.toList) r.toList->Q r B):wpS (AR prog w) A E s (mLo a b) Q st:=by
 have N:=SX ma;have R:=SX mb;have ua:=TU O N sa;have ub:=TU O R sb
 have tr:∀x y z:A0,x∈a₀->y∈a₀->z∈a₀->Rl lt x y->Rl lt y z->Rl lt x z:=λx y z hx hy hz h1 h2=>O.ntr x y z hx hy hz h1 h2
 let M (out:Array A0) (o ib:Nat):Prop:=MI (Rl lt) (a.toList++b.toList) out.toList (a.toList.drop o) (b.toList.drop ib)
 have tA:∀out o ib,M out o ib->o < a.size->(∀j,ib<=j->j < b.size->Rl lt (ix a o) (ix b j))->M (out.push (ix a o)) (o+1) ib:=λout o ib m Ι hr=>by
  have U:MI (Rl lt) (a.toList++b.toList) out.toList ([ix a o]++a.toList.drop (o+1)) (b.toList.drop ib):=by rw[GC,<-Op Ι];exact m
  have:=U.takeA λx hx y hy=>by
   obtain⟨j,S,H,rfl⟩:=Ey hy;rw[Ag.mp hx];exact hr j S H
  simpa[M]using this
 have tB:∀out o ib,M out o ib->ib < b.size->(∀j,o<=j->j < a.size->Rl lt (ix b ib) (ix a j))->M (out.push (ix b ib)) o (ib+1):=λout o ib m Κ hr=>by
  have U:MI (Rl lt) (a.toList++b.toList) out.toList (a.toList.drop o) ([ix b ib]++b.toList.drop (ib+1)):=by rw[GC,<-Op Κ];exact m
  have:=U.takeB λx hx y hy=>by
   obtain⟨j,S,H,rfl⟩:=Ey hy;rw[Ag.mp hx];exact hr j S H
  simpa[M]using this
 have sA:∀out o ib k,M out o ib->o+k<=a.size->(∀i j,i < k->ib<=j->j < b.size->Rl lt (ix a (o+i)) (ix b j))->M (out++a.extract o (o+k)) (o+k) ib:=λout o ib k m hk hr=>by
  have U:MI (Rl lt) (a.toList++b.toList) out.toList ((a.extract o (o+k)).toList++a.toList.drop (o+k)) (b.toList.drop ib):=by rw[<-HQ hk];exact m
  have:=U.takeA λx hx y hy=>by
   obtain⟨j,S,H,rfl⟩:=Ey hy;obtain⟨i,i1,rfl⟩:=Oe hk hx;exact hr i j i1 S H
  show MI _ _ (out++a.extract o (o+k)).toList _ _;rw[Ak];exact this
 have sB:∀out o ib k,M out o ib->ib+k<=b.size->(∀i j,i < k->o<=j->j < a.size->Rl lt (ix b (ib+i)) (ix a j))->M (out++b.extract ib (ib+k)) o (ib+k):=λout o ib k m hk hr=>by
  have U:MI (Rl lt) (a.toList++b.toList) out.toList (a.toList.drop o) ((b.extract ib (ib+k)).toList++b.toList.drop (ib+k)):=by rw[<-HQ hk];exact m
  have:=U.takeB λx hx y hy=>by
   obtain⟨j,S,H,rfl⟩:=Ey hy;obtain⟨i,i1,rfl⟩:=Oe hk hx;exact hr i j i1 S H
  show MI _ _ (out++b.extract ib (ib+k)).toList _ _;rw[Ak];exact this
 have eB:∀out o ib,M out o ib->ib=b.size->G4 (Rl lt) (a.toList++b.toList) (out++a.extract o a.size++b.extract ib b.size).toList:=λout o ib m e=>by
  subst e
  have U:MI (Rl lt) (a.toList++b.toList) out.toList (a.toList.drop o) []:=by
   have:b.toList.drop b.size=[]:=by simp
   rw[<-this];exact m
  rw[Ak,Ak,Jd,Jd,show b.toList.drop b.size=[] by simp,BV];exact U.endA
 have eA:∀out o ib,M out o ib->o=a.size->G4 (Rl lt) (a.toList++b.toList) (out++a.extract o a.size++b.extract ib b.size).toList:=λout o ib m e=>by
  subst e
  have U:MI (Rl lt) (a.toList++b.toList) out.toList [] (b.toList.drop ib):=by
   have:a.toList.drop a.size=[]:=by simp
   rw[<-this];exact m
  rw[Ak,Ak,Jd,Jd,show a.toList.drop a.size=[] by simp,BV];exact U.endB
 have eL:∀out o ib,M out o ib->o+1=a.size->G4 (Rl lt) (a.toList++b.toList) (out++b.extract ib b.size++a.extract o a.size).toList:=λout o ib m e=>by
  have:=m.last λy hy x hx=>by
   obtain⟨j,S,H,rfl⟩:=Ey hx;obtain⟨i,i1,i2,rfl⟩:=Ey hy
   have:j=a.size - 1:=by lia
   subst this;exact h1 _ (BE.mpr (CQ (Ct i2)))
  rw[Ak,Ak,Jd,Jd,BW];exact this
 have m0:M #[] 0 0:=⟨by simp,by simp,by simp,by simpa using sa,by simpa using sb⟩
 have m1:M #[ix b 0] 0 1:=by
  have:=tB #[] 0 0 m0 nb λj _ hj=>h0 _ (BE.mpr (CQ (Ct hj)))
  simpa using this
 refine(AH (IW ?_):wpS _ _ _ _ (mLo a b) Q st);refine AH (BN nb ?_)
 by_cases c1:1=b.size
 ·refine(show wpS (AR prog w) A E s (if (1==b.size)=true then _ else _) Q st from ?_)
  rw[qX (by simpa using c1)];exact AK (h _ st ⟨g,rfl,rfl⟩ (eB _ _ _ m1 c1))
 refine(show wpS (AR prog w) A E s (if (1==b.size)=true then _ else _) Q st from ?_);rw[qY (by simpa using c1)]
 by_cases c2:0+1=a.size
 ·rw[qX (by simpa using c2)]
  exact AK (h _ st ⟨g,rfl,rfl⟩ (eL _ _ _ m1 c2))
 rw[qY (by simpa using c2)];refine AH (GV ?_)
 refine AH (Cq (Bh (I:=λx c B=>J9 a₀ κ st B/\∃out o ib mg,c=(none,out,o,ib,mg)/\M out o ib/\o+1 < a.size/\ib < b.size/\1+x<=o+ib)
  (Q:=λc B=>J9 a₀ κ st B/\∃r z,c=(some r,z)/\G4 (Rl lt) (a.toList++b.toList) r.toList) ?step ?fin ?init) ?post)
 case init=>exact⟨⟨g,rfl,rfl⟩,_,_,_,_,rfl,m1,by lia,by lia,by lia⟩
 case fin=>
  rintro c B ⟨_,out,o,ib,mg,_,_,k1,k2,T⟩
  lia
 case post=>
  rintro c B ⟨s1,r,z,rfl,f⟩;exact AK (h r B s1 f)
 case step=>
  rintro x c nD _ _ ⟨s1,out,o,ib,mg,rfl,m,k1,k2,T⟩
  refine AH (Cq (Bh (I:=λy c B=>B=nD/\∃nv G J Y Z,c=(none,nv,G,J,Y,Z)/\M nv G J/\G+1 < a.size/\J < b.size/\o+ib+y<=G+J)
   (Q:=λc B=>B=nD/\((∃r z,c=(some r,z)/\G4 (Rl lt) (a.toList++b.toList) r.toList)∨∃nv G J Y Z,c=(none,nv,G,J,Y,Z)/\M nv G J/\G+1 < a.size/\J < b.size/\o+ib+1<=G+J)) ?step1 ?fin1 ?init1) ?post1)
  case init1=>exact⟨rfl,out,o,ib,0,0,rfl,m,k1,k2,by lia⟩
  case fin1=>
   rintro c B ⟨rfl,nv,G,J,Y,Z,rfl,U,q1,q2,q3⟩;exact⟨rfl,.inr ⟨nv,G,J,Y,Z,rfl,U,q1,q2,by lia⟩⟩
  case step1=>
   rintro y c B _ _ ⟨rfl,nv,G,J,Y,Z,rfl,U,q1,q2,q3⟩;refine AH (BN (i:=J) q2 ?_);refine AH (BN (i:=G) (show G < a.size by lia) ?_);refine AH (O4 C s1.good (R _ q2) (N _ (by lia)) ?_)
   cases e:lt (ix b J) (ix a G)with
   | true=>
    refine AH (BN q2 ?_);have r0:Rl lt (ix b J) (ix a G):=O.asym _ _ (R _ q2) (N _ (by lia)) e
    have m2:=tB nv G J U q2 λj S H=>tr _ _ _ (R _ q2) (N _ (by lia)) (N _ H) r0 (ua G j S H)
    refine(show wpS (AR prog w) A E s (if (J+1==b.size)=true then _ else _) _ B from ?_)
    by_cases d:J+1=b.size
    ·rw[qX (by simpa using d)]
     exact AK ⟨rfl,.inl ⟨_,_,rfl,eB _ _ _ m2 d⟩⟩
    ·rw[qY (by simpa using d)]
     split
     ·exact AK ⟨rfl,.inr ⟨_,G,J+1,_,_,rfl,m2,by omega,by lia,by lia⟩⟩
     ·exact AK ⟨rfl,_,G,J+1,_,_,rfl,m2,by omega,by lia,by lia⟩
   | false=>
    refine AH (BN (show G < a.size by lia) ?_)
    have m2:=tA nv G J U (by lia) λj S H=>tr _ _ _ (N _ (by lia)) (R _ q2) (R _ H) e (ub J j S H)
    refine(show wpS (AR prog w) A E s (if (G+1+1==a.size)=true then _ else _) _ B from ?_)
    by_cases d:G+1+1=a.size
    ·rw[qX (by simpa using d)]
     exact AK ⟨rfl,.inl ⟨_,_,rfl,eL _ _ _ m2 d⟩⟩
    ·rw[qY (by simpa using d)]
     split
     ·exact AK ⟨rfl,.inr ⟨_,G+1,J,_,_,rfl,m2,by lia,by omega,by lia⟩⟩
     ·exact AK ⟨rfl,_,G+1,J,_,_,rfl,m2,by lia,by omega,by lia⟩
  case post1=>
   rintro c B ⟨rfl,⟨r,z,rfl,f⟩ | ⟨nv,G,J,Y,Z,rfl,U,q1,q2,q3⟩⟩
   ·exact AK ⟨s1,_,_,rfl,f⟩
   refine AH (IW ?_)
   refine AH (Cq (Bh (I:=λy c n8=>J9 a₀ κ st n8/\∃X l ng nW Y Z,c=(none,X,l,ng,nW,Y,Z)/\M X l ng/\l+1 < a.size/\ng < b.size/\o+ib+1<=l+ng)
    (Q:=λc n8=>J9 a₀ κ st n8/\((∃r z,c=(some r,z)/\G4 (Rl lt) (a.toList++b.toList) r.toList)∨∃X l ng nW Y Z,c=(none,X,l,ng,nW,Y,Z)/\M X l ng/\l+1 < a.size/\ng < b.size/\o+ib+1<=l+ng)) ?step2 ?fin2 ?init2) ?post2)
   case init2=>exact⟨s1,nv,G,J,mg+1,Y,Z,rfl,U,q1,q2,q3⟩
   case fin2=>
    rintro c n8 ⟨L,X,l,ng,nW,ac2,bc2,rfl,m2,p1,p2,p3⟩;exact⟨L,.inr ⟨X,l,ng,nW,ac2,bc2,rfl,m2,p1,p2,p3⟩⟩
   case post2=>
    rintro c n8 ⟨L,⟨r,z,rfl,f⟩ | ⟨X,l,ng,nW,ac2,bc2,rfl,m2,p1,p2,p3⟩⟩
    ·exact AK ⟨L,_,_,rfl,f⟩
    ·exact AH (OW (AK ⟨L.gal _,X,l,ng,nW+1,rfl,m2,p1,p2,by lia⟩))
   case step2=>
    rintro y c n8 _ _ ⟨L,X,l,ng,nW,ac2,bc2,rfl,m2,p1,p2,p3⟩
    let P:ForInStep L7->A9->Prop:=λr B=>match r with
     | .done c'=>J9 a₀ κ st B/\((∃r z,c'=(some r,z)/\G4 (Rl lt) (a.toList++b.toList) r.toList)∨∃X l ng nW Y Z,c'=(none,X,l,ng,nW,Y,Z)/\M X l ng/\l+1 < a.size/\ng < b.size/\o+ib+1<=l+ng)
     | .yield c'=>J9 a₀ κ st B/\∃X l ng nW Y Z,c'=(none,X,l,ng,nW,Y,Z)/\M X l ng/\l+1 < a.size/\ng < b.size/\o+ib+1<=l+ng
    refine Cq (Q:=P) ?_ λr B h=>by cases r <;> exact h
    refine(show wpS (AR prog w) A E s (if nW > 1 then _ else _) P n8 from ?_);split
    all_goals
     refine AH (OW ?_);refine AH (BN (i:=ng) p2 ?_);refine AH (EG (base:=l) (n:=a.size - l) (hint:=0) (arr:=a) (key:=ix b ng) (left:=false) C (L.gal _).good (λi=>!lt (ix b ng) (ix a (l+i))) (R _ p2) (λi hi=>⟨by lia,N _ (by lia)⟩) (λi hi=>rfl) (λi j sf hj e=>?_) (by lia) λk hk k1 k2=>?_)
     ·have e':lt (ix b ng) (ix a (l+j))=false:=by simpa using e
      have:=tr _ _ _ (N _ (by lia)) (N _ (by lia)) (R _ p2) (ua (l+i) (l+j) (by lia) (by lia)) e';simpa using this
     ·have yO:∀j,l+k<=j->j < a.size->Rl lt (ix b ng) (ix a j):=λj S H=>by
       have:=k2 (j - l) (by lia) (by lia);rw[show l+(j - l)=j by lia]at this;exact O.asym _ _ (R _ p2) (N _ H) (by simpa using this)
      have m5:=sA X l ng k m2 (by lia) λi j hi S H=>tr _ _ _ (N _ (by lia)) (R _ p2) (R _ H) (by simpa using k1 i hi) (ub ng j S H)
      refine(show wpS (AR prog w) A E s (if k > 0 then _ else _) P _ from ?_)
      by_cases hk0:k > 0
      ·rw[qX hk0]
       refine(show wpS (AR prog w) A E s (if (l+k+1==a.size)=true then _ else _) P _ from ?_)
       by_cases d1:l+k+1=a.size
       ·rw[qX (by simpa using d1)]
        exact AK ⟨L.gal _,.inl ⟨_,_,rfl,eL _ _ _ m5 d1⟩⟩
       rw[qY (by simpa using d1)]
       by_cases d2:l+k=a.size
       ·rw[qX (by simpa using d2)]
        exact AK ⟨L.gal _,.inl ⟨_,_,rfl,eA _ _ _ m5 d2⟩⟩
       rw[qY (by simpa using d2)]
       have c1:l+k+1 < a.size:=by lia
       have c3:o+ib+1<=l+k+ng:=by lia
       have m4:=tB _ _ _ m5 p2 yO;refine AH (BN (i:=ng) p2 ?_);refine(show wpS (AR prog w) A E s (if (ng+1==b.size)=true then _ else _) P _ from ?_)
       by_cases d:ng+1=b.size
       ·rw[qX (by simpa using d)]
        exact AK ⟨L.gal _,.inl ⟨_,_,rfl,eB _ _ _ m4 d⟩⟩
       rw[qY (by simpa using d)];refine AH (BN (i:=l+k) (by lia) ?_);refine AH (EG (base:=ng+1) (n:=b.size - (ng+1)) (hint:=0) (arr:=b) (key:=ix a (l+k)) (left:=true) C (L.gal _).good (λi=>lt (ix b (ng+1+i)) (ix a (l+k))) (N _ (by lia)) (λi hi=>⟨by lia,R _ (by lia)⟩) (λi hi=>rfl) (λi j sf hj e=>?_) (by lia) λT pY k4 k5=>?_)
       ·cases e2:lt (ix b (ng+1+i)) (ix a (l+k))with
        | true=>rfl
        | false=>
         have:=tr _ _ _ (N _ (by lia)) (R _ (by lia)) (R _ (by lia)) e2 (ub (ng+1+i) (ng+1+j) (by lia) (by lia));exact nomatch (show true=false from(show lt (ix b (ng+1+j)) (ix a (l+k))=true from e).symm.trans this)
       ·have qh:∀j,ng+1+T<=j->j < b.size->Rl lt (ix a (l+k)) (ix b j):=λj S H=>by
         have:=k5 (j - (ng+1)) (by lia) (by omega);rwa [show ng+1+(j - (ng+1))=j by lia]at this
        have m6:=sB _ (l+k) (ng+1) T m4 (by lia) λi j hi S H=>tr _ _ _ (R _ (by lia)) (N _ (by lia)) (N _ H) (O.asym _ _ (R _ (by lia)) (N _ (by lia)) (k4 i hi)) (ua (l+k) j S H)
        refine(show wpS (AR prog w) A E s (if T > 0 then _ else _) P _ from ?_)
        by_cases pY:T > 0
        ·rw[qX pY]
         refine(show wpS (AR prog w) A E s (if (ng+1+T==b.size)=true then _ else _) P _ from ?_)
         by_cases d2:ng+1+T=b.size
         ·rw[qX (by simpa using d2)]
          exact AK ⟨L.gal _,.inl ⟨_,_,rfl,eB _ _ _ m6 d2⟩⟩
         rw[qY (by simpa using d2)];have m7:=tA _ _ _ m6 (by lia) qh;refine AH (BN (i:=l+k) (by lia) ?_);refine(show wpS (AR prog w) A E s (if (l+k+1+1==a.size)=true then _ else _) P _ from ?_)
         by_cases d3:l+k+1+1=a.size
         ·rw[qX (by simpa using d3)]
          exact AK ⟨L.gal _,.inl ⟨_,_,rfl,eL _ _ _ m7 d3⟩⟩
         rw[qY (by simpa using d3)];split
         ·exact AK ⟨L.gal _,.inr ⟨_,l+k+1,ng+1+T,_,_,_,rfl,m7,by lia,by lia,by lia⟩⟩
         ·exact AK ⟨L.gal _,_,l+k+1,ng+1+T,_,_,_,rfl,m7,by lia,by lia,by lia⟩
        ·rw[qY pY]
         have:T=0:=by lia
         subst this;have m7:=tA _ _ _ m4 (by lia) qh;refine AH (BN (i:=l+k) (by lia) ?_);refine(show wpS (AR prog w) A E s (if (l+k+1+1==a.size)=true then _ else _) P _ from ?_)
         by_cases d3:l+k+1+1=a.size
         ·rw[qX (by simpa using d3)]
          exact AK ⟨L.gal _,.inl ⟨_,_,rfl,eL _ _ _ m7 d3⟩⟩
         rw[qY (by simpa using d3)];split
         ·exact AK ⟨L.gal _,.inr ⟨_,l+k+1,ng+1,_,_,_,rfl,m7,by lia,by lia,by lia⟩⟩
         ·exact AK ⟨L.gal _,_,l+k+1,ng+1,_,_,_,rfl,m7,by lia,by lia,by lia⟩
      ·rw[qY hk0]
       have:k=0:=by lia
       subst this
       have c1:l+1 < a.size:=by omega
       have c3:o+ib+1<=l+ng:=by omega
       have m4:=tB _ _ _ m2 p2 yO;refine AH (BN (i:=ng) p2 ?_);refine(show wpS (AR prog w) A E s (if (ng+1==b.size)=true then _ else _) P _ from ?_)
       by_cases d:ng+1=b.size
       ·rw[qX (by simpa using d)]
        exact AK ⟨L.gal _,.inl ⟨_,_,rfl,eB _ _ _ m4 d⟩⟩
       rw[qY (by simpa using d)];refine AH (BN (i:=l) (by lia) ?_);refine AH (EG (base:=ng+1) (n:=b.size - (ng+1)) (hint:=0) (arr:=b) (key:=ix a l) (left:=true) C (L.gal _).good (λi=>lt (ix b (ng+1+i)) (ix a l)) (N _ (by lia)) (λi hi=>⟨by lia,R _ (by lia)⟩) (λi hi=>rfl) (λi j sf hj e=>?_) (by lia) λT pY k4 k5=>?_)
       ·cases e2:lt (ix b (ng+1+i)) (ix a l)with
        | true=>rfl
        | false=>
         have:=tr _ _ _ (N _ (by lia)) (R _ (by lia)) (R _ (by lia)) e2 (ub (ng+1+i) (ng+1+j) (by lia) (by lia));exact nomatch (show true=false from(show lt (ix b (ng+1+j)) (ix a l)=true from e).symm.trans this)
       ·have qh:∀j,ng+1+T<=j->j < b.size->Rl lt (ix a l) (ix b j):=λj S H=>by
         have:=k5 (j - (ng+1)) (by lia) (by omega);rwa [show ng+1+(j - (ng+1))=j by lia]at this
        have m6:=sB _ l (ng+1) T m4 (by lia) λi j hi S H=>tr _ _ _ (R _ (by lia)) (N _ (by lia)) (N _ H) (O.asym _ _ (R _ (by lia)) (N _ (by lia)) (k4 i hi)) (ua l j S H)
        refine(show wpS (AR prog w) A E s (if T > 0 then _ else _) P _ from ?_)
        by_cases pY:T > 0
        ·rw[qX pY]
         refine(show wpS (AR prog w) A E s (if (ng+1+T==b.size)=true then _ else _) P _ from ?_)
         by_cases d2:ng+1+T=b.size
         ·rw[qX (by simpa using d2)]
          exact AK ⟨L.gal _,.inl ⟨_,_,rfl,eB _ _ _ m6 d2⟩⟩
         rw[qY (by simpa using d2)];have m7:=tA _ _ _ m6 (by lia) qh;refine AH (BN (i:=l) (by lia) ?_);refine(show wpS (AR prog w) A E s (if (l+1+1==a.size)=true then _ else _) P _ from ?_)
         by_cases d3:l+1+1=a.size
         ·rw[qX (by simpa using d3)]
          exact AK ⟨L.gal _,.inl ⟨_,_,rfl,eL _ _ _ m7 d3⟩⟩
         rw[qY (by simpa using d3)];split
         ·exact AK ⟨L.gal _,.inr ⟨_,l+1,ng+1+T,_,_,_,rfl,m7,by lia,by lia,by lia⟩⟩
         ·exact AK ⟨L.gal _,_,l+1,ng+1+T,_,_,_,rfl,m7,by lia,by lia,by lia⟩
        ·rw[qY pY]
         have:T=0:=by lia
         subst this;have m7:=tA _ _ _ m4 (by lia) qh;refine AH (BN (i:=l) (by lia) ?_);refine(show wpS (AR prog w) A E s (if (l+1+1==a.size)=true then _ else _) P _ from ?_)
         by_cases d3:l+1+1=a.size
         ·rw[qX (by simpa using d3)]
          exact AK ⟨L.gal _,.inl ⟨_,_,rfl,eL _ _ _ m7 d3⟩⟩
         rw[qY (by simpa using d3)];split
         ·exact AK ⟨L.gal _,.inr ⟨_,l+1,ng+1,_,_,_,rfl,m7,by lia,by lia,by lia⟩⟩
         ·exact AK ⟨L.gal _,_,l+1,ng+1,_,_,_,rfl,m7,by lia,by lia,by lia⟩
end
theorem MI.last2(m:MI R T o g i)(h:∀x∈g,∀y∈i,R x y):G4 R T (o++(g++i)):=by
 refine⟨m.perm,BL.mpr ⟨m.srt,BL.mpr ⟨m.sa,m.sb,h⟩,λx j y l=>m.low x j y l⟩⟩
theorem G4.rev(f:G4 (λx y=>Rl lt y x) T r):G4 (Rl lt) T r.reverse:=⟨r.reverse_perm.trans f.perm,Kt.mpr f.srt⟩
theorem WV(h:i < a.size):(a.toList.take (i+1)).reverse=ix a i :: (a.toList.take i).reverse:=by
 have:=Ct h;rw[getElem?_pos a i h]at this;rw[CL,show a.toList[i]?=some (ix a i) by simpa using Ct h];simp
theorem TY{a:Array A0}{i n:Nat}(h:i<=n)(g:n<=a.size):(a.toList.take n).reverse=(a.extract i n).toList.reverse++(a.toList.take i).reverse:=by
 have e:(a.extract i n).toList=(a.toList.take n).drop i:=by simp[Nj,List.drop_take]
 rw[e,<-List.reverse_append]
 congr 1
 have:=CU i (a.toList.take n);rw[fQ,show min i n=i by lia]at this;exact this.symm
theorem Ex(g:x∈(a.toList.take n).reverse):∃j,j < n/\j < a.size/\x=ix a j:=by
 rw[cD]at g;obtain⟨k,l,rfl⟩:=WF.mp g;simp at l;refine⟨k,by lia,by lia,?_⟩;have:=Ct (xs:=a) (i:=k) (by lia);rw[getElem?_pos a _ (by lia)]at this;simpa using this
theorem T3(g:x∈(a.extract i n).toList.reverse):∃j,i<=j/\j < n/\j < a.size/\x=ix a j:=by
 rw[cD,BE,OV]at g;obtain⟨j,l,rfl⟩:=g;refine⟨i+j,by lia,by omega,by omega,?_⟩;have:=Ct (xs:=a) (i:=i+j) (by omega);rw[getElem?_pos a _ (by omega)]at this;simpa using this
theorem G5(a:Array A0)(n:Nat):(a.extract 0 n).toList=a.toList.take n:=by simp[Nj]
section
theorem cW{st:A9}{a b:Array A0}{Q:Array A0->A9->Prop}(C:Jv prog w A s a₀ κ lt)(O:Ord (·∈a₀) lt)(g:Good a₀ κ st)
  (ma:∀x∈a.toList,x∈a₀) (mb:∀x∈b.toList,x∈a₀) (sa:a.toList.Pairwise (Rl lt)) (sb:b.toList.Pairwise (Rl lt)) (pa:0 < a.size) (pb:0 < b.size)
  (h0:∀x∈a.toList,Rl lt (ix b 0) x) (h1:∀y∈b.toList,Rl lt y (ix a (a.size - 1)))
  (h:∀r B,J9 a₀ κ st B->G4 (Rl lt) (a.toList++b.toList) r.toList->Q r B):wpS (AR prog w) A E s (mHi a b) Q st:=by
 have N:=SX ma;have R:=SX mb;have ua:=TU O N sa;have ub:=TU O R sb
 have tr:∀x y z:A0,x∈a₀->y∈a₀->z∈a₀->Rl lt x y->Rl lt y z->Rl lt x z:=λx y z hx hy hz h1 h2=>O.ntr x y z hx hy hz h1 h2
 let M (out:Array A0) (l nb:Nat):Prop:=MI (λx y=>Rl lt y x) (a.toList++b.toList) out.toList (a.toList.take l).reverse (b.toList.take nb).reverse
 have Λ:∀out l nb,M out (l+1) nb->l < a.size->nb<=b.size->(∀j,j < nb->Rl lt (ix b j) (ix a l))->M (out.push (ix a l)) l nb:=λout l nb m qi qG hr=>by
  have T:MI (λx y=>Rl lt y x) (a.toList++b.toList) out.toList ([ix a l]++(a.toList.take l).reverse) (b.toList.take nb).reverse:=by rw[GC,<-WV qi];exact m
  have:=T.takeA λx hx y hy=>by
   obtain⟨j,S,j2,rfl⟩:=Ex hy;rw[Ag.mp hx];exact hr j S
  simpa[M]using this
 have Μ:∀out l nb,M out l (nb+1)->nb < b.size->l<=a.size->(∀j,j < l->Rl lt (ix a j) (ix b nb))->M (out.push (ix b nb)) l nb:=λout l nb m qG qi hr=>by
  have T:MI (λx y=>Rl lt y x) (a.toList++b.toList) out.toList (a.toList.take l).reverse ([ix b nb]++(b.toList.take nb).reverse):=by rw[GC,<-WV qG];exact m
  have:=T.takeB λx hx y hy=>by
   obtain⟨j,S,j2,rfl⟩:=Ex hy;rw[Ag.mp hx];exact hr j S
  simpa[M]using this
 have tA:∀out l nb,M out l nb->0 < l->l<=a.size->nb<=b.size->(∀j,j < nb->Rl lt (ix b j) (ix a (l - 1)))->M (out.push (ix a (l - 1))) (l - 1) nb:=λout l nb m h0 qi qG hr=>
  Λ out (l - 1) nb (by rw[show l - 1+1=l by lia];exact m) (by omega) qG hr
 have tB:∀out l nb,M out l nb->0 < nb->nb<=b.size->l<=a.size->(∀j,j < l->Rl lt (ix a j) (ix b (nb - 1)))->M (out.push (ix b (nb - 1))) l (nb - 1):=λout l nb m h0 qG qi hr=>
  Μ out l (nb - 1) (by rw[show nb - 1+1=nb by lia];exact m) (by omega) qi hr
 have sA:∀out l nb k,M out l nb->k<=l->l<=a.size->nb<=b.size->(∀i j,k<=i->i < l->j < nb->Rl lt (ix b j) (ix a i))->M (out++(a.extract k l).reverse) k nb:=λout l nb k m hk qi qG hr=>by
  have T:MI (λx y=>Rl lt y x) (a.toList++b.toList) out.toList ((a.extract k l).toList.reverse++(a.toList.take k).reverse) (b.toList.take nb).reverse:=by rw[<-TY hk qi];exact m
  have:=T.takeA λx hx y hy=>by
   obtain⟨j,S,j2,rfl⟩:=Ex hy;obtain⟨i,i1,i2,i3,rfl⟩:=T3 hx;exact hr i j i1 i2 S
  show MI _ _ (out++(a.extract k l).reverse).toList _ _;rw[Ak,EQ];exact this
 have sB:∀out l nb k,M out l nb->k<=nb->nb<=b.size->l<=a.size->(∀i j,k<=i->i < nb->j < l->Rl lt (ix a j) (ix b i))->M (out++(b.extract k nb).reverse) l k:=λout l nb k m hk qG qi hr=>by
  have T:MI (λx y=>Rl lt y x) (a.toList++b.toList) out.toList (a.toList.take l).reverse ((b.extract k nb).toList.reverse++(b.toList.take k).reverse):=by rw[<-TY hk qG];exact m
  have:=T.takeB λx hx y hy=>by
   obtain⟨j,S,j2,rfl⟩:=Ex hy;obtain⟨i,i1,i2,i3,rfl⟩:=T3 hx;exact hr i j i1 i2 S
  show MI _ _ (out++(b.extract k nb).reverse).toList _ _;rw[Ak,EQ];exact this
 have eA:∀out l nb,M out l nb->l=0->G4 (Rl lt) (a.toList++b.toList) (a.extract 0 l++b.extract 0 nb++out.reverse).toList:=λout l nb m e=>by
  subst e
  have T:MI (λx y=>Rl lt y x) (a.toList++b.toList) out.toList [] (b.toList.take nb).reverse:=by simpa[M]using m
  have:=T.endB.rev;rw[Ak,Ak,G5,G5,EQ];simpa using this
 have eB:∀out l nb,M out l nb->nb=0->G4 (Rl lt) (a.toList++b.toList) (a.extract 0 l++b.extract 0 nb++out.reverse).toList:=λout l nb m e=>by
  subst e
  have T:MI (λx y=>Rl lt y x) (a.toList++b.toList) out.toList (a.toList.take l).reverse []:=by simpa[M]using m
  have:=T.endA.rev;rw[Ak,Ak,G5,G5,EQ];simpa using this
 have eF:∀out l nb,M out l nb->nb=1->G4 (Rl lt) (a.toList++b.toList) (b.extract 0 nb++a.extract 0 l++out.reverse).toList:=λout l nb m e=>by
  have:=m.last2 λx hx y hy=>by
   obtain⟨j,S,j2,rfl⟩:=Ex hx;obtain⟨i,i1,i2,rfl⟩:=Ex hy
   have:i=0:=by lia
   subst this;exact h0 _ (BE.mpr (CQ (Ct j2)))
  have:=this.rev;rw[Ak,Ak,G5,G5,EQ];simpa using this
 have m0:M #[] a.size b.size:=by
  refine⟨?_,by simp,by simp,?_,?_⟩
  ·rw[Bx (by simp),Bx (by simp)]
   simpa using List.Perm.append a.toList.reverse_perm b.toList.reverse_perm
  ·rw[Bx (by simp)];exact Kt.mpr sa
  ·rw[Bx (by simp)];exact Kt.mpr sb
 have m1:M #[ix a (a.size - 1)] (a.size - 1) b.size:=by
  have:=tA #[] a.size b.size m0 pa (AN _) (AN _) λj hj=>h1 _ (BE.mpr (CQ (Ct hj)))
  simpa using this
 refine(AH (IW ?_):wpS _ _ _ _ (mHi a b) Q st);refine AH (BN (i:=a.size - 1) (by omega) ?_)
 by_cases c1:a.size - 1=0
 ·refine(show wpS (AR prog w) A E s (if (a.size - 1==0)=true then _ else _) Q st from ?_)
  rw[qX (by simpa using c1)];exact AK (h _ st ⟨g,rfl,rfl⟩ (eA _ _ _ m1 c1))
 refine(show wpS (AR prog w) A E s (if (a.size - 1==0)=true then _ else _) Q st from ?_);rw[qY (by simpa using c1)]
 by_cases c2:b.size=1
 ·rw[qX (by simpa using c2)]
  exact AK (h _ st ⟨g,rfl,rfl⟩ (eF _ _ _ m1 c2))
 rw[qY (by simpa using c2)];refine AH (GV ?_)
 refine AH (Cq (Bh (I:=λx c B=>J9 a₀ κ st B/\∃out l nb mg,c=(none,l,nb,out,mg)/\M out l nb/\0 < l/\1 < nb/\l<=a.size/\nb<=b.size/\l+nb+1+x<=a.size+b.size)
  (Q:=λc B=>J9 a₀ κ st B/\∃r z,c=(some r,z)/\G4 (Rl lt) (a.toList++b.toList) r.toList) ?step ?fin ?init) ?post)
 case init=>exact⟨⟨g,rfl,rfl⟩,_,a.size - 1,b.size,_,rfl,m1,by lia,by lia,by omega,by lia,by lia⟩
 case fin=>
  rintro c B ⟨_,out,l,nb,mg,_,_,k1,k2,L,k4,k5⟩
  lia
 case post=>
  rintro c B ⟨s1,r,z,rfl,f⟩;exact AK (h r B s1 f)
 case step=>
  rintro x c nD _ _ ⟨s1,out,l,nb,mg,rfl,m,k1,k2,L,k4,k5⟩
  refine AH (Cq (Bh (I:=λy c B=>B=nD/\∃nv G H X Y,c=(none,G,H,nv,X,Y)/\M nv G H/\0 < G/\1 < H/\G<=a.size/\H<=b.size/\G+H+y<=l+nb)
   (Q:=λc B=>B=nD/\((∃r z,c=(some r,z)/\G4 (Rl lt) (a.toList++b.toList) r.toList)∨∃nv G H X Y,c=(none,G,H,nv,X,Y)/\M nv G H/\0 < G/\1 < H/\G<=a.size/\H<=b.size/\G+H+1<=l+nb)) ?step1 ?fin1 ?init1) ?post1)
  case init1=>exact⟨rfl,out,l,nb,0,0,rfl,m,k1,k2,L,k4,by lia⟩
  case fin1=>
   rintro c B ⟨rfl,nv,G,H,X,Y,rfl,T,q1,q2,q3,q4,q5⟩;exact⟨rfl,.inr ⟨nv,G,H,X,Y,rfl,T,q1,q2,q3,q4,by lia⟩⟩
  case step1=>
   rintro y c B _ _ ⟨rfl,nv,G,H,X,Y,rfl,T,q1,q2,q3,q4,q5⟩;refine AH (BN (i:=H - 1) (by lia) ?_);refine AH (BN (i:=G - 1) (by lia) ?_);refine AH (O4 C s1.good (R _ (by lia)) (N _ (by lia)) ?_)
   cases e:lt (ix b (H - 1)) (ix a (G - 1))with
   | true=>
    refine AH (BN (i:=G - 1) (by lia) ?_);have r0:Rl lt (ix b (H - 1)) (ix a (G - 1)):=O.asym _ _ (R _ (by lia)) (N _ (by lia)) e
    have m2:=tA nv G H T q1 q3 q4 λj S=>tr _ _ _ (R _ (by lia)) (R _ (by lia)) (N _ (by lia)) (ub j (H - 1) (by lia) (by lia)) r0
    refine(show wpS (AR prog w) A E s (if (G - 1==0)=true then _ else _) _ B from ?_)
    by_cases d:G - 1=0
    ·rw[qX (by simpa using d)]
     exact AK ⟨rfl,.inl ⟨_,_,rfl,eA _ _ _ m2 d⟩⟩
    ·rw[qY (by simpa using d)]
     split
     ·exact AK ⟨rfl,.inr ⟨_,G - 1,H,_,_,rfl,m2,by lia,by omega,by lia,by omega,by lia⟩⟩
     ·exact AK ⟨rfl,_,G - 1,H,_,_,rfl,m2,by lia,by omega,by lia,by omega,by lia⟩
   | false=>
    refine AH (BN (i:=H - 1) (by lia) ?_)
    have m2:=tB nv G H T (by lia) q4 q3 λj S=>tr _ _ _ (N _ (by lia)) (N _ (by lia)) (R _ (by lia)) (ua j (G - 1) (by lia) (by lia)) e
    refine(show wpS (AR prog w) A E s (if (H - 1==1)=true then _ else _) _ B from ?_)
    by_cases d:H - 1=1
    ·rw[qX (by simpa using d)]
     exact AK ⟨rfl,.inl ⟨_,_,rfl,eF _ _ _ m2 d⟩⟩
    ·rw[qY (by simpa using d)]
     split
     ·exact AK ⟨rfl,.inr ⟨_,G,H - 1,_,_,rfl,m2,by omega,by lia,by omega,by lia,by lia⟩⟩
     ·exact AK ⟨rfl,_,G,H - 1,_,_,rfl,m2,by omega,by lia,by omega,by lia,by lia⟩
  case post1=>
   rintro c B ⟨rfl,⟨r,z,rfl,f⟩ | ⟨nv,G,H,X,Y,rfl,T,q1,q2,q3,q4,q5⟩⟩
   ·exact AK ⟨s1,_,_,rfl,f⟩
   refine AH (IW ?_)
   refine AH (Cq (Bh (I:=λy c n8=>J9 a₀ κ st n8/\∃U nJ o nW X Y,c=(none,nJ,o,U,nW,X,Y)/\M U nJ o/\0 < nJ/\1 < o/\nJ<=a.size/\o<=b.size/\nJ+o+1<=l+nb)
    (Q:=λc n8=>J9 a₀ κ st n8/\((∃r z,c=(some r,z)/\G4 (Rl lt) (a.toList++b.toList) r.toList)∨∃U nJ o nW X Y,c=(none,nJ,o,U,nW,X,Y)/\M U nJ o/\0 < nJ/\1 < o/\nJ<=a.size/\o<=b.size/\nJ+o+1<=l+nb)) ?step2 ?fin2 ?init2) ?post2)
   case init2=>exact⟨s1,nv,G,H,mg+1,X,Y,rfl,T,q1,q2,q3,q4,q5⟩
   case fin2=>
    rintro c n8 ⟨J,U,nJ,o,nW,ac2,bc2,rfl,m2,p1⟩;exact⟨J,.inr ⟨U,nJ,o,nW,ac2,bc2,rfl,m2,p1⟩⟩
   case post2=>
    rintro c n8 ⟨J,⟨r,z,rfl,f⟩ | ⟨U,nJ,o,nW,ac2,bc2,rfl,m2,p1,p2,p3,p4,p5⟩⟩
    ·exact AK ⟨J,_,_,rfl,f⟩
    ·exact AH (OW (AK ⟨J.gal _,U,nJ,o,nW+1,rfl,m2,p1,p2,p3,p4,by lia⟩))
   case step2=>
    rintro y c n8 _ _ ⟨J,U,nJ,o,nW,ac2,bc2,rfl,m2,p1,p2,p3,p4,p5⟩
    let P:ForInStep (Option (Array A0)×Nat×Nat×Array A0×Nat×Nat×Nat)->A9->Prop:=λr B=>match r with
     | .done c'=>J9 a₀ κ st B/\((∃r z,c'=(some r,z)/\G4 (Rl lt) (a.toList++b.toList) r.toList)∨∃U nJ o nW X Y,c'=(none,nJ,o,U,nW,X,Y)/\M U nJ o/\0 < nJ/\1 < o/\nJ<=a.size/\o<=b.size/\nJ+o+1<=l+nb)
     | .yield c'=>J9 a₀ κ st B/\∃U nJ o nW X Y,c'=(none,nJ,o,U,nW,X,Y)/\M U nJ o/\0 < nJ/\1 < o/\nJ<=a.size/\o<=b.size/\nJ+o+1<=l+nb
    refine Cq (Q:=P) ?_ λr B h=>by cases r <;> exact h
    refine(show wpS (AR prog w) A E s (if nW > 1 then _ else _) P n8 from ?_);split
    all_goals
     refine AH (OW ?_);refine AH (BN (i:=o - 1) (by lia) ?_);refine AH (EG (base:=0) (n:=nJ) (hint:=nJ - 1) (arr:=a) (key:=ix b (o - 1)) (left:=false) C (J.gal _).good (λi=>!lt (ix b (o - 1)) (ix a (0+i))) (R _ (by lia)) (λi hi=>⟨by lia,N _ (by lia)⟩) (λi hi=>rfl) (λi j sf hj e=>?_) (by lia) λk hk k1 k2=>?_)
     ·have e':lt (ix b (o - 1)) (ix a (0+j))=false:=by simpa using e
      have:=tr _ _ _ (N _ (by lia)) (N _ (by lia)) (R _ (by lia)) (ua (0+i) (0+j) (by lia) (by lia)) e';simpa using this
     ·have near:∀j,j < k->Rl lt (ix a j) (ix b (o - 1)):=λj S=>by
       have:=k1 j S;rw[En]at this;simpa using this
      have m5:=sA U nJ o k m2 hk p3 p4 λi j i1 i2 S=>by
       have:=k2 i i1 i2;rw[En]at this;exact tr _ _ _ (R _ (by lia)) (R _ (by lia)) (N _ (by lia)) (ub j (o - 1) (by lia) (by lia)) (O.asym _ _ (R _ (by lia)) (N _ (by lia)) (by simpa using this))
      refine(show wpS (AR prog w) A E s (if nJ - k > 0 then _ else _) P _ from ?_)
      by_cases hk0:nJ - k > 0
      ·rw[qX hk0]
       refine(show wpS (AR prog w) A E s (if (k==0)=true then _ else _) P _ from ?_)
       by_cases d1:k=0
       ·rw[qX (by simpa using d1)]
        exact AK ⟨J.gal _,.inl ⟨_,_,rfl,eA _ _ _ m5 d1⟩⟩
       rw[qY (by simpa using d1)];have m4:=tB _ _ _ m5 (by lia) p4 (by lia) near;refine AH (BN (i:=o - 1) (by lia) ?_);refine(show wpS (AR prog w) A E s (if (o - 1==1)=true then _ else _) P _ from ?_)
       by_cases d:o - 1=1
       ·rw[qX (by simpa using d)]
        exact AK ⟨J.gal _,.inl ⟨_,_,rfl,eF _ _ _ m4 d⟩⟩
       rw[qY (by simpa using d)];refine AH (BN (i:=k - 1) (by omega) ?_);refine AH (EG (base:=0) (n:=o - 1) (hint:=o - 1 - 1) (arr:=b) (key:=ix a (k - 1)) (left:=true) C (J.gal _).good (λi=>lt (ix b (0+i)) (ix a (k - 1))) (N _ (by omega)) (λi hi=>⟨by lia,R _ (by lia)⟩) (λi hi=>rfl) (λi j sf hj e=>?_) (by lia) λL pY k4 k5=>?_)
       ·cases e2:lt (ix b (0+i)) (ix a (k - 1))with
        | true=>rfl
        | false=>
         have:=tr _ _ _ (N _ (by lia)) (R _ (by lia)) (R _ (by lia)) e2 (ub (0+i) (0+j) (by lia) (by lia));exact nomatch (show true=false from(show lt (ix b (0+j)) (ix a (k - 1))=true from e).symm.trans this)
       ·have pd:∀j,j < L->Rl lt (ix b j) (ix a (k - 1)):=λj S=>by
         have:=k4 j S;rw[En]at this;exact O.asym _ _ (R _ (by lia)) (N _ (by omega)) this
        have m6:=sB _ k (o - 1) L m4 pY (by lia) (by lia) λi j i1 i2 S=>by
         have:=k5 i i1 i2;rw[En]at this;exact tr _ _ _ (N _ (by lia)) (N _ (by lia)) (R _ (by lia)) (ua j (k - 1) (by lia) (by lia)) this
        refine(show wpS (AR prog w) A E s (if o - 1 - L > 0 then _ else _) P _ from ?_)
        by_cases hk4:o - 1 - L > 0
        ·rw[qX hk4]
         refine(show wpS (AR prog w) A E s (if (L==1)=true then _ else _) P _ from ?_)
         by_cases d2:L=1
         ·rw[qX (by simpa using d2)]
          exact AK ⟨J.gal _,.inl ⟨_,_,rfl,eF _ _ _ m6 d2⟩⟩
         rw[qY (by simpa using d2)]
         by_cases d4:L=0
         ·rw[qX (by simpa using d4)]
          exact AK ⟨J.gal _,.inl ⟨_,_,rfl,eB _ _ _ m6 d4⟩⟩
         rw[qY (by simpa using d4)];have Z:=tA _ _ _ m6 (by lia) (by lia) (by lia) pd;refine AH (BN (i:=k - 1) (by lia) ?_);refine(show wpS (AR prog w) A E s (if (k - 1==0)=true then _ else _) P _ from ?_)
         by_cases d3:k - 1=0
         ·rw[qX (by simpa using d3)]
          exact AK ⟨J.gal _,.inl ⟨_,_,rfl,eA _ _ _ Z d3⟩⟩
         rw[qY (by simpa using d3)];split
         ·exact AK ⟨J.gal _,.inr ⟨_,k - 1,L,_,_,_,rfl,Z,by lia,by lia,by lia,by lia,by lia⟩⟩
         ·exact AK ⟨J.gal _,_,k - 1,L,_,_,_,rfl,Z,by lia,by lia,by lia,by lia,by lia⟩
        ·rw[qY hk4]
         have:L=o - 1:=by lia
         subst this;have Z:=tA _ _ _ m4 (by lia) (by lia) (by lia) pd;refine AH (BN (i:=k - 1) (by lia) ?_);refine(show wpS (AR prog w) A E s (if (k - 1==0)=true then _ else _) P _ from ?_)
         by_cases d3:k - 1=0
         ·rw[qX (by simpa using d3)]
          exact AK ⟨J.gal _,.inl ⟨_,_,rfl,eA _ _ _ Z d3⟩⟩
         rw[qY (by simpa using d3)];split
         ·exact AK ⟨J.gal _,.inr ⟨_,k - 1,o - 1,_,_,_,rfl,Z,by lia,by lia,by lia,by lia,by lia⟩⟩
         ·exact AK ⟨J.gal _,_,k - 1,o - 1,_,_,_,rfl,Z,by lia,by lia,by lia,by lia,by lia⟩
      ·rw[qY hk0]
       have:k=nJ:=by lia
       subst this;have m4:=tB _ _ _ m2 (by lia) p4 (by omega) near;refine AH (BN (i:=o - 1) (by lia) ?_);refine(show wpS (AR prog w) A E s (if (o - 1==1)=true then _ else _) P _ from ?_)
       by_cases d:o - 1=1
       ·rw[qX (by simpa using d)]
        exact AK ⟨J.gal _,.inl ⟨_,_,rfl,eF _ _ _ m4 d⟩⟩
       rw[qY (by simpa using d)];refine AH (BN (i:=k - 1) (by lia) ?_);refine AH (EG (base:=0) (n:=o - 1) (hint:=o - 1 - 1) (arr:=b) (key:=ix a (k - 1)) (left:=true) C (J.gal _).good (λi=>lt (ix b (0+i)) (ix a (k - 1))) (N _ (by lia)) (λi hi=>⟨by lia,R _ (by lia)⟩) (λi hi=>rfl) (λi j sf hj e=>?_) (by lia) λL pY k4 k5=>?_)
       ·cases e2:lt (ix b (0+i)) (ix a (k - 1))with
        | true=>rfl
        | false=>
         have:=tr _ _ _ (N _ (by lia)) (R _ (by lia)) (R _ (by lia)) e2 (ub (0+i) (0+j) (by lia) (by lia));exact nomatch (show true=false from(show lt (ix b (0+j)) (ix a (k - 1))=true from e).symm.trans this)
       ·have pd:∀j,j < L->Rl lt (ix b j) (ix a (k - 1)):=λj S=>by
         have:=k4 j S;rw[En]at this;exact O.asym _ _ (R _ (by lia)) (N _ (by lia)) this
        have m6:=sB _ k (o - 1) L m4 pY (by lia) (by omega) λi j i1 i2 S=>by
         have:=k5 i i1 i2;rw[En]at this;exact tr _ _ _ (N _ (by lia)) (N _ (by lia)) (R _ (by lia)) (ua j (k - 1) (by lia) (by lia)) this
        refine(show wpS (AR prog w) A E s (if o - 1 - L > 0 then _ else _) P _ from ?_)
        by_cases hk4:o - 1 - L > 0
        ·rw[qX hk4]
         refine(show wpS (AR prog w) A E s (if (L==1)=true then _ else _) P _ from ?_)
         by_cases d2:L=1
         ·rw[qX (by simpa using d2)]
          exact AK ⟨J.gal _,.inl ⟨_,_,rfl,eF _ _ _ m6 d2⟩⟩
         rw[qY (by simpa using d2)]
         by_cases d4:L=0
         ·rw[qX (by simpa using d4)]
          exact AK ⟨J.gal _,.inl ⟨_,_,rfl,eB _ _ _ m6 d4⟩⟩
         rw[qY (by simpa using d4)];have Z:=tA _ _ _ m6 (by omega) (by omega) (by lia) pd;refine AH (BN (i:=k - 1) (by lia) ?_);refine(show wpS (AR prog w) A E s (if (k - 1==0)=true then _ else _) P _ from ?_)
         by_cases d3:k - 1=0
         ·rw[qX (by simpa using d3)]
          exact AK ⟨J.gal _,.inl ⟨_,_,rfl,eA _ _ _ Z d3⟩⟩
         rw[qY (by simpa using d3)];split
         ·exact AK ⟨J.gal _,.inr ⟨_,k - 1,L,_,_,_,rfl,Z,by lia,by lia,by lia,by lia,by lia⟩⟩
         ·exact AK ⟨J.gal _,_,k - 1,L,_,_,_,rfl,Z,by lia,by lia,by lia,by lia,by lia⟩
        ·rw[qY hk4]
         have:L=o - 1:=by lia
         subst this;have Z:=tA _ _ _ m4 (by omega) (by omega) (by lia) pd;refine AH (BN (i:=k - 1) (by lia) ?_);refine(show wpS (AR prog w) A E s (if (k - 1==0)=true then _ else _) P _ from ?_)
         by_cases d3:k - 1=0
         ·rw[qX (by simpa using d3)]
          exact AK ⟨J.gal _,.inl ⟨_,_,rfl,eA _ _ _ Z d3⟩⟩
         rw[qY (by simpa using d3)];split
         ·exact AK ⟨J.gal _,.inr ⟨_,k - 1,o - 1,_,_,_,rfl,Z,by lia,by lia,by lia,by lia,by lia⟩⟩
         ·exact AK ⟨J.gal _,_,k - 1,o - 1,_,_,_,rfl,Z,by lia,by lia,by lia,by lia,by lia⟩
end
noncomputable def wr(arr:Array A0)(g:Nat)(l:List (A0×Nat)):Array A0:=l.foldl (λa (x:A0×Nat)=>match x with | (p,j)=>a.setIfInBounds (g+j) p) arr
theorem Ru(g:Nat):∀(l:List A0) (k:Nat) (arr:Array A0),g+k+l.length<=arr.size->(wr arr g (l.zipIdx k)).toList=arr.toList.take (g+k)++l++arr.toList.drop (g+k+l.length)
 | [],k,arr,h=>by simp[wr]
 | x :: l,k,arr,h=>by
  rw[AU]at h;have e:wr arr g ((x :: l).zipIdx k)=wr (arr.setIfInBounds (g+k) x) g (l.zipIdx (k+1)):=rfl;rw[e,Ru g l (k+1) _ (by simp;lia)]
  have i:g+k < arr.toList.length:=by simp;lia
  rw[QU,AU,show g+(k+1)=g+k+1 by lia];rw[CL,List.take_set_of_le (AN _),A4 i,List.drop_set_of_lt (by lia)];simp[show g+k+1+l.length=g+k+(l.length+1) by lia]
theorem ix_list(a:Array A0)(i:Nat):ix a i=(a.toList[i]?).getD (.none,.none):=by
 unfold ix;rw[D8];simp
theorem aq(h:sa+m.size<=arr.size)(i:Nat):ix (wr arr sa m.toList.zipIdx) i=if i < sa then ix arr i else if i < sa+m.size then ix m (i - sa)else ix arr i:=by
 have e:=Ru sa m.toList 0 arr (by simpa using h);rw[ix_list,show m.toList.zipIdx=m.toList.zipIdx 0 from rfl,e,kU]
 have j:(arr.toList.take sa).length=sa:=by simp;lia
 split
 ·rename_i g
  rw[BW,Af (by lia),S6 g,ix_list]
 ·rename_i g
  split
  ·rename_i l
   rw[BW,Au (by lia),j,Af (by simp;lia),ix_list]
  ·rename_i l
   rw[Au (by simp;lia),E4,ix_list]
   congr 2
   simp
   lia
theorem de{arr m:Array A0}{g:Nat}(h:g+m.size<=arr.size)(i:m.toList.Perm (arr.extract g (g+m.size)).toList):(wr arr g m.toList.zipIdx).Perm arr:=by
 rw[ER];have e:=Ru g m.toList 0 arr (by simpa using h);rw[show m.toList.zipIdx=m.toList.zipIdx 0 from rfl,e,kU]
 have j:arr.toList=arr.toList.take g++(arr.extract g (g+m.size)).toList++arr.toList.drop (g+m.toList.length):=by
  rw[BW,BK,<-HQ h,CU]
 conv=>rhs;rw[j]
 exact QQ _ (Ix _ i)
theorem Vl{a:Array A0}{lo hi i:Nat}(h:hi<=a.size)(g:i < hi - lo):ix (a.extract lo hi) i=ix a (lo+i):=by
 apply Ih
 rw[Array.getElem?_extract];simp
 lia
section
variable{prog:A3}{w:BR}{A:BO}{E:AD->AG->Prop}{s:AG}{a₀:Array A0}{κ:NA}{lt:A0->A0->Bool}
theorem ZQ{a:Array A0}{lo hi:Nat}(h:hi<=a.size)(u:Up lt a lo hi):(a.extract lo hi).toList.Pairwise (Rl lt):=by
 rw[List.pairwise_iff_getElem];intro i j m o B;simp at m o
 have e:∀k (g:k < (a.extract lo hi).toList.length),(a.extract lo hi).toList[k]=ix a (lo+k):=λk g=>by
  have l:k < (a.extract lo hi).size:=by rw[BK]at g;exact g
  have:=Ct l;rw[getElem?_pos (a.extract lo hi) k l]at this
  have C:(a.extract lo hi).size=hi - lo:=by simp;lia
  rw[<-Vl h (by lia)];simpa using this
 rw[e,e];exact u _ _ (by lia) (by lia) (by omega)
theorem cU{st g:A9}{Q:PUnit->A9->Prop}(h:Q ⟨⟩ g):wpS (AR prog w) A E s (set g:StateT A9 Sem PUnit) Q st:=AK h
theorem TK{st}{i l m pw sb H pw2}{Q}(C:Jv prog w A s a₀ κ lt)(O:Ord (·∈a₀) lt)(g:Good a₀ κ st)
  (e1:(AT st)[i]?=some (l,m,pw)) (e2:(AT st)[i+1]?=some (sb,H,pw2)) (se:sb=l+m) (qi:1<=m) (qG:1<=H) (hs:sb+H<=a₀.size)
  (Y:Up lt (AS st) l (l+m)) (Z:Up lt (AS st) sb (sb+H))
  (h:∀o,Good a₀ κ o->AT o=((AT st).setIfInBounds i (l,m+H,pw)).eraseIdxIfInBounds (i+1)->Up lt (AS o) l (l+(m+H))->Out (AS st) (AS o) l (l+(m+H))->Q true o) :
  wpS (AR prog w) A E s (mergeAt' i) Q st:=by
 subst se;have hsz:=g.size
 have mem:∀j,j < a₀.size->ix (AS st) j∈a₀:=λj hj=>g.mem hj
 have tr:∀x y z:A0,x∈a₀->y∈a₀->z∈a₀->Rl lt x y->Rl lt y z->Rl lt x z:=λx y z hx hy B J I=>O.ntr x y z hx hy B J I
 refine(AH (GV ?_):wpS _ _ _ _ (mergeAt' i) Q st);rw[show(sortPriv% PySem.Builtin.SortState.pending) st=AT st from rfl,e1,e2];refine AH (cU ?_);generalize L:((sortPriv% PySem.Builtin.SortState.mk) (kindOf st) (AS st) (((AT st).setIfInBounds i (l,m+H,pw)).eraseIdxIfInBounds (i+1)) (gallopOf st) (HX st))=nD
 have g1:Good a₀ κ nD:=by subst L;exact⟨g.perm,g.kind,g.failed⟩
 have a1:AS nD=AS st:=by subst L;rfl
 have p1:AT nD=((AT st).setIfInBounds i (l,m+H,pw)).eraseIdxIfInBounds (i+1):=by subst L;rfl
 refine AH (BN (a:=AS st) (i:=l+m) (by lia) ?_);refine AH (EG (base:=l) (n:=m) (hint:=0) (arr:=AS st) (key:=ix (AS st) (l+m)) (left:=false) C g1 (λj=>!lt (ix (AS st) (l+m)) (ix (AS st) (l+j))) (mem _ (by lia)) (λj hj=>⟨by lia,mem _ (by lia)⟩) (λj hj=>rfl) (λx y ud hy e=>?_) (by lia) λk hk k1 k2=>?_)
 ·have e':lt (ix (AS st) (l+m)) (ix (AS st) (l+y))=false:=by simpa using e
  have:=tr _ _ _ (mem _ (by lia)) (mem _ (by lia)) (mem _ (by lia)) (Y (l+x) (l+y) (by lia) (by lia) (by lia)) e';simpa using this
 have low:∀j,l<=j->j < l+k->Rl lt (ix (AS st) j) (ix (AS st) (l+m)):=λj G R=>by
  have:=k1 (j - l) (by lia);rw[show l+(j - l)=j by lia]at this;simpa using this
 have ue:∀i j,l<=i->i < l+k->l+m<=j->j < l+m+H->Rl lt (ix (AS st) i) (ix (AS st) j):=λi j T i2 G R=>tr _ _ _ (mem _ (by lia)) (mem _ (by lia)) (mem _ (by lia)) (low i T i2) (Z _ _ (by lia) (by omega) (by omega))
 have N:(∀j,l<=j->j < l+m->Rl lt (ix (AS st) j) (ix (AS st) (l+m)))->Up lt (AS st) l (l+(m+H)):=λhh x y J I h3=>by
  by_cases c1:y < l+m
  ·exact Y x y J I c1
  by_cases c2:x < l+m
  ·exact tr _ _ _ (mem _ (by lia)) (mem _ (by lia)) (mem _ (by lia)) (hh x J c2) (Z _ _ (by lia) (by lia) (by lia))
  ·exact Z x y (by lia) I (by lia)
 refine(show wpS (AR prog w) A E s (if (m - k==0)=true then _ else _) Q nD from ?_)
 by_cases c1:m - k=0
 ·rw[qX (by simpa using c1)]
  refine AK (h nD g1 p1 ?_ (by rw[a1];exact .refl));rw[a1]
  exact N λj G R=>low j G (by lia)
 rw[qY (by simpa using c1)];refine AH (BN (a:=AS st) (i:=l+k+(m - k) - 1) (by omega) ?_);rw[show l+k+(m - k) - 1=l+m - 1 by lia];refine AH (EG (base:=l+m) (n:=H) (hint:=H - 1) (arr:=AS st) (key:=ix (AS st) (l+m - 1)) (left:=true) C g1 (λj=>lt (ix (AS st) (l+m+j)) (ix (AS st) (l+m - 1))) (mem _ (by lia)) (λj hj=>⟨by lia,mem _ (by lia)⟩) (λj hj=>rfl) (λx y ud hy e=>?_) (by omega) λk3 pY k4 k5=>?_)
 ·cases e2:lt (ix (AS st) (l+m+x)) (ix (AS st) (l+m - 1))with
  | true=>rfl
  | false=>
   have:=tr _ _ _ (mem _ (by lia)) (mem _ (by lia)) (mem _ (by lia)) e2 (Z (l+m+x) (l+m+y) (by lia) (by lia) (by lia));exact nomatch (show true=false from(show lt (ix (AS st) (l+m+y)) (ix (AS st) (l+m - 1))=true from e).symm.trans this)
 have U:∀j,l+m+k3<=j->j < l+m+H->Rl lt (ix (AS st) (l+m - 1)) (ix (AS st) j):=λj G R=>by
  have:=k5 (j - (l+m)) (by lia) (by lia);rwa [show l+m+(j - (l+m))=j by lia]at this
 refine(show wpS (AR prog w) A E s (if (k3==0)=true then _ else _) Q nD from ?_)
 by_cases c2:k3=0
 ·rw[qX (by simpa using c2)]
  refine AK (h nD g1 p1 ?_ (by rw[a1];exact .refl));rw[a1]
  exact N λj G R=>tr _ _ _ (mem _ (by lia)) (mem _ (by lia)) (mem _ (by lia)) (Y j (l+m - 1) (by omega) (by lia) (by lia)) (U _ (by lia) (by lia))
 rw[qY (by simpa using c2)]
 let x:=(AS st).extract (l+k) (l+m)
 let y:=(AS st).extract (l+m) (l+m+k3)
 have xs:x.size=m - k:=by simp[x];lia
 have ys:y.size=k3:=by simp[y];lia
 have Ν:∀j,j < m - k->ix x j=ix (AS st) (l+k+j):=λj hj=>Vl (by lia) (by lia)
 have Ξ:∀j,j < k3->ix y j=ix (AS st) (l+m+j):=λj hj=>Vl (by lia) (by lia)
 have sg:∀z∈x.toList,∃j,j < m - k/\z=ix (AS st) (l+k+j):=λz B=>by
  have B:z∈((AS st).extract (l+k) (l+k+(m - k))).toList:=by rw[show l+k+(m - k)=l+m by lia];exact B
  exact Oe (by lia) B
 have sh:∀z∈y.toList,∃j,j < k3/\z=ix (AS st) (l+m+j):=λz B=>Oe (by lia) B
 have fin:∀(r:Array A0) (o:A9),J9 a₀ κ nD o->G4 (Rl lt) (x.toList++y.toList) r.toList->∀n8:A9,AS n8=wr (AS o) (l+k) r.toList.zipIdx->kindOf n8=kindOf o->HX n8=HX o->AT n8=AT o->Q true n8:=by
  intro r o S f n8 q1 q2 q3 q4
  have hr:r.size=m - k+k3:=by
   have:=f.perm.length_eq;simp only[AW,BK]at this
   lia
  have ha:AS o=AS st:=S.arr.trans a1;rw[ha]at q1
  have hb:l+k+r.size<=(AS st).size:=by lia
  have mm:∀t,t < r.size->∃t',ix r t=ix (AS st) t'/\l+k<=t'/\t' < l+m+k3:=λt ht=>by
   have:ix r t∈r.toList:=BE.mpr (CQ (Ct ht))
   rcases Ax.mp (f.perm.mem_iff.mp this)with h | h
   ·obtain⟨j,G,e⟩:=sg _ h
    exact⟨_,e,by lia,by lia⟩
   ·obtain⟨j,G,e⟩:=sh _ h
    exact⟨_,e,by lia,by lia⟩
  have rs:=TU O (a:=r) (λt ht=>by
   obtain⟨t',e,_,_⟩:=mm t ht;rw[e]
   exact mem _ (by lia)) f.srt
  refine h n8 ⟨?_,?_,?_⟩ (q4.trans (S.pend.trans p1)) ?_ ?_
  ·rw[q1]
   refine(de hb (f.perm.trans ?_)).trans g.perm
   have:(AS st).toList.drop (l+k)=x.toList++(AS st).toList.drop (l+m):=by
    have:=HQ (a:=AS st) (i:=l+k) (k:=m - k) (by lia);rw[show l+k+(m - k)=l+m by lia]at this;exact this
   have I:(AS st).toList.drop (l+m)=y.toList++(AS st).toList.drop (l+m+k3):=HQ (by lia);have h3:(AS st).toList.drop (l+k)=((AS st).extract (l+k) (l+k+r.size)).toList++(AS st).toList.drop (l+k+r.size):=HQ hb;rw[this,I,<-BW,show l+k+r.size=l+m+k3 by lia]at h3;rw[show l+k+r.size=l+m+k3 by lia];exact WI (List.append_cancel_right h3)
  ·rw[q2];exact S.good.kind
  ·rw[q3];exact S.good.failed
  ·rw[q1]
   intro i j J I h3;show Rl lt _ _;rw[aq hb,aq hb]
   by_cases T:i < l+k
   ·rw[qX T]
    by_cases G:j < l+k
    ·rw[qX G];exact Y i j J I (by lia)
    rw[qY G]
    by_cases R:j < l+k+r.size
    ·rw[qX R]
     obtain⟨t,e,t1,t2⟩:=mm (j - (l+k)) (by omega);rw[e]
     by_cases t3:t < l+m
     ·exact Y i t J (by lia) t3
     ·exact ue i t J T (by lia) (by lia)
    ·rw[qY R];exact ue i j J T (by lia) (by lia)
   rw[qY T,qY (show ¬j < l+k by lia)]
   by_cases i2:i < l+k+r.size
   ·rw[qX i2]
    by_cases R:j < l+k+r.size
    ·rw[qX R];exact rs _ _ (by lia) (by omega)
    ·rw[qY R]
     obtain⟨t,e,t1,t2⟩:=mm (i - (l+k)) (by omega);rw[e]
     by_cases t3:t < l+m
     ·exact tr _ _ _ (mem _ (by lia)) (mem _ (by lia)) (mem _ (by lia)) (Y t (l+m - 1) (by lia) (by lia) (by lia)) (U j (by lia) (by lia))
     ·exact Z t j (by lia) (by lia) (by lia)
   ·rw[qY i2,qY (show ¬j < l+k+r.size by lia)]
    exact Z i j (by lia) I (by lia)
  ·rw[q1]
   intro i hi;rw[aq hb]
   by_cases T:i < l+k
   ·rw[qX T]
   ·rw[qY T,qY (by lia)]
 have X:∀{P:Prop},((∀z∈x.toList,z∈a₀)->(∀z∈y.toList,z∈a₀)->x.toList.Pairwise (Rl lt)->y.toList.Pairwise (Rl lt)->0 < x.size->0 < y.size->(∀z∈x.toList,Rl lt (ix y 0) z)->(∀z∈y.toList,Rl lt z (ix x (x.size - 1)))->P)->P:=by
  intro P hP
  refine hP (λz B=>?_) (λz B=>?_) (ZQ (by lia) λi j J I h3=>Y i j (by lia) I h3) (ZQ (by lia) λi j J I h3=>Z i j J I (by lia)) (by lia) (by lia) (λz B=>?_) λz B=>?_
  ·obtain⟨j,G,rfl⟩:=sg z B
   exact mem _ (by lia)
  ·obtain⟨j,G,rfl⟩:=sh z B
   exact mem _ (by lia)
  ·obtain⟨j,G,rfl⟩:=sg z B
   rw[Ξ 0 (by lia)];have:=k2 (k+j) (by lia) (by lia);rw[show l+(k+j)=l+k+j by lia]at this;exact O.asym _ _ (mem _ (by lia)) (mem _ (by lia)) (by simpa using this)
  ·obtain⟨j,G,rfl⟩:=sh z B
   rw[xs,Ν _ (by lia),show l+k+(m - k - 1)=l+m - 1 by lia];exact O.asym _ _ (mem _ (by lia)) (mem _ (by lia)) (k4 j G)
 refine(show wpS (AR prog w) A E s (if m - k<=k3 then mLo x y >>= _ else mHi x y >>= _) Q nD from ?_);split
 ·refine AH (X λb1 b2 b3 b4 b5 b6 b7 b8=>cV C O g1 b1 b2 b3 b4 b5 b6 b7 b8 λr o S f=>?_)
  refine AH (Cz (AH (GV (AK ?_))));have q:=fin r o S f (setArr o (wr (AS o) (l+k) r.toList.zipIdx)) rfl rfl rfl rfl;rw[<-show(HX o).isNone=true by rw[S.good.failed];rfl]at q;exact q
 ·refine AH (X λb1 b2 b3 b4 b5 b6 b7 b8=>cW C O g1 b1 b2 b3 b4 b5 b6 b7 b8 λr o S f=>?_)
  refine AH (Cz (AH (GV (AK ?_))));have q:=fin r o S f (setArr o (wr (AS o) (l+k) r.toList.zipIdx)) rfl rfl rfl rfl;rw[<-show(HX o).isNone=true by rw[S.good.failed];rfl]at q;exact q
end
theorem eQ[Decidable c](h:1 < z):(if c then z - 2 - 1 else z - 2)+1 < z:=by split <;> omega
noncomputable def Stk(lt:A0->A0->Bool)(arr:Array A0):List (Nat×Nat×Nat)->Nat->Nat->Prop
 | [],lo,g=>lo=g
 | (s,n,_) :: r,lo,g=>s=lo/\1<=n/\Up lt arr s (s+n)/\Stk lt arr r (s+n) g
section
theorem Stk.le:∀{l:List (Nat×Nat×Nat)} {lo hi:Nat},Stk lt arr l lo hi->lo+l.length<=hi
 | [],lo,hi,h=>by cases h;simp
 | (s,n,_) :: r,lo,hi,⟨i,j,_,g⟩=>by
  have:=Stk.le g;rw[AU]
  lia
theorem Stk.app:∀{l r:List (Nat×Nat×Nat)} {lo hi:Nat},Stk lt arr (l++r) lo hi↔∃g,Stk lt arr l lo g/\Stk lt arr r g hi
 | [],r,lo,hi=>⟨λh=>⟨lo,rfl,h⟩,λ⟨_,e,h⟩=>by cases e;exact h⟩
 | (s,n,_) :: l,r,lo,hi=>by
  constructor
  ·rintro⟨i,j,m,o⟩
   obtain⟨g,a,b⟩:=Stk.app.mp o;exact⟨g,⟨i,j,m,a⟩,b⟩
  ·rintro⟨g,⟨i,j,m,o⟩,b⟩
   exact⟨i,j,m,Stk.app.mpr ⟨g,o,b⟩⟩
theorem Stk.pw(m:∀x,(f x).1=x.1/\(f x).2.1=x.2.1):∀{l:List (Nat×Nat×Nat)} {lo hi:Nat} (i:Nat),Stk lt arr l lo hi->Stk lt arr (l.modify i f) lo hi
 | [],lo,hi,i,h=>by cases i <;> exact h
 | (s,n,p) :: r,lo,hi,0,h=>by
  obtain⟨g,j⟩:=m (s,n,p);show Stk lt arr (f (s,n,p) :: r) lo hi;generalize f (s,n,p)=q at g j;obtain⟨E,G,H⟩:=q;dsimp only at g j;subst g j;exact h
 | (s,n,p) :: r,lo,hi,i+1,⟨o,A,B,C⟩=>⟨o,A,B,Stk.pw m i C⟩
theorem Stk.out:∀{l:List (Nat×Nat×Nat)} {lo hi x y:Nat},Stk lt arr l lo hi->Out arr arr' x y->(hi<=x∨y<=lo)->Stk lt arr' l lo hi
 | [],lo,hi,x,y,h,o,d=>h
 | (s,n,_) :: r,lo,hi,x,y,⟨i,j,m,g⟩,o,d=>by
  have:=g.le;exact⟨i,j,m.out o (by lia),Stk.out g o (by lia)⟩
end
section
theorem Out.wide(o:Out xs ys l h)(j:g<=l)(m:h<=h'):Out xs ys g h':=λi s=>o i (by lia)
theorem Iz{st:A9}{i hi:Nat}{Q:Bool->A9->Prop}(C:Jv prog w A s a₀ P lt)(O:Ord (·∈a₀) lt)(g:Good a₀ P st)(k:Stk lt (AS st) (AT st).toList 0 hi)(hs:hi<=a₀.size)(X:i+1 < (AT st).size)
  (h:∀j,Good a₀ P j->Stk lt (AS j) (AT j).toList 0 hi->(AT j).size+1=(AT st).size->Out (AS st) (AS j) 0 hi->Q true j):wpS (AR prog w) A E s (mergeAt' i) Q st:=by
 obtain⟨m,o,pw,R⟩:∃m o pw,(AT st)[i]?=some (m,o,pw):=⟨_,_,_,getElem?_pos (AT st) i (by lia)⟩
 obtain⟨H,B,G,S⟩:∃m o pw,(AT st)[i+1]?=some (m,o,pw):=⟨_,_,_,getElem?_pos (AT st) (i+1) X⟩
 obtain⟨l,r,I,Y⟩:∃l r,(AT st).toList=l++(m,o,pw) :: (H,B,G) :: r/\l.length=i:=by
  have Z:(AT st).toList[i]?=some (m,o,pw):=by simpa using R
  have a2:(AT st).toList[i+1]?=some (H,B,G):=by simpa using S
  obtain⟨b1,c1⟩:=AI.mp Z;obtain⟨b2,c2⟩:=AI.mp a2;refine⟨(AT st).toList.take i,(AT st).toList.drop (i+2),?_,by rw[Ba];lia⟩
  conv=>lhs;rw[<-CU i (AT st).toList,IP b1,IP b2,c1,c2]
 rw[I]at k;obtain⟨J,T,⟨q1,q2,q3,⟨q4,q5,q6,L⟩⟩⟩:=Stk.app.mp k;have hle:=L.le;have Ο:=T.le
 refine TK C O g R S q4 q2 q5 (by lia) q3 q6 λj g' p' u' N=>?_
 have U:(AT j).toList=l++(m,o+B,pw) :: r:=by
  rw[p',Array.toList_eraseIdxIfInBounds,QU,I];rw[List.set_append_right _ _ (by lia),Y,kS,List.set_cons_zero,List.eraseIdx_append_of_length_le (by lia),show i+1 - l.length=1 by lia];rfl
 refine h j g' ?_ ?_ (N.wide (by lia) (by lia))
 ·rw[U]
  refine Stk.app.mpr ⟨J,T.out N (.inl (by lia)),q1,by lia,u',?_⟩
  have e:H+B=m+(o+B):=by lia
  rw[e]at L;exact L.out N (.inr (by lia))
 ·have z1:=congrArg Ec U
  have z2:=congrArg Ec I;simp at z1 z2
  lia
theorem wpS_sortRuns{st:A9}{Q:Unit->A9->Prop}(C:Jv prog w A s a₀ J lt)(O:Ord (·∈a₀) lt)(g:Good a₀ J st)(hp:AT st = #[])
  (h:∀o,Good a₀ J o->Up lt (AS o) 0 a₀.size->Q () o):wpS (AR prog w) A E s sortRuns' Q st:=by
 rw[sortRuns'_eq];refine AH (GV ?_);dsimp only;rw[g.size];generalize minRun' a₀.size a₀.size 0=L
 refine AH (Cq (Bh (I:=λx c o=>∃lo,c=(none,lo)/\Good a₀ J o/\Stk lt (AS o) (AT o).toList 0 lo/\lo<=a₀.size/\min x a₀.size<=lo)
  (Q:=λc o=>c=(none,a₀.size)/\Good a₀ J o/\Stk lt (AS o) (AT o).toList 0 a₀.size) ?step ?fin ?init) ?post)
 case init=>exact⟨0,rfl,g,by rw[hp];rfl,by lia,by lia⟩
 case fin=>
  rintro c o ⟨lo,rfl,g',k',h1,h2⟩
  have:lo=a₀.size:=by lia
  subst this;exact⟨rfl,g',k'⟩
 case step=>
  rintro x c nD _ hx ⟨lo,rfl,g1,U,h1,h2⟩;dsimp only
  by_cases ot:lo ≥ a₀.size
  ·rw[qX ot]
   have:lo=a₀.size:=by lia
   subst this;exact AK ⟨rfl,g1,U⟩
  rw[qY ot];refine AH (wpS_countRun C O (by lia) (by lia) g1 λX n Y P T u2 o2 p2=>?_);dsimp only
  have k2:Stk lt (AS X) (AT X).toList 0 lo:=by
   rw[p2];exact U.out o2 (.inl (AN _))
  by_cases hm:n < L
  ·rw[qX hm]
   refine AH (IW ?_);refine AH (wpS_binarySort C O (by lia) (by omega) Y u2 λZ g3 u3 o3 p3=>?_)
   have k3:Stk lt (AS Z) (AT Z).toList 0 lo:=by
    rw[p3];exact k2.out o3 (.inl (AN _))
   rw[qY (by simp)];refine AH (GV ?_)
   cases hb:(AT Z).back? with
   | none=>
    dsimp only;refine AH (Cz (AK ⟨lo+min (a₀.size - lo) L,rfl,⟨g3.perm,g3.kind,g3.failed⟩,?_,by lia,by lia⟩));show Stk lt (AS Z) ((AT Z).push (lo,min (a₀.size - lo) L,0)).toList 0 (lo+min (a₀.size - lo) L);rw[IQ];exact Stk.app.mpr ⟨lo,k3,rfl,by omega,u3,rfl⟩
   | some t=>
    obtain⟨s1,P,z⟩:=t;dsimp only;generalize power' a₀.size (2 * s1+P) (2 * s1+P+P+min (a₀.size - lo) L) a₀.size=pw
    refine AH (Cq (Bh (I:=λ_ c m=>c=(none,())/\Good a₀ J m/\Stk lt (AS m) (AT m).toList 0 lo/\Up lt (AS m) lo (lo+min (a₀.size - lo) L))
     (Q:=λc m=>c=(none,())/\Good a₀ J m/\Stk lt (AS m) (AT m).toList 0 lo/\Up lt (AS m) lo (lo+min (a₀.size - lo) L)) ?_ (λc m h=>h) ⟨rfl,g3,k3,u3⟩) ?_)
    ·rintro x' c' m _ _ ⟨rfl,B,G,H⟩
     refine AH (GV ?_)
     by_cases N:(AT m).size > 1
     ·rw[qX N]
      obtain⟨s2,T,R,S⟩:∃s2 T R,(AT m)[(AT m).size - 2]?=some (s2,T,R):=⟨_,_,_,getElem?_pos (AT m) ((AT m).size - 2) (by lia)⟩
      rw[S];dsimp only
      by_cases ho:R<=pw
      ·rw[qX ho]
       exact AK ⟨rfl,B,G,H⟩
      ·rw[qY ho]
       refine AH (Iz C O B G (by omega) (by lia) λqv g5 k5 _ o5=>?_);exact AK ⟨rfl,g5,k5,H.out o5 (.inr (by lia))⟩
     ·rw[qY N]
      exact AK ⟨rfl,B,G,H⟩
    ·rintro c' m ⟨rfl,B,G,H⟩
     dsimp only;refine AH (Cz (AH (Cz (AK ⟨lo+min (a₀.size - lo) L,rfl,⟨B.perm,B.kind,B.failed⟩,?_,by lia,by lia⟩))));show Stk lt (AS m) ((((AT m).modify ((AT m).size - 1) λx=>(x.fst,x.2.fst,pw))).push (lo,min (a₀.size - lo) L,0)).toList 0 (lo+min (a₀.size - lo) L);rw[IQ,WJ];exact Stk.app.mpr ⟨lo,Stk.pw (f:=λx=>(x.fst,x.2.fst,pw)) (λx=>⟨rfl,rfl⟩) _ G,rfl,by omega,H,rfl⟩
  ·rw[qY hm]
   refine AH (GV ?_)
   cases hb:(AT X).back? with
   | none=>
    dsimp only;refine AH (Cz (AK ⟨lo+n,rfl,⟨Y.perm,Y.kind,Y.failed⟩,?_,by lia,by lia⟩));show Stk lt (AS X) ((AT X).push (lo,n,0)).toList 0 (lo+n);rw[IQ];exact Stk.app.mpr ⟨lo,k2,rfl,by omega,u2,rfl⟩
   | some t=>
    obtain⟨s1,P,z⟩:=t;dsimp only;generalize power' a₀.size (2 * s1+P) (2 * s1+P+P+n) a₀.size=pw
    refine AH (Cq (Bh (I:=λ_ c m=>c=(none,())/\Good a₀ J m/\Stk lt (AS m) (AT m).toList 0 lo/\Up lt (AS m) lo (lo+n))
     (Q:=λc m=>c=(none,())/\Good a₀ J m/\Stk lt (AS m) (AT m).toList 0 lo/\Up lt (AS m) lo (lo+n)) ?_ (λc m h=>h) ⟨rfl,Y,k2,u2⟩) ?_)
    ·rintro x' c' m _ _ ⟨rfl,B,G,H⟩
     refine AH (GV ?_)
     by_cases N:(AT m).size > 1
     ·rw[qX N]
      obtain⟨s2,T,R,S⟩:∃s2 T R,(AT m)[(AT m).size - 2]?=some (s2,T,R):=⟨_,_,_,getElem?_pos (AT m) ((AT m).size - 2) (by lia)⟩
      rw[S];dsimp only
      by_cases ho:R<=pw
      ·rw[qX ho]
       exact AK ⟨rfl,B,G,H⟩
      ·rw[qY ho]
       refine AH (Iz C O B G (by omega) (by lia) λqv g5 k5 _ o5=>?_);exact AK ⟨rfl,g5,k5,H.out o5 (.inr (by lia))⟩
     ·rw[qY N]
      exact AK ⟨rfl,B,G,H⟩
    ·rintro c' m ⟨rfl,B,G,H⟩
     dsimp only;refine AH (Cz (AH (Cz (AK ⟨lo+n,rfl,⟨B.perm,B.kind,B.failed⟩,?_,by lia,by lia⟩))));show Stk lt (AS m) ((((AT m).modify ((AT m).size - 1) λx=>(x.fst,x.2.fst,pw))).push (lo,n,0)).toList 0 (lo+n);rw[IQ,WJ];exact Stk.app.mpr ⟨lo,Stk.pw (f:=λx=>(x.fst,x.2.fst,pw)) (λx=>⟨rfl,rfl⟩) _ G,rfl,by omega,H,rfl⟩
 case post=>
  rintro c nD ⟨rfl,g1,U⟩;dsimp only
  refine AH (Cq (Bh (I:=λx c m=>c=(none,())/\Good a₀ J m/\Stk lt (AS m) (AT m).toList 0 a₀.size/\((AT m).size<=1∨(AT m).size+x<=a₀.size))
   (Q:=λc m=>c=(none,())/\Good a₀ J m/\Stk lt (AS m) (AT m).toList 0 a₀.size/\(AT m).size<=1) ?_ ?_ ?_) ?_)
  ·rintro x c m _ _ ⟨rfl,B,G,d⟩
   refine AH (GV ?_)
   by_cases N:(AT m).size<=1
   ·rw[qX N]
    exact AK ⟨rfl,B,G,N⟩
   ·rw[qY N]
    refine AH (Iz C O B G (AN _) (eQ (by lia)) λqv g5 k5 z5 o5=>?_);exact AK ⟨rfl,g5,k5,.inr (by lia)⟩
  ·rintro c m ⟨rfl,B,G,d⟩
   exact⟨rfl,B,G,by lia⟩
  ·refine⟨rfl,g1,U,.inr ?_⟩
   have:=U.le;simp at this;omega
  ·rintro c m ⟨rfl,B,G,d⟩
   refine AK (h m B ?_);generalize hl:(AT m).toList=l at G
   have hd:l.length<=1:=by rw[<-hl];simpa using d
   match l,G,hd with
   | [],G,_=>exact λi j h1 h2 h3=>by have:(0:Nat)=a₀.size:=G;lia
   | [(s,n,_)],⟨e1,_,u,S⟩,_=>
    have S:s+n=a₀.size:=S;rw[S,e1]at u;exact u
end
noncomputable def ltL:ZLi->ZLi->Bool
 | [],[]=>false
 | [],_ :: _=>true
 | _ :: _,[]=>false
 | x :: g,y :: i=>if x=y then ltL g i else decide (x < y)
theorem Po:∀x y,ltL x y=true->ltL y x=false
 | [],[],h=>by cases h
 | [],_ :: _,_=>rfl
 | _ :: _,[],h=>by cases h
 | x :: g,y :: i,h=>by
  unfold ltL at h ⊢
  by_cases e:x=y
  ·rw[qX e]at h;rw[qX e.symm];exact Po g i h
  ·rw[qY e]at h;rw[qY (B8 e)];simp at h ⊢;lia
theorem SV:∀x y z,ltL y x=false->ltL z y=false->ltL z x=false
 | [],y,[],_,_=>rfl
 | [],[],_ :: _,_,_=>rfl
 | [],_ :: _,_ :: _,_,_=>rfl
 | x :: m,[],z,h,_=>by cases h
 | _,y :: o,[],_,h=>by cases h
 | x :: m,y :: o,z :: A,i,g=>by
  unfold ltL at i g ⊢
  by_cases l:y=x
  ·rw[qX l]at i
   subst l
   by_cases j:z=y
   ·rw[qX j]at g ⊢
    exact SV m o A i g
   ·rw[qY j]at g ⊢;exact g
  ·rw[qY l]at i
   by_cases j:z=y
   ·subst j;rw[qY l];exact i
   ·rw[qY j]at g
    by_cases s:z=x
    ·subst s;simp at i g;lia
    ·rw[qY s];simp at i g ⊢;lia
theorem SU:∀x y,ltL x y=false->ltL y x=false->x=y
 | [],[],_,_=>rfl
 | [],_ :: _,h,_=>by cases h
 | _ :: _,[],_,h=>by cases h
 | x :: j,y :: l,g,i=>by
  unfold ltL at g i
  by_cases e:x=y
  ·rw[qX e]at g;rw[qX e.symm]at i;rw[e,SU j l g i]
  ·rw[qY e]at g;rw[qY (B8 e)]at i;simp at g i;lia
noncomputable def ltK(f:AD->ZLi)(x y:A0):Bool:=ltL (f x.1) (f y.1)
theorem dn(f:AD->ZLi)(U:A0->Prop):Ord U (ltK f):=⟨λx y _ _ h=>Po _ _ h,λx y z _ _ _ g i=>SV _ _ _ g i⟩
section
theorem Va(o:Bool)(h:Q (decide (a < b)) s):AZ (AR prog w) A (oneLt' o (.int a t) (.int b u)) Q E s:=by
 cases o with
 | true=>exact oneLt_int h
 | false=>
  rw[oneLt'_eq];simp only[Ay,if_false];exact AA (wpAny_lt_int (CO h))
noncomputable def V4(s:AG)(v:AD)(ns:ZLi):Prop:=∃a g,v=.ref a/\s.heap.IsTuple a g/\CG g.toList ns
noncomputable def mO(o:Bool):(AD×AD)×Nat->Option Bool×Unit->Sem (ForInStep (Option Bool×Unit)):=λe _=>match e with
 | ((p,q),i)=>eqBool p q >>= λc=>if (!c)=true then oneLt' (o&&i==0) p q >>= λb=>pure (.done (some b,()))else pure (.yield (none,()))
theorem am(o:Bool)(x y:AD):keyLt' (kA o) x y=(Hc x >>= λr=>Hc y >>= λq=>forIn (r.toList.zip q.toList).zipIdx ((none,()):Option Bool×Unit) (mO o) >>= λz=>match z.1 with
  | some b=>pure b
  | none=>pure (decide (r.size < q.size))):=by kernel_rfl
theorem bp(o:Bool):∀{is i:List AD} {ns B:ZLi} (k:Nat) {Q:Bool->AG->Prop},CG is ns->CG i B->Q (ltL ns B) s ->
  AZ (AR prog w) A (forIn ((is.zip i).zipIdx k) ((none,()):Option Bool×Unit) (mO o) >>= λz=>match z.1 with
   | some b=>pure b
   | none=>pure (decide (n0+is.length < n0+i.length))) Q E s:=by
 intro is
 induction is with
 | nil=>
  intro i ns B k Q j l g;cases j;rw[Yy,cR,LN];refine AA (AE (AE ?_))
  cases l with
  | nil=>simpa[ltL]using g
  | cons m t h=>simpa[ltL]using g
 | cons v is C=>
  intro i ns B k Q j l g
  cases j with
  | cons n t j=>
   cases l with
   | nil=>
    rw[Yn,cR,LN];refine AA (AE (AE ?_));rw[wY (by rw[AU,B7];lia)];exact g
   | cons m u l=>
    rw[Hb,List.zipIdx_cons,KL];rw[bind_assoc];unfold ltL at g;refine AA ?_;refine AA (Rb ?_)
    by_cases e:n=m
    ·rw[qX e]at g
     rw[qY (by simp[e])];refine AE ?_;have:=C (k+1) j l g;simpa[Nat.add_lt_add_iff_left]using this
    ·rw[qY e]at g
     rw[qX (by simp[e])];refine AA (Va _ (AE ?_));exact AA (AE (AE g))
end
section
theorem NI(h:V4 s v ns):∃g:Array AD,CG g.toList ns/\s.TypeIs v "tuple"/\∀(E:AD->AG->Prop) (Q:Array AD->AG->Prop),Q g s->AZ (AR prog w) A (Hc v) Q E s:=by
 obtain⟨a,g,rfl,⟨o,i,j,n,l⟩,m⟩:=h;exact⟨g,m,⟨o,i,j⟩,λE Q q=>listItems_at i l q⟩
theorem ez(o:Bool)(g:V4 s x ns)(i:V4 s y j)(h:Q (ltL ns j) s):AZ (AR prog w) A (keyLt' (kA o) x y) Q E s:=by
 obtain⟨r,l,_,wr⟩:=NI (prog:=prog) (w:=w) (A:=A) g;obtain⟨q,m,_,B⟩:=NI (prog:=prog) (w:=w) (A:=A) i;rw[am];refine AA (wr E _ (AA (B E _ ?_)));have:=bp (prog:=prog) (w:=w) (A:=A) (E:=E) (n0:=0) o 0 l m h;simp only[En,BK]at this;exact this
theorem YI(h:V4 s v (n :: ns))(i:∀t,Q (some (.int n t)) s):AZ (AR prog w) A (XT v) Q E s:=by
 obtain⟨r,g,ty,wr⟩:=NI (prog:=prog) (w:=w) (A:=A) h;refine(AA (Yt ty ?_):AZ _ _ (XT v) Q E s);refine(show AZ (AR prog w) A (if (E2 "tuple" != E2 "tuple")=true then _ else _) Q E s from ?_);rw[qY (by simp)];refine AA (wr E _ (AE ?_));generalize j:r.toList=l at g
 cases g with
 | cons _ t m=>
  have:r[0]?=some (.int n t):=by
   rw[<-Ue,j];rfl
  rw[this];exact i t
theorem P2:∀{g:List AD},(∀v∈g,∃n ns,V4 s v (n :: ns))->∀{Q:List (Option AD)->AG->Prop},(∀is ns,CG is ns->is.length=g.length->Q (is.map some) s)->AZ (AR prog w) A (g.mapM XT) Q E s
 | [],_,Q,h=>by
  rw[List.mapM_nil];exact AE (h [] [] .nil rfl)
 | v :: g,i,Q,h=>by
  obtain⟨n,ns,j⟩:=i v Aa;rw[List.mapM_cons];refine AA (YI j λt=>AA (P2 (λv l=>i v (AM _ l)) λis m o B=>AE ?_));exact h (.int n t :: is) (n :: m) (.cons n t o) (by rw[AU,B,AU])
theorem SK(h:CG is ns)(g:is≠[]):oneTypeOnly' is.toArray=pure (some (.type "int")):=by
 rw[oneTypeOnly'_eq,Y0,mapM_typeOf_ints h];simp only[map_pure,pure_bind]
 cases is with
 | nil=>exact zX rfl g
 | cons v is=>
  have i:(Qv (λ_=>E2 "int") (v :: is)).toArray[0]?=some (E2 "int"):=by simp
  have j:((Qv (λ_=>E2 "int") (v :: is)).toArray.all λx=>x==E2 "int")=true:=by
   simp only[List.all_toArray,Ub,By]
   exact λ_ _=>rfl
  rw[i];simp only[j,if_true]
theorem aj(i:∀v∈g,∃n ns,V4 s v (n :: ns))(j:g≠[])(h:Q (kA true) s):AZ (AR prog w) A (keyKind' g.toArray) Q E s:=by
 rw[keyKind'_eq,Y0];refine AA ?_;rw[map_eq_pure_bind];refine AA (P2 i λis ns l m=>AE ?_)
 have o:((is.map some).toArray.all λx=>x.isSome)=true:=by simp
 rw[qX o];refine AA (gJ ?_)
 have B:(is.map some).toArray.filterMap id=is.toArray:=by simp
 rw[B,SK l (by intro e;subst e;cases g with | nil=>exact j rfl | cons=>simp at m)];refine AA (AE (AE ?_));exact h
end
section
theorem Fk(h:x∈KA g):x.1∈g/\x.1=x.2:=by
 have:x∈(KA g).toList:=BE.mpr h;rw[pairsOf_toList]at this;exact⟨(mem_zip_self this).2,(mem_zip_self this).1⟩
theorem X0(g:List AD):(KA g).map (·.2)=g.toArray:=by
 apply Array.ext'
 rw[Iy,pairsOf_toList];simp[List.map_snd_zip]
noncomputable def Sr(prog:A3)(w:BR)(A:BO)(s:AG)(g:List AD)(f:AD->ZLi):Prop:=
 ∃i:NA,(∀(Q:NA->AG->Prop) (E:AD->AG->Prop),Q i s->AZ (AR prog w) A (keyKind' g.toArray) Q E s)/\Jv prog w A s (KA g) i (ltK f)
theorem Qj(ho:s.heap.get? a=some (Ht "list" j.toArray n)) (T:j.length<=sizeLine)
  (U:2<=j.length->∀s':AG,(∀b o,b≠a->s.heap.get? b=some o->s'.heap.get? b=some o)->Sr prog w A s' j f)
  (h:∀out:Array AD,out.toList.Perm j->out.toList.Pairwise (λx y=>ltL (f y) (f x)=false)->P (.done (.ret .none)) { s with heap:=gM s.heap a j out }) :
  AZ (AR prog w) A (Builtin.«list.sort» ⟨[.ref a],[]⟩) P E s:=by
 have ha:a < s.heap.objs.size:=AV ho
 have J:j.toArray.size=j.length:=by simp
 obtain⟨L,B⟩:∃L,(s.heap.update a (Hw λ_=>#[])).get? a=some (Ht "list" #[] L):=⟨_,get?_update_seq ho (λ_=>#[])⟩
 have G:(((s.heap.update a (Hw λ_=>#[])).push (Ht "tuple" j.toArray 0)).push (Ht "list" #[] 0)).get? a=some (Ht "list" #[] L):=
  AB _ (AB _ B)
 have old:∀b o,b≠a->s.heap.get? b=some o->(((s.heap.update a (Hw λ_=>#[])).push (Ht "tuple" j.toArray 0)).push (Ht "list" #[] 0)).get? b=some o:=λb o hb X=>
  AB _ (AB _ (by rw[G9 _ _ _ _ hb];exact X))
 have fin:∀i:A9,(AS i).Perm (KA j)->(AS i).toList.Pairwise (Rl (ltK f))->P (.done (.ret .none)) { s with heap:=gM s.heap a j ((AS i).map (·.2)) }:=by
  intro i m H
  have O:∀x∈(AS i).toList,x.1=x.2:=λx N=>by
   have:x∈(KA j).toList:=(ER.mp m).mem_iff.mp N;exact(Fk (BE.mp this)).2
  refine h _ ?_ ?_
  ·have:=(ER.mp m).map (·.2)
   rw[<-Iy,<-Iy,X0]at this;simpa using this
  ·rw[Iy,ED]
   refine H.imp_of_mem λ{x y} N Y r=>?_
   rw[<-O x N,<-O y Y];exact r
 have last:∀i:A9,(AS i).Perm (KA j)->HX i=none->(AS i).toList.Pairwise (Rl (ltK f))->(((AS i).map (·.2)).size<=sizeLine+1):=λi m _ _=>by
  rw[Array.size_map,m.size_eq,pairsOf_size]
  lia
 rw[list_sort_plain];refine AA (listItems_at ho rfl (AA (XS ho rfl (AA (cJ B rfl (AA (wpAny_newTuple (AA (wpAny_newList (Bz ?_)))))) ) (by rw[J];exact T) (Eg _))));show AZ (AR prog w) A _ P E { s with heap:=((s.heap.update a (Hw λ_=>#[])).push (Ht "tuple" j.toArray 0)).push (Ht "list" #[] 0) };dsimp only
 by_cases I:j.toArray.size < 2
 ·rw[qX I,qX I]
  refine AA (AE ?_);rw[StateT.run_pure]
  have R:(AS (F0 Uh (j.toArray.zip j.toArray) #[] 7 none)).toList.Pairwise (Rl (ltK f)):=by
   have:(AS (F0 Uh (j.toArray.zip j.toArray) #[] 7 none)).toList.length < 2:=by
    rw[BK];show(KA j).size < 2;rw[pairsOf_size];omega
   generalize (AS (F0 Uh (j.toArray.zip j.toArray) #[] 7 none)).toList=l at this
   match l,this with
   | [],_=>exact .nil
   | [x],_=>exact TD _ _
   | _ :: _ :: _,h=>simp at h;lia
  refine AA (AE (AA (cJ G rfl (AA (XS G rfl ?_ (Eg _) (last (F0 Uh (j.toArray.zip j.toArray) #[] 7 none) (M6 _) rfl R))))));simp only[bne_self_eq_false,Ay,if_false];exact AE (fin (F0 Uh (j.toArray.zip j.toArray) #[] 7 none) (M6 _) R)
 ·rw[qY I,qY I]
  obtain⟨Z,kk,C⟩:=U (by lia) { s with heap:=((s.heap.update a (Hw λ_=>#[])).push (Ht "tuple" j.toArray 0)).push (Ht "list" #[] 0) } old;refine AA (kk _ _ ?_)
  refine AA (BX (Srt.wpS_sortRuns (a₀:=KA j) (st:=F0 Z (j.toArray.zip j.toArray) #[] 7 none)
   (Q:=λ_ i=>(AS i).Perm (KA j)/\HX i=none/\(AS i).toList.Pairwise (Rl (ltK f))) C (dn f _) ⟨M6 _,rfl,rfl⟩ rfl λi g u=>⟨g.perm,g.failed,?_⟩) ?_ λ_ _ e=>e)
  ·have:=ZQ (a:=AS i) (lo:=0) (hi:=(AS i).size) (AN _) (by rw[g.size];exact u)
   rwa [Jd,FW]at this
  rintro⟨⟨⟩,i⟩ s' ⟨rfl,m,S,H⟩;refine AA (cJ G rfl (AA (XS G rfl ?_ (Eg _) (last i m S H))));rw[S];simp only[bne_self_eq_false,Ay,if_false];exact AE (fin i m H)
theorem Xk(h:∀v∈g,V4 s v (f v)/\f v≠[])(i:g≠[]):Sr prog w A s g f:=
 ⟨kA true,λQ E q=>aj (λv j=>by
  obtain⟨l,m⟩:=h v j
  cases e:f v with
  | nil=>exact zX e m
  | cons n ns=>exact⟨n,ns,by rw[<-e];exact l⟩) i q,λx y o B Q E q=>ez true (h _ (Fk o).1).1 (h _ (Fk B).1).1 q⟩
noncomputable def aA(v:AD):ZLi:=[numOf v]
theorem Xl(h:CG g ns)(l:2<=g.length):Sr prog w A s g aA:=by
 refine⟨oneType',λQ E q=>?_,λx y o B Q E q=>?_⟩
 ·match g,l,h with
  | v :: u :: r,_,h=>rw[keyKind_ints h];exact AE q
 ·obtain⟨n,t,i⟩:=h.all _ (Fk o).1
  obtain⟨m,u,j⟩:=h.all _ (Fk B).1;rw[keyLt'_oneType,i,j];refine oneLt_int ?_
  have:ltK aA x y=decide (n < m):=by
   unfold ltK aA;rw[i,j];show(if n=m then false else decide (n < m))=_;split
   ·rename_i e;simp[e]
   ·rfl
  rw[<-this];exact q
end
noncomputable def Qp(h:Bt)(d:AJ)(es:Array Ys)(ep:Nat):Prop:=∃o,h.get? d=some o/\o.ExactDict/\o.data=.dict es ep
theorem Qp.at'(x:Qp h d es ep)(e:∀o,h.get? d=some o->h'.get? d=some o):Qp h' d es ep:=let ⟨o,g,r⟩:=x;⟨o,e _ g,r⟩
theorem Qp.ty{s:AG}{d:AJ}{es:Array Ys}{ep:Nat}(x:Qp s.heap d es ep):s.TypeIs (.ref d) "dict":=let ⟨o,g,i,_⟩:=x;⟨o,g,i.1⟩
section
theorem Zp{Q:AD->AG->Prop}(l:(d==D9)=false)(hm:Qp s.heap d es ep)
  (m:Q (.ref s.heap.objs.size) { s with heap:=s.heap.push { cls:=.type "dict_keyiterator",data:=.fields #[.ref d,.int 0 0,.int es.size 0,.int ep 0] } }):AZ (AR prog w) A (gN (.ref d)) Q E s:=by
 have g:=hm.ty;obtain⟨o,i,B,j⟩:=hm;refine wpAny_pyIter_slot g Rj (Du Rj g PySem.F.entry_dict_iter ?_ (PySem.F.args_dict_iter_1 _));unfold Builtin.«dict.__iter__»;refine AA ?_;unfold my;refine AA (wpAny_notOrdered_dict g (show AZ _ _ (pure (Ai d)) _ _ s from AE ?_));refine(show AZ _ _ (O3 d >>= _) _ _ s from ?_);unfold O3;rw[qY (by simp[l])];refine AA (AE (AA (QJ i j (AA (S8 i j (AA (CP (AE ⟨_,rfl, "dict_keyiterator",_,⟨_,AX _ rfl,rfl⟩,B4.lookup,?_⟩))))))));simpa[EA]using m
theorem Zo(g:s.heap.IsKeyIter it d i es.size ep)(hm:Qp s.heap d es ep)(hi:i < es.size)
  (G:∀h',h'.IsKeyIter it d (i+1) es.size ep->Ek it s.heap h'->Q (some es[i].key) { s with heap:=h' }):AZ (AR prog w) A (Re (.ref it)) Q E s:=by
 obtain⟨o,l,H,j⟩:=id g;obtain⟨I,m,J,B⟩:=hm;unfold Re;refine AA (FS (Fy (name:=Fd "__next__") g.typeIs B4 (Du B4 g.typeIs LM (AA (AE (AA (AA ?_)))) (LF _))))
 first | refine AA (D7 g.typeIs (AE (AA (M8 l j ?_)))) | refine AA (FR g.typeIs (AE (AA (M8 l j ?_))))
 simp only[show KC "dict_keyiterator" = false by decide,Ay,if_false];refine(show AZ _ _ (if (Ai d==BY)=true then _ else _) _ _ s from ?_);rw[qY (λz:(Ai d==BY)=true=>Ac z)];refine AA (AE (AA (QJ m B ?_)));rw[qY (by simp)];refine AA (AE (AA (S8 m B ?_)));rw[qY (by simp)];refine AE ?_;simp only[show ¬((i:Int) < 0) by lia,if_false,Cp,Hy hi];refine AA ?_
 first | refine AA (D7 g.typeIs (AE (AA (MH g.typeIs ?_)))) | refine AA (FR g.typeIs (AE (AA (MH g.typeIs ?_))))
 refine(show AZ _ _ (cI (.ref it) 1 (EA ((i:Int)+1)) >>= _) _ _ s from ?_);have C:(s.heap.update it (Ce (·.setIfInBounds 1 (EA ((i:Int)+1))))).IsKeyIter it d (i+1) es.size ep:=⟨_,DB _ l (GU (Ca j _)),(OA ..).trans H,by rw[Ca j];simp[EA]⟩;refine AA (Iq l j (by simp) (AA (Bz (AA (MH (s:={ s with heap:=s.heap.update it (Ce (·.setIfInBounds 1 (EA ((i:Int)+1)))) }) C.typeIs ?_)))));exact(show AZ _ _ (pure es[i].key) _ _ _ from AE (AE ⟨_,rfl,AE (G _ C (QR ..))⟩))
theorem dN(G:A.handled=none)(g:s.heap.IsKeyIter it d i es.size ep)(hm:Qp s.heap d es ep)(hi:es.size<=i)
  (H:∀h',kY it s.heap h'->Q none { s with heap:=h' }):AZ (AR prog w) A (Re (.ref it)) Q E s:=by
 obtain⟨o,j,I,l⟩:=id g;obtain⟨J,B,L,C⟩:=hm;unfold Re;refine AA (FS (Fy (name:=Fd "__next__") g.typeIs B4 (Du B4 g.typeIs LM (AA (AE (AA (AA ?_)))) (LF _))))
 first | refine AA (D7 g.typeIs (AE (AA (M8 j l ?_)))) | refine AA (FR g.typeIs (AE (AA (M8 j l ?_))))
 simp only[show KC "dict_keyiterator" = false by decide,Ay,if_false];refine(show AZ _ _ (if (Ai d==BY)=true then _ else _) _ _ s from ?_);rw[qY (λz:(Ai d==BY)=true=>Ac z)];refine AA (AE (AA (QJ B C ?_)));rw[qY (by simp)];refine AA (AE (AA (S8 B C ?_)));rw[qY (by simp)];refine AE ?_;simp only[show ¬((i:Int) < 0) by lia,if_false,Cp,TJ hi];refine AA ?_
 first | refine AA (D7 g.typeIs (AE (show AZ _ _ (cI (.ref it) 0 .none >>= _) _ _ s from ?_))) | refine AA (FR g.typeIs (AE (show AZ _ _ (cI (.ref it) 0 .none >>= _) _ _ s from ?_)))
 refine AA (Iq j l (by simp) (show AZ _ _ (newExc (.type "StopIteration") [] >>= _) _ _ _ from AA ?_));simp only[newExc,newTuple];refine AA (CP (AA (m:=firstArgMember _ _) (Su (a:=BY) (by first | rfl | (simp only[firstArgMember];rfl)) (CP ?_ (by size_fits)))) (by size_fits));simp only[raiseNew];refine AA (wpAny_handled ?_);rw[show A.in1.handled=none from G];refine AA (AE (wpAny_throw ?_));refine AA (Ra (T:="StopIteration") (b:=true) ⟨_,AX _ rfl,rfl⟩ isSubtype_stop (AE ?_));exact H _ (((QR ..).extBut.push _).push _)
theorem Xv(C:A.handled=none)(I:AJ)(G:d≠I):Walks prog w A I [I,d] [I] es.size (λi v=>∃h:i < es.size,v=es[i].key) (λi h=>h.IsKeyIter I d i es.size ep/\Qp h d es ep) where
 sub:=λx l=>by simp at l;simp[l]
 frame:=λ_ _ _ st keep=>⟨st.1.at λo e=>keep I (by simp) o e,st.2.at' λo e=>keep d (by simp) o e⟩
 item:=λi s Q E m st g=>Zo st.1 st.2 m λj H B=>g _ j s.toks ⟨m,rfl⟩ ⟨H,st.2.at' λo e=>B.extBut d o G e⟩ λb o hb e=>B.extBut b o (λh=>hb (by simp[h])) e
 done:=λs Q E st g=>dN C st.1 st.2 (AN _) λj J=>g j s.toks λb o hb e=>J b o (λh=>hb (by simp[h])) e
 self:=λ_ _ _ _ st g=>wpAny_pyIter_keyiter st.1 g
theorem Wg(lo:(d==D9)=false):PySem.W.KdlSrc prog w "dict" d d es.size (λi v=>∃h:i < es.size,v=es[i].key) (λh=>Qp h d es ep) where
 type:=λ_ hm=>hm.ty
 there:=λ_ hm=>⟨let ⟨_,g,_⟩:=hm;AV g,let ⟨_,g,_⟩:=hm;AV g⟩
 keep:=λ_ _ hm l=>hm.at' λo e=>l d (.inl rfl) o e
 notList:=by decide
 notTuple:=by decide
 hint:=λ_ _ _ _ hm j=>PySem.W.kdl_hint_dict hm.ty j
 iter:=λ_ _ m hm=>⟨_,_,(λ_ _ j=>Zp lo hm j),Xv m _ (Al (let ⟨_,g,_⟩:=hm;AV g)),⟨⟨_,AX _ rfl,rfl,rfl⟩,hm.at' λo e=>AB _ e⟩⟩
end
end Srt
namespace L2
open PySem PySem.Spec PyProof.Rows
open Srt (ltL)
theorem Tt{o s:Type}{R:o->s->Prop}{A B:List s}(p:A.Perm B):∀{l1:List o},Gc R l1 A->∃C,Gc R C B/\C.Perm l1:=by
 induction p with
 | nil=>intro l1 h;cases h;exact⟨[],.nil,.refl _⟩
 | cons x _ E=>
  intro l1 h
  cases h with
  | cons r t=>
   obtain⟨G,g,i⟩:=E t;exact⟨_ :: G,.cons r g,i.cons _⟩
 | swap x y l=>
  intro l1 h
  cases h with
  | cons r t=>
   cases t with
   | cons H t=>exact⟨_ :: _ :: _,.cons H (.cons r t),List.Perm.swap _ _ _⟩
 | trans _ _ j m=>
  intro l1 h;obtain⟨a,g,i⟩:=j h;obtain⟨b,I,J⟩:=m g;exact⟨b,I,J.trans i⟩
theorem Me{i j m:Type}{R:i->j->Prop}{f:i->m}{g:j->m}:∀{l:List i} {o:List j},Gc R l o->(∀a∈l,∀b,R a b->g b=f a)->o.map g=l.map f
 | _,_,.nil,_=>rfl
 | _,_,.cons r t,h=>by rw[Ao,Ao,h _ Aa _ r,Me t λa s=>h a (AM _ s)]
theorem Pf{i g:Type}{R:i->g->Prop}:∀{j:List i} {l:List g} {b:g},Gc R j l->b∈l->∃a∈j,R a b
 | _,_,_,.nil,h=>nomatch h
 | _,_,b,.cons r t,h=>by
  rcases An.mp h with h | h
  ·subst h;exact⟨_,Aa,r⟩
  ·obtain⟨a,m,e⟩:=Pf t h
   exact⟨a,AM _ m,e⟩
noncomputable def Qg:V->Int
 | .int n=>n
 | _=>0
noncomputable def rowH(H:Hp):AD->ZLi
 | .int n _=>[n]
 | .ref b=>match H b with
  | some (.tup g)=>g.map Qg
  | _=>[]
 | _=>[]
theorem NS(r:ZLi):(r.map V.int).map Qg=r:=by
 rw[BZ];exact(Cu λa _=>rfl).trans (List.map_id' r)
noncomputable def mR(K:AC)(H:Hp)(p:AJ)(G:List V->Prop):Prop:=
 (∃i,(SqL K H p i∨SqT K H p i)/\G i)∨(∃g,H p=some (.dK g)/\G (g.map λx=>kV x.1)) ∨
  ∃g,H p=some (.dT g)/\∀bs:List AJ,Gc (λ(k:List Key×V) b=>H b=some (.tup (k.1.map kV))) g bs->G (bs.map V.ref)
noncomputable def RZ(H:Hp)(f:V->ZLi)(g:List V):Prop:=(∀v∈g,∃n,v=.int n/\f v=[n])∨∀v∈g,∃b,v=.ref b/\H b=some (.tup ((f v).map V.int))/\f v≠[]
noncomputable def lD(K:AC):List V->Hp->VK->Prop:=λi H Q=>∃p,i=[.ref p]/\mR K H p λg=>∃f:V->ZLi,RZ H f g /\
 ∀out,out.Perm g->out.Pairwise (λx y=>ltL (f y) (f x)=false)->∀l,H l=none->Q (.ref l) (upd H l (.lst out))
theorem RZ.rel(h:RZ H f i):∀v∈i,∀u,RelV v u->rowH H u=f v:=λv g u r=>by
 rcases h with h | h
 ·obtain⟨n,rfl,e⟩:=h v g
  obtain⟨t,rfl⟩:=r;exact e.symm
 ·obtain⟨b,rfl,e,_⟩:=h v g
  cases r;show(match H b with | some (.tup j)=>j.map Qg | _=>[])=_;rw[e];exact NS _
theorem Te(hc:X.calm=true)(I:Inv X ζ σ H s)(h:mR X.K H p G) :
  ∃Y P,G Y/\Bb Y P/\P.length<=sizeLine/\∀(R:List AD->AG->Prop) (E:AD->AG->Prop),(∀(g:Bt) (tk:Nat),(∀b o,s.heap.get? b=some o->g.get? b=some o)->R P { s with heap:=g,toks:=tk })->AZ (AR X.prog X.w) X.A.in1 (collect (.ref p)) R E s:=by
 have hh:X.A.handled=none:=I.ok.hd hc
 rcases h with⟨Y,sq,g⟩ | ⟨B,e,g⟩ | ⟨B,e,g⟩
 ·rcases sq with sq | sq
  ·obtain⟨P,U,pl,J⟩:=I.list sq
   refine⟨Y,P,g,U,by rw[<-U.length];exact J,λR E k=>collect_list pl.isList (k _ s.toks λb o e=>?_) (by rw[<-U.length];exact J)⟩;rw[G9 _ _ _ _ (Al (AV e))];exact AB _ e
  ·obtain⟨P,U,⟨o,ho,hcl,n,hd⟩,J⟩:=I.tuple sq
   have yR:P.length<=sizeLine:=by rw[<-U.length];exact J
   exact⟨Y,P,g,U,yR,λR E k=>wpAny_collect_seq p (.inr rfl) ho hcl hd (λh' kp=>by simpa using k h' s.toks kp) (by simpa using yR)⟩
 ·obtain⟨J,sm,Z,kv,o,es,ep,g1,g2,g3,g5,g6,_⟩:=(show CK X.prog X.w H s.heap p (.dK B)from I.hok p _ e)
  have C:es.size=B.length:=by
   have a1:=g6.length;have a2:B.length=Z.length:=Ep kv;rw[BK]at a1
   lia
  have hv:Bb (B.map λx=>kV x.1) (es.toList.map (·.key)):=by
   have Q:∀{l:List Ys} {Z:List (Key×AD)} {B:List (Key×V)},Pairs (D5 X.prog X.w) l Z->KV B Z->Bb (B.map λx=>kV x.1) (l.map (·.key)):=by
    intro l Z B hp
    induction hp generalizing B with
    | nil=>intro h;cases h;exact .nil
    | cons q1 q2 _ ih=>
     intro h
     cases h with
     | cons r t=>
      refine .cons ?_ (ih t);dsimp only;rw[r.1]
      rcases Cw q1 with⟨i,t,e1,S⟩ | ⟨x,t,e1,S⟩
      ·rw[e1,S];exact⟨t,rfl⟩
      ·rw[e1,S];exact⟨t,rfl⟩
   exact Q g6 kv
  refine⟨_,es.toList.map (·.key),g,hv,by rw[AL,BK,C];exact J,λR E k=>?_⟩
  refine UW (Srt.Wg (es:=es) (ep:=ep) sm) hh ⟨o,g1,g2,g3⟩ (by rw[C];exact J) λg' tk m kp T=>?_
  have:m.toList=es.toList.map (·.key):=by
   apply IU
   intro j
   by_cases L:j < es.size
   ·have N:j < m.size:=by rw[T.1];exact L
    obtain⟨_,S⟩:=T.2 j m[j] (by simp[N]);simp[L,N,S]
   ·have N:¬j < m.size:=by rw[T.1];exact L
    simp[L,N]
  rw[this];exact k g' tk kp
 ·obtain⟨J,sm,O,rr,o,es,ep,g1,g2,g3,g4,_⟩:=(show CK X.prog X.w H s.heap p (.dT B)from I.hok p _ e)
  have C:es.size=B.length:=by
   have a1:=congrArg Ec g4;have a2:B.length=O.length:=Ep rr;rw[BK,AL]at a1
   lia
  have hb:Gc (λ(k:List Key×V) b=>H b=some (.tup (k.1.map kV))) B (O.map (·.2.1)):=by
   have Q:∀{B:List (List Key×V)} {O:List (List Key×AJ×AD)},Gc (λ(p:List Key×V) (q:List Key×AJ×AD)=>p.1=q.1/\H q.2.1=some (.tup (p.1.map kV))/\RelV p.2 q.2.2) B O->Gc (λ(k:List Key×V) b=>H b=some (.tup (k.1.map kV))) B (O.map (·.2.1)):=by
    intro B O h
    induction h with
    | nil=>exact .nil
    | cons r _ ih=>exact .cons r.2.1 ih
   exact Q rr
  have hk:es.toList.map (·.key)=(O.map (·.2.1)).map Ai:=by
   rw[g4,BZ,BZ];rfl
  have hv:∀l:List AJ,Bb (l.map V.ref) (l.map Ai):=λl=>by
   induction l with
   | nil=>exact .nil
   | cons a l ih=>exact .cons rfl ih
  refine⟨_,(O.map (·.2.1)).map Ai,g _ hb,hv _,by rw[AL,AL,<-Ep rr];exact J,λR E k=>?_⟩
  refine UW (Srt.Wg (es:=es) (ep:=ep) sm) hh ⟨o,g1,g2,g3⟩ (by rw[C];exact J) λg' tk m kp T=>?_
  have:m.toList=(O.map (·.2.1)).map Ai:=by
   rw[<-hk]
   apply IU
   intro j
   by_cases L:j < es.size
   ·have N:j < m.size:=by rw[T.1];exact L
    obtain⟨_,S⟩:=T.2 j m[j] (by simp[N]);simp[L,N,S]
   ·have N:¬j < m.size:=by rw[T.1];exact L
    simp[L,N]
  rw[this];exact k g' tk kp
theorem Tj{X:Cx}{s:AG}{H:Hp}{f:V->ZLi}{i:List V}{g:List AD}(I:∀b xs,H b=some (.tup xs)->∃is:List AD,Bb xs is/\Yp s.heap b is.toArray)(h:RZ H f i)(G:Bb i g)(J:2<=g.length){A:BO}:Srt.Sr X.prog X.w A s g (rowH H):=by
 rcases id h with O | P
 ·have:∃ns,CG g ns:=by
   have B:∀{i:List V} {g:List AD},Bb i g->(∀v∈i,∃n,v=.int n/\f v=[n])->∃ns,CG g ns:=by
    intro i g r
    induction r with
    | nil=>exact λ_=>⟨[],.nil⟩
    | cons r _ R=>
     intro j
     obtain⟨ns,l⟩:=R λv S=>j v (AM _ S)
     obtain⟨n,rfl,_⟩:=j _ Aa;obtain⟨t,rfl⟩:=r;exact⟨n :: ns,.cons n t l⟩
   exact B G O
  obtain⟨ns,l⟩:=this;obtain⟨T,U,Y⟩:=Srt.Xl (prog:=X.prog) (w:=X.w) (A:=A) (s:=s) l J;refine⟨T,U,λx y L N Q E q=>Y x y L N Q E ?_⟩;obtain⟨n,t,Z⟩:=l.all _ (Srt.Fk L).1;obtain⟨m,u,e2⟩:=l.all _ (Srt.Fk N).1
  have e:Srt.ltK Srt.aA x y=Srt.ltK (rowH H) x y:=by
   unfold Srt.ltK Srt.aA;rw[Z,e2];rfl
  rw[e];exact q
 ·refine Srt.Xk (λu hu=>?_) (by intro e;subst e;simp at J)
  obtain⟨v,j,r⟩:=Pf G hu;rw[h.rel v j u r];obtain⟨b,rfl,e,ne⟩:=P v j;cases r;refine⟨⟨b,?_⟩,ne⟩;obtain⟨is,r,o,ho,C,n,hd⟩:=I b _ e;exact⟨is.toArray,rfl,⟨o,ho,C,n,hd⟩,by simpa using intsAre_of r⟩
theorem YW{X}(T:X.calm=true):GR X (.builtin "sorted") (lD X.K):=by
 intro U s Y H O us Q I r h;obtain⟨p,rfl,B⟩:=h;obtain⟨u,rfl,Z⟩:=vals1 r;cases Z;obtain⟨vs,A,⟨f,i,q⟩,C,E,G⟩:=Te T I B;refine Calls.call_function_entry kind_sorted plain_sorted entry_sorted (args_sorted1 _) ?_;unfold Builtin.«sorted»;refine AA (m:=checkCount "sorted" 1 1 _) (AE (AA (G _ _ λg tk kp=>?_)));refine AA (wpAny_newList ?_ E);have J:Inv X U Y H { s with heap:=g,toks:=tk }:=I.kept kp;have L:(g.push (Ht "list" A.toArray 0)).get? g.objs.size=some (Ht "list" A.toArray 0):=AX _ rfl;refine AA (Bz (Du slot_list_sort ⟨_,L,rfl⟩ entry_list_sort (Srt.Qj (f:=rowH H) L E (λh2 s' keep=>?_) λout po so=>⟨_,rfl,AE ⟨_,rfl,?_⟩⟩) (args_list_sort _)))
 ·refine Tj (λb O e=>?_) i C h2
  obtain⟨_,is,r,o,P,N,n,hd⟩:=(show CK X.prog X.w H g b (.tup O)from J.hok b _ e);exact⟨is,r,o,keep b o (Al (AV P)) (AB _ P),N,n,hd⟩
 ·obtain⟨j,S,pv⟩:=Tt po.symm C
  have Ρ:j.Pairwise (λx y=>ltL (f y) (f x)=false):=by
   have e:out.toList.map (rowH H)=j.map f:=Me S λa ha b rb=>i.rel a (pv.mem_iff.mp ha) b rb
   have:=(ED (f:=rowH H) (R:=λx y=>ltL y x=false)).mpr so;rw[e]at this;exact ED.mp this
  obtain⟨k,hk⟩:=sortedHeap_at (out:=out) L
  have l:j.length<=sizeLine:=by rw[pv.length_eq,C.length];exact E
  have I2:=J.laid (a:=g.objs.size) (o:=.lst j) (t':=tk) (h':=gM (g.push (Ht "list" A.toArray 0)) g.objs.size A out)
   (λb u z=>by
    have lt:b < g.objs.size:=AV z;rw[sortedHeap_old (Al lt) (by rw[size_push'];exact Io lt)]
    exact AB _ z) (AN _) ⟨l,out.toList,k,S,hk⟩
  exact⟨.ref g.objs.size,_,I2,rfl,q j pv Ρ _ (J.hok.fresh (AN _))⟩
noncomputable def KQ(ns:ZLi):ZLi:=ns.mergeSort (λa b=>decide (a<=b))
@[simp] noncomputable def Xm:KQ []=[]:=by unfold KQ;simp
theorem VP(ns:ZLi):(KQ ns).Perm ns:=XX ns _
theorem Ze(ns:ZLi):(KQ ns).Pairwise (·<=·):=by
 have:=TF (le:=λa b:Int=>decide (a<=b)) (by intro a b c g i;simp at g i ⊢;lia) (by intro a b;simp;lia) ns
 exact this.imp λh=>by simpa using h
noncomputable def KR(g:List ZLi):List ZLi:=g.mergeSort (λa b=>!ltL b a)
theorem Fh(rs:List ZLi):(KR rs).Perm rs:=XX rs _
theorem MZ(g:List ZLi):(KR g).Pairwise (λa b=>ltL b a=false):=by
 have:=TF (le:=λa b:ZLi=>!ltL b a) (by intro a b c i j;simp at i j ⊢;exact Srt.SV _ _ _ i j) (by
  intro a b
  cases e:ltL b a with
  | false=>simp
  | true=>simp[Srt.Po _ _ e]) g
 exact this.imp λh=>by simpa using h
theorem Q7{l l':List ZLi}(p:l.Perm l')(h:l.Pairwise (λa b=>ltL b a=false))(h':l'.Pairwise (λa b=>ltL b a=false)):l=l':=
 p.eq_of_pairwise (λa b _ _ g i=>Srt.SU a b i g) h h'
noncomputable def ak:Key->D
 | .inl i=>.int i
 | .inr x=>.str x
noncomputable def JR(d:D)(S:Sto):Option (List D):=match d with
 | .fro g=>some g
 | .tup g=>some g
 | .ref n=>match S[n]? with
  | some (.lst g)=>some g
  | some (.dK i)=>some (i.map λx=>ak x.1)
  | some (.dT i)=>some (i.map λx=>.tup (x.1.map ak))
  | _=>none
 | _=>none
noncomputable def LH(r:ZLi):D:=.tup (r.map D.int)
noncomputable def LU:List D->Option (List ZLi)
 | []=>some []
 | .tup g :: r=>match Ez g,LU r with
  | some (n :: ns),some i=>some ((n :: ns) :: i)
  | _,_=>none
 | _ :: _=>none
noncomputable def LS(ds:List D):Option (List D):=match Ez ds with
 | some ns=>some ((KQ ns).map D.int)
 | none=>match LU ds with
  | some g=>some ((KR g).map LH)
  | none=>none
noncomputable def Gw(m:ME):ME:=λe S=>(m e S).bind λd g=>match JR d g with
 | some i=>match LS i with
  | some j=>.ok (.ref g.length) (g++[.lst j])
  | none=>.bad
 | none=>.bad
section
theorem eM(x y:Int):ltL [y] [x]=decide (y < x):=by
 show(if y=x then false else decide (y < x))=_;split
 ·rename_i e;simp[e]
 ·rfl
noncomputable def Qb(H:Hp):V->ZLi
 | .int n=>[n]
 | .ref b=>match H b with
  | some (.tup g)=>g.map Qg
  | _=>[]
 | _=>[]
theorem Tk{K}{l}{H}:∀{ds:List D} {i:List ZLi} {j:List V},LU ds=some i->Aq K l H ds j->j.map (Qb H)=i/\∀v∈j,∃b,v=.ref b/\H b=some (.tup ((Qb H v).map V.int))/\Qb H v≠[]
 | [],_,_,h,.nil=>by cases h;exact⟨rfl,λv g=>nomatch g⟩
 | .tup G :: ds,i,_,h,.cons r t=>by
  unfold LU at h;split at h
  ·rename_i n ns m o s
   cases h;obtain⟨A,B⟩:=Tk s t
   cases r with
   | @tup _ b ws hb C=>
    have:=GK o;subst this;have:=C.ints;subst this
    have e:Qb H (.ref b)=n :: ns:=by
     show(match H b with | some (.tup E)=>E.map Qg | _=>[])=_;rw[hb];exact NS _
    refine⟨by rw[Ao,e,A],λv g=>?_⟩
    rcases An.mp g with g | g
    ·subst g
     refine⟨b,rfl,?_,?_⟩
     ·rw[e];exact hb
     ·rw[e];exact List.cons_ne_nil _ _
    ·exact B v g
  ·cases h
 | .non :: _,_,_,h,_=>by cases h
 | .bl _ :: _,_,_,h,_=>by cases h
 | .int _ :: _,_,_,h,_=>by cases h
 | .str _ :: _,_,_,h,_=>by cases h
 | .fro _ :: _,_,_,h,_=>by cases h
 | .ref _ :: _,_,_,h,_=>by cases h
 | .exc _ :: _,_,_,h,_=>by cases h
theorem Tq{K}{i}{H}:∀{g:List V},(∀v∈g,∃b,v=.ref b/\H b=some (.tup ((Qb H v).map V.int))/\Qb H v≠[])->Aq K i H ((g.map (Qb H)).map LH) g
 | [],_=>.nil
 | v :: g,h=>by
  obtain⟨b,e,hb,_⟩:=h v Aa;refine .cons ?_ (Tq λu j=>h u (AM _ j));subst e;exact .tup hb (Aq.of_ints _)
theorem Zd{K:AC}{s:List AJ}{H:Hp}{ds es:List D}{j:List V}(h:LS ds=some es)(r:Aq K s H ds j) :
  ∃f:V->ZLi,RZ H f j/\∀out,out.Perm j->out.Pairwise (λx y=>ltL (f y) (f x)=false)->Aq K s H es out:=by
 unfold LS at h;split at h
 ·rename_i ns B
  cases h;have:=GK B;subst this;have:=r.ints;subst this;refine⟨λv=>[Qg v],.inl λv g=>?_,λout i l=>?_⟩
  ·obtain⟨n,_,rfl⟩:=Be.mp g
   exact⟨n,rfl,rfl⟩
  ·have C:out=(out.map Qg).map V.int:=by
    rw[BZ]
    conv=>lhs;rw[<-WG out]
    refine Cu λv g=>?_
    obtain⟨n,_,rfl⟩:=Be.mp (i.mem_iff.mp g);rfl
   have m:out.map Qg=KQ ns:=by
    have E:(out.map Qg).Perm (KQ ns):=by
     have:=i.map Qg;rw[NS]at this;exact this.trans (VP ns).symm
    refine E.eq_of_pairwise (λa b _ _ G I=>Int.le_antisymm G I) ?_ (Ze ns);rw[ED]
    refine l.imp λ{x y} o=>?_
    rw[eM]at o;simp at o;exact o
   rw[C,m];exact Aq.of_ints _
 ·split at h
  ·rename_i rs J
   cases h;obtain⟨L,A⟩:=Tk J r;refine⟨Qb H,.inr A,λout i l=>?_⟩
   have m:out.map (Qb H)=KR rs:=by
    refine Q7 ?_ (ED.mpr l) (MZ rs);have:=i.map (Qb H);rw[L]at this;exact this.trans (Fh rs).symm
   rw[<-m]
   exact Tq λv g=>A v (i.mem_iff.mp g)
  ·cases h
theorem Pu{K}{j}{H}:∀g:List Key,Aq K j H (g.map ak) (g.map kV)
 | []=>.nil
 | .inl i :: g=>.cons (.int i) (Pu g)
 | .inr x :: g=>.cons (.str x) (Pu g)
theorem Pt{K}{g}{H}:∀{j:List (Key×D)} {l:List (Key×V)},KVR K g H j l->Aq K g H (j.map λx=>ak x.1) (l.map λx=>kV x.1)
 | _,_,.nil=>.nil
 | (k,_) :: _,(k',_) :: _,.cons r t=>by
  have e:k=k':=r.1;subst e
  cases k with
  | inl i=>exact .cons (.int i) (Pt t)
  | inr x=>exact .cons (.str x) (Pt t)
theorem T6{K}{g}{H}:∀{i:List (List Key×D)} {j:List (List Key×V)} {bs:List AJ},KVR K g H i j->Gc (λ(k:List Key×V) b=>H b=some (.tup (k.1.map kV))) j bs->Aq K g H (i.map λx=>.tup (x.1.map ak)) (bs.map V.ref)
 | _,_,_,.nil,.nil=>.nil
 | (k,_) :: _,(k',_) :: _,_,.cons r t,.cons l m=>by
  have e:k=k':=r.1;subst e;exact .cons (.tup l (Pu k)) (T6 t m)
theorem NY(R:X.calm=true)(T:Gl X "sorted") (hm:X.mg "sorted" = none) (h:GE X E e m) (L:AO [e] X.env=(false,Bi e X.env) :: AO [] X.env:=by rfl):GE X E (.Call (.Name "sorted" p) [e] [] pos) (Gw m):=
 (Ie (YW R) T hm mf (C6 h Eu L) (by decide) (by decide) L rfl).imp<|by
 rintro σ H Q ⟨U,l,S,Y,Z,hm⟩
 refine⟨U,l,S,Y,Z,hm.seq λd S1 hm j s x l1 N r1=>?_⟩
 cases g:JR d S1 with
 | none=>rw[g]at hm;exact hm.elim
 | some O=>
  rw[g]at hm;dsimp only at hm
  cases B:LS O with
  | none=>rw[B]at hm;exact hm.elim
  | some P=>
   rw[B]at hm
   have fin:∀i:List V,Aq X.K j s P i->∀q,s q=none->Q (.ref q) (upd s q (.lst i)):=λi A q g=>by
    have le:Le X.K j s (j++[q]) (upd s q (.lst i)):=Le.alloc g;obtain⟨s4,l4,u5⟩:=N.alloc (ho:=.lst i) (o:=.lst P) g ⟨_,BU,A.mono le⟩;exact hm _ _ _ (l1.trans l4) s4 (.ref u5)
   have out:∀i,Aq X.K j s O i->∃f:V->ZLi,RZ s f i/\∀out,out.Perm i->out.Pairwise (λx y=>ltL (f y) (f x)=false)->∀l,s l=none->Q (.ref l) (upd s l (.lst out)):=λi A=>by
    obtain⟨f,k1,k2⟩:=Zd B A;exact⟨f,k1,λout po so=>fin out (k2 out po so)⟩
   cases r1 with
   | fro G I=>cases g;exact⟨_,rfl,.inl ⟨_,.inl G.sq,out _ I⟩⟩
   | tup G I=>cases g;exact⟨_,rfl,.inl ⟨_,.inr (.inl (.inl G)),out _ I⟩⟩
   | @ref n a hn=>
    obtain⟨o,ho,J⟩:=N.there hn;unfold JR at g;simp only[ho]at g
    cases o with
    | lst ys=>cases g;obtain⟨i,e,A⟩:=J;exact⟨_,rfl,.inl ⟨i,.inl (.inl (.inl e)),out _ A⟩⟩
    | dK m8=>cases g;obtain⟨i,e,A⟩:=J;exact⟨_,rfl,.inr (.inl ⟨i,e,out _ (Pt A)⟩)⟩
    | dT m8=>cases g;obtain⟨i,e,A⟩:=J;exact⟨_,rfl,.inr (.inr ⟨i,e,λbs hb=>out _ (T6 A hb)⟩)⟩
    | ins C fs=>cases g
    | fK _=>cases g
    | fT _=>cases g
    | mem _=>cases g
   | _=>cases g
end
open PySem PySem.Spec PyProof.Rows
theorem av{K}{t}(h:∀A∈["NoneType", "bool", "int", "str", "tuple", "list", "dict"],BH K (.type A) (.type t)=fu t A):∀A b,isB t A=some b->BH K (.type A) (.type t)=some b:=λA b e=>by
 unfold isB at e;split at e
 ·rename_i g
  rw[h A (by simpa using g)];exact e
 ·cases e
theorem eS{K}:∀A b,isB "int" A=some b->BH K (.type A) (.type "int")=some b:=av λA h=>by
 simp only[An,Di,or_false]at h
 rcases h with rfl | rfl | rfl | rfl | rfl | rfl | rfl <;> kernel_rfl
theorem aw{K}:∀A b,isB "bool" A=some b->BH K (.type A) (.type "bool")=some b:=av λA h=>by
 simp only[An,Di,or_false]at h
 rcases h with rfl | rfl | rfl | rfl | rfl | rfl | rfl <;> kernel_rfl
noncomputable def isV(A:String):Option Bool:=if A = "NoneType" then some false else none
theorem jQ{K}:∀A b,isV A=some b->BH K (.type A) (.type "ValueError")=some b:=λA b e=>by
 unfold isV at e;split at e
 ·rename_i g
  subst g;cases e
  kernel_rfl
 ·cases e
theorem jR{K}{C}(h:∀A∈["NoneType", "bool", "int", "str", "tuple", "list", "dict"],BH K (.type A) (.ref C)=some false):∀A b,isN A=some b->BH K (.type A) (.ref C)=some b:=λA b e=>by
 unfold isN at e;split at e
 ·rename_i g
  cases e;exact h A (by simpa using g)
 ·cases e
theorem eR{K}{C}(i:(CW K C).isSome=true)(j:KD K (.ref C)=some (.type "type")):∀A∈["NoneType", "bool", "int", "str", "tuple", "list", "dict"],BH K (.type A) (.ref C)=some false:=λA h=>by
 have g:∀A,LL K (.type A) (.ref C)=some false->BH K (.type A) (.ref C)=some false:=λA e=>by
  unfold BH PySem.W.kitCls;rw[qY (by simp)];dsimp only;rw[qX (by rw[i,j];rfl)];exact e
 refine g A ?_;simp only[An,Di,or_false]at h
 rcases h with rfl | rfl | rfl | rfl | rfl | rfl | rfl <;> kernel_rfl
noncomputable def Zc(K:AC):Sp:=λg H Q _=>∃(a:AJ) (ns:ZLi),g=[.ref a]/\Qq K H a (ns.map V.int)/\ns.length<=63/\∀i,Q (.bl true) i
theorem ah{P}{w}{K}{g}{base}{k}{l}{fd}{f}(F:D0 P w K g base (CXG P w) k l fd ["script"] (spM K 1 f))
  (h:∀ns:ZLi,ns.length<=63->∃m,f [.fro (ns.map D.int)] []=.ok (.bl true) m):D0 P w K g base (CXG P w) k l fd ["script"] (Zc K):=F.imp<|by
 rintro J H Q E ⟨a,ns,e,s,A,q⟩
 subst e;obtain⟨m,e⟩:=h ns A;refine⟨[],[.fro (ns.map D.int)],[],rfl,.cons (.fro s (Aq.of_ints ns)) .nil,⟨rfl,λi j a B=>by simp at B,λn o a C=>by simp at C⟩,?_⟩;rw[e]
 exact λG I x _ _ r=>by cases r;exact q I
theorem jh{K:AC}{H:Hp}{a:AJ}{ns:ZLi}(g:fN H)(i:SqL K H a (ns.map V.int)):Qq K H a (ns.map V.int):=by
 rcases i with(h | h) | h
 ·rcases g a with z | ⟨o,j,z⟩ <;> rw[z]at h <;> cases h
 ·exact .inl h
 ·exact .inr h
theorem QA{K}{C}{v}{b}(h:Hu K C v=some b):(CW K C).isSome=true:=by
 obtain⟨g,a,_⟩:=Rn.mp h;rw[a];rfl
theorem jt(h:CXG P w [] H s (λ_ _ _=>False) e s'):False:=by
 obtain⟨_,_,_,_,_,_,_,_,_,z⟩:=h;exact z
open PySem
noncomputable def gF(I:Lo->Sto->Prop)(R:Fl->Sto->Prop)(f:Fl)(S:Sto):Prop:=match f with
 | .nx e=>I e S
 | .ct e=>I e S
 | .bk e=>R (.nx e) S
 | .rt d=>R (.rt d) S
 | .ex c e=>R (.ex c e) S
theorem eh(I:Nat->Lo->Sto->Prop)(R:Fl->Sto->Prop)(l:∀i e S,I i e S->v S=some xs)
  (step:∀i d e S,xs[i]?=some d->I i e S->∃e1 S1,g d e S=.ok e1 S1/\∃f S2,b e1 S1=.ok f S2/\gF (I (i+1)) R f S2)
  (fin:∀e S,I xs.length e S->R (.nx e) S):∀(k i:Nat) (e:Lo) (S:Sto),I i e S->i<=xs.length->xs.length<=i+k->∃f S',Gk v g b k i e S=.ok f S'/\R f S':=by
 intro k
 induction k with
 | zero=>
  intro i e S h s A
  have:i=xs.length:=by lia
  subst this;refine⟨.nx e,S,?_,fin e S h⟩;unfold Gk;rw[l _ e S h];simp
 | succ k m=>
  intro i e S h s A;unfold Gk;rw[l _ e S h];dsimp only
  by_cases B:i < xs.length
  ·have o:xs[i]?=some xs[i]:=by simp[B]
   rw[o];dsimp only;obtain⟨e1,S1,C,f,S2,E,t⟩:=step i _ e S o h;rw[C];dsimp only[Res.bind];rw[E];dsimp only[Res.bind]
   cases f with
   | nx j=>exact m (i+1) j S2 t (by lia) (by lia)
   | ct j=>exact m (i+1) j S2 t (by lia) (by lia)
   | bk j=>exact⟨_,_,rfl,t⟩
   | rt d=>exact⟨_,_,rfl,t⟩
   | ex c j=>exact⟨_,_,rfl,t⟩
  ·have:i=xs.length:=by lia
   subst this;rw[show xs[xs.length]?=none by simp];exact⟨.nx e,S,rfl,fin e S h⟩
theorem bO(I:Nat->Lo->Sto->Prop)(R:Fl->Sto->Prop)(j:I 0 e S)(l:∀i e S,I i e S->v S=some xs)
  (step:∀i d e S,xs[i]?=some d->I i e S->∃e1 S1,g d e S=.ok e1 S1/\∃f S2,b e1 S1=.ok f S2/\gF (I (i+1)) R f S2)
  (fin:∀e S,I xs.length e S->R (.nx e) S):∃f S',Gk v g b (Cg v S) 0 e S=.ok f S'/\R f S':=by
 have m:Cg v S=xs.length:=by unfold Cg;rw[l 0 e S j]
 rw[m];exact eh I R l step fin _ _ _ _ j (Eg _) (by lia)
theorem bi(I:Nat->Lo->Sto->List D->Prop)(l:∀i e S j,I i e S j->v S=some xs)
  (step:∀i d e S j,xs[i]?=some d->I i e S j->j.length < sizeLine/\∃e1 S1,g d e S=.ok e1 S1/\∃b S2,c e1 S1=.ok b S2/\((b=true/\∃y S3,m e1 S2=.ok y S3/\I (i+1) e1 S3 (j++[y]))∨(b=false/\I (i+1) e1 S2 j))) :
  ∀(k i:Nat) (e:Lo) (S:Sto) (j:List D),I i e S j->i<=xs.length->xs.length<=i+k->∃r o,E0 v g c m k i e S j=.ok r o/\∃B,I xs.length B o r:=by
 intro k
 induction k with
 | zero=>
  intro i e S j h C E
  have:i=xs.length:=by lia
  subst this;refine⟨j,S,?_,e,h⟩;unfold E0;rw[l _ e S j h];simp
 | succ k s=>
  intro i e S j h C E;unfold E0;rw[l _ e S j h];dsimp only
  by_cases G:i < xs.length
  ·have A:xs[i]?=some xs[i]:=by simp[G]
   rw[A];dsimp only;obtain⟨H,e1,S1,J,b,S2,L,t⟩:=step i _ e S j A h;rw[qX H,J];dsimp only[okR,Res.bind];rw[L];dsimp only[okR,Res.bind]
   rcases t with⟨rfl,y,S3,N,t⟩ | ⟨rfl,t⟩
   ·rw[qX rfl,N]
    exact s (i+1) e1 S3 _ t (by lia) (by lia)
   ·rw[qY Ac]
    exact s (i+1) e1 S2 j t (by lia) (by lia)
  ·have:i=xs.length:=by lia
   subst this;rw[show xs[xs.length]?=none by simp];exact⟨j,S,rfl,e,h⟩
theorem XB(I:Nat->Lo->Sto->List D->Prop)(l:I 0 e S [])(o:∀i e S j,I i e S j->v S=some xs)
  (step:∀i d e S j,xs[i]?=some d->I i e S j->j.length < sizeLine/\∃e1 S1,g d e S=.ok e1 S1/\∃b S2,c e1 S1=.ok b S2/\((b=true/\∃y S3,m e1 S2=.ok y S3/\I (i+1) e1 S3 (j++[y]))∨(b=false/\I (i+1) e1 S2 j))) :
  ∃r s,E0 v g c m (Cg v S) 0 e S []=.ok r s/\∃A,I xs.length A s r:=by
 have B:Cg v S=xs.length:=by unfold Cg;rw[o 0 e S [] l]
 rw[B];exact bi I o step _ _ _ _ _ l (Eg _) (by lia)
theorem jH(h:-1000000<=j):-(2 ^ 62)<=j:=kX (by decide) h
theorem jU{j:Int}(h:j<=1000000):j < 2 ^ 62:=Y4 h (by decide)
theorem a9{ml:ML}{e:Lo}{S S1:Sto}{j:Int}(h:ml e S=.ok [.int j] S1)(g:-1000000<=j)(i:j<=1000000):iR1 ml e S=.ok (He (HI 0 j.toNat)) S1:=by
 unfold iR1;rw[h];dsimp only[Res.bind];rw[qX ⟨jH g,jU i⟩]
theorem jS{ml:ML}{e:Lo}{S S1:Sto}{i j:Int}(h:ml e S=.ok [.int i,.int j] S1)(g:-1000000<=i)(l:i<=1000000)(m:-1000000<=j)(o:j<=1000000):iR2 ml e S=.ok (He (HI i (j - i).toNat)) S1:=by
 unfold iR2;rw[h];dsimp only[Res.bind];rw[qX ⟨jH g,jU l,jH m,jU o⟩]
theorem Xt(lo:Int)(n:Nat):(HI lo n).length=n:=by simp[HI]
theorem Zm{lo:Int}{n i:Nat}{d:D}(h:(HI lo n)[i]?=some d):i < n/\d=.int (lo+i):=by
 rw[Q9]at h;split at h
 ·rename_i g
  cases h;exact⟨g,rfl⟩
 ·cases h
theorem lj(h:-1000000<=j)(g:j<=1000000):V9 i j:=.inr ⟨Int.lt_of_lt_of_le (by decide) h,Y4 g (by decide)⟩
theorem eG(h:-1000000<=j)(g:j<=1000000):eI (.int i) (.int j) S=.ok (.int (i * j)) S:=by
 show(if V9 i j then _ else _)=_;rw[qX (lj h g)]
theorem bU(h:0 < j)(g:j<=1000000):FZ (.int i) (.int j) S=.ok (.int (i / j)) S:=by
 show(if bz i j then _ else _)=_;rw[qX ⟨h,by lia⟩]
theorem Wo(h:0 < j):IH (.int i) (.int j) S=.ok (.int (i % j)) S:=by
 show(if 0 < j then _ else _)=_;rw[qX h]
theorem D6(g:ma e S=.ok x S1)(hb:i e S1=.ok y S2)(j:f x y S2=.ok d S3):m2 f ma i e S=.ok d S3:=by
 unfold m2;rw[g];dsimp only[Res.bind];rw[hb];dsimp only[Res.bind];rw[j];rfl
theorem JI(h:m e S=.ok d S1):B5 i m e S=.ok (.nx (e.set i (some d))) S1:=by
 unfold B5 iH;rw[h];rfl
theorem NP(h:m e S=.ok d S1):DU m e S=.ok (.rt d) S1:=by
 unfold DU;rw[h];rfl
theorem Sg(h:m e S=.ok d S1):Ic m e S=.ok (.nx e) S1:=by
 unfold Ic;rw[h];rfl
theorem Px(h:t e S=.ok c S1):sIf t a b e S=if c=true then a e S1 else b e S1:=by
 unfold sIf;rw[h];rfl
theorem Se(h:m e S=.ok v S1):Ln m g b e S=Gk v g b (Cg v S1) 0 e S1:=by
 unfold Ln;rw[h];rfl
theorem Mt(h:m e S=.ok ds S1)(g:ds.length=n):CM n f m e S=f ds S1:=by
 unfold CM;rw[h];dsimp only[Res.bind];rw[qX g]
theorem DX(h:a e S=.ok (.nx e1) S1):BP a b e S=b e1 S1:=by unfold BP;rw[h];rfl
theorem Zi(h:a e S=.ok (.rt d) S1):BP a b e S=.ok (.rt d) S1:=by unfold BP;rw[h];rfl
theorem VV(h:a e S=.ok (.ex c e1) S1):BP a b e S=.ok (.ex c e1) S1:=by unfold BP;rw[h];rfl
theorem SH(h:g (ID n ds) S=.ok (.rt d) S1):FT n g ds S=.ok d S1:=by unfold FT;rw[h];rfl
theorem iI(h:g (ID n ds) S=.ok (.nx e) S1):FT n g ds S=.ok .non S1:=by unfold FT;rw[h];rfl
theorem iK(h:g (ID n ds) S=.ok (.ex c e) S1):FT n g ds S=.err c S1:=by unfold FT;rw[h];rfl
noncomputable def Keeps(S g:Sto):Prop:=S.length<=g.length/\∀j,j < S.length->g[j]?=S[j]?
theorem Keeps.refl(S:Sto):Keeps S S:=⟨AN _,λ_ _=>rfl⟩
theorem Keeps.trans(a:Keeps S S1)(b:Keeps S1 S2):Keeps S S2:=⟨Ae a.1 b.1,λj h=>(b.2 j (AY h a.1)).trans (a.2 j h)⟩
theorem Keeps.app(S:Sto)(G:Sto):Keeps S (S++G):=⟨by simp,λj h=>Af h⟩
theorem Keeps.set(a:Keeps S S1)(h:S.length<=m)(o:Ob):Keeps S (S1.set m o):=⟨by simpa using a.1,λj g=>by rw[BF (by lia)];exact a.2 j g⟩
theorem Keeps.at{S S1:Sto}(a:Keeps S S1){j:Nat}{o:Ob}(h:S[j]?=some o):S1[j]?=some o:=by
 rw[a.2 j (AI.mp h).1];exact h
theorem V0(g:mo e S=.ok (.ref n) S1)(i:S1[n]?=some (.lst xs))(j:ma e S1=.ok y S2)(l:S2[n]?=some (.lst xs2))(m:xs2.length < sizeLine) :
  NU mo ma e S=.ok .non (S2.set n (.lst (xs2++[y]))):=by
 unfold NU;rw[g];dsimp only[Res.bind];rw[i];dsimp only;rw[j];dsimp only[Res.bind];rw[l];dsimp only;rw[qX m]
theorem IX(h:S[n]?=some (.lst xs)):Jr (.ref n) S=some xs:=by
 unfold Jr Hd;dsimp only;rw[h]
theorem Py(h:m e S=.ok (.ref n) S1)(g:S1[n]?=some (.lst xs)):JS m e S=.ok (Jr (.ref n)) S1:=by
 unfold JS;rw[h];dsimp only[Res.bind];rw[IX g]
theorem az(h:m e S=.ok (.tup xs) S1):JS m e S=.ok (He xs) S1:=by
 unfold JS;rw[h];rfl
theorem Vd(h:ml e S=.ok ds S1):Ha ml e S=.ok (.ref S1.length) (S1++[.lst ds]):=by
 unfold Ha;rw[h];rfl
theorem Fv(S:Sto)(o:Ob):(S++[o])[S.length]?=some o:=by simp
theorem Eo(h:S[n]?=some (.lst ds)):IE (.ref n) S=some ds:=by
 unfold IE;dsimp only;rw[h]
theorem Pw(h:S[n]?=some (.lst ds)):JR (.ref n) S=some ds:=by
 unfold JR;dsimp only;rw[h]
theorem NK(h:m e S=.ok d S1)(hi:JR d S1=some ds)(g:LS ds=some es):Gw m e S=.ok (.ref S1.length) (S1++[.lst es]):=by
 unfold Gw;rw[h];dsimp only[Res.bind];rw[hi];dsimp only;rw[g]
theorem MY(h:m e S=.ok d S1)(g:IE d S1=some ds):Gj m e S=.ok (.tup ds) S1:=by
 unfold Gj;rw[h];dsimp only[Res.bind];rw[g]
theorem aa(h:m e S=.ok d S1)(g:IE d S1=some ds):LJ m e S=.ok (.int ds.length) S1:=by
 unfold LJ;rw[h];dsimp only[Res.bind];rw[g]
theorem SA(g:mv e S=.ok v S1)(ho:mo e S1=.ok (.ref n) S2)(i:S2[n]?=some (.ins C fs))(j:fs.length < 1000) :
  Q8 C f mo mv e S=.ok (.nx e) (S2.set n (.ins C (OI f v fs))):=by
 unfold Q8;rw[g];dsimp only[Res.lift];rw[ho];dsimp only[Res.lift];rw[i];dsimp only;rw[qX ⟨rfl,j⟩]
theorem bQ(h:m e S=.ok (.ref n) S1)(g:S1[n]?=some (.ins C fs))(i:fs.lookup f=some v):Qi C f m e S=.ok v S1:=by
 unfold Qi;rw[h];dsimp only[Res.bind];rw[g];dsimp only;rw[qX rfl,i]
theorem eK(h:ml e S=.ok ds S1)(g:ds.length+1=n)(i:f (.ref S1.length :: ds) (S1++[.ins C []])=.ok .non S2):RG C n f ml e S=.ok (.ref S1.length) S2:=by
 unfold RG;rw[h];dsimp only[Res.bind];rw[qX g,i]
theorem Dp(h:m e S=.ok d S1)(g:r e S1=.ok ds S2):Am m r e S=.ok (d :: ds) S2:=by
 unfold Am;rw[h];dsimp only[Res.bind];rw[g]
theorem Si(h:i e S=.ok v S1):Ho n i g c m e S=E0 v g c m (Cg v S1) 0 (A7 n none++e) S1 []:=by
 unfold Ho;rw[h];rfl
theorem UT(h:m e S=.ok (.bl b) S1):mB m e S=.ok b S1:=by
 unfold mB;rw[h];rfl
theorem fq(i:ma e S=.ok x S1)(hb:j e S1=.ok y S2)(l:f x y S2=.ok (.bl true) S3)(m:o e S3=.ok w s)(A:g y w s=.ok d S5):m3 f g ma j o e S=.ok d S5:=by
 unfold m3;rw[i];dsimp only[Res.bind];rw[hb];dsimp only[Res.bind];rw[l];dsimp only[Res.bind,okR];rw[m];dsimp only[Res.bind];rw[A]
theorem ll(i:ma e S=.ok x S1)(hb:j e S1=.ok y S2)(l:f x y S2=.ok (.bl false) S3):m3 f g ma j m e S=.ok (.bl false) S3:=by
 unfold m3;rw[i];dsimp only[Res.bind];rw[hb];dsimp only[Res.bind];rw[l];rfl
theorem ag(h:decide (i<=j)=b):leD (.int i) (.int j) S=.ok (.bl b) S:=by subst h;rfl
theorem jF(h:decide (i < j)=b):ltD (.int i) (.int j) S=.ok (.bl b) S:=by subst h;rfl
theorem jg(h:decide (j<=i)=b):geD (.int i) (.int j) S=.ok (.bl b) S:=by subst h;rfl
theorem jp(h:decide (i=j)=b):eqD false (.int i) (.int j) S=.ok (.bl b) S:=by
 subst h;show Res.ok (D.bl (i==j)) S=_;rfl
theorem aJ(h:m e S=.ok b S1):Kd m e S=.ok (!b) S1:=by
 unfold Kd;rw[h];rfl
theorem ZU(h:ml e S=.ok ds S1)(g:ds.length<=1000):Kc ml e S=.ok (.tup ds) S1:=by
 unfold Kc;rw[h];dsimp only[Res.bind];rw[qX (Ae g (by decide))]
theorem lw(h:m e S=.ok d S1)(i:tyD d S1=some T)(hb:g T=some b):mIs g tabC m e S=.ok (.bl b) S1:=by
 unfold mIs;rw[h];dsimp only[Res.bind]
 cases d with
 | exc C=>cases i
 | _=>dsimp only;rw[i];dsimp only;rw[hb]
theorem Z9(h:g e S=.ok true S1):mOr g i e S=.ok true S1:=by
 unfold mOr;rw[h];rfl
theorem SJ(h:g e S=.ok false S1):mOr g i e S=i e S1:=by
 unfold mOr;rw[h];rfl
theorem fG(h:g e S=.ok true S1):ON g i e S=i e S1:=by
 unfold ON;rw[h];rfl
theorem fF(h:g e S=.ok false S1):ON g i e S=.ok false S1:=by
 unfold ON;rw[h];rfl
theorem fh(h:m e S=.ok d S1)(g:IE d S1=some ds):Mj m e S=.ok ds S1:=by
 unfold Mj;rw[h];dsimp only[Res.bind];rw[g]
theorem iM(h:ml e S=.ok ds S1)(g:f ds S1=.ok d S2):mQ f ml e S=.ok d S2:=by
 unfold mQ;rw[h];dsimp only[Res.bind];rw[g];rfl
theorem aY(h:S[n]?=some (.lst ds)):SW (.ref n) S=some ds:=by
 unfold SW;dsimp only;rw[h]
open PySem PySem.Spec PyProof.Rows
noncomputable def tCs(g:List V):TA:=λ_ H Q=>Q g H
section
variable{X:Cx}{E:EW}{e:Expr}{es:List Expr}{p pos p2:Pos}{x1:Nat}{m:ME}{Cs:List AJ}{tabC:AJ->Option Bool}
theorem lO:PA X [] (tCs []):=Eu
theorem il(h:PE X e (tC c))(g:PA X es (tCs i))(j:AO (e :: es) X.env=(false,Bi e X.env) :: AO es X.env:=by rfl):PA X (e :: es) (tCs (c :: i)):=C6 h g j
noncomputable def rIsT(K:AC)(Cs:List AJ):List V->Hp->VK->Prop:=λi H Q=>
 ∃a o u C b g,i=[.ref a,.ref g]/\H a=some (.frz o u)/\(V5 o (C % M64)/\QF C H o.dict)/\XIs K (C % M64)/\H g=some (.tup (Cs.map V.ref))/\DV K (.ref (C % M64)) (Cs.map Ai)=some b/\Q (.bl b) H
theorem Q1:∀{l:List AJ} {g:List AD},Bb (l.map V.ref) g->g=l.map Ai
 | [],_,.nil=>rfl
 | a :: l,_,.cons r t=>by rw[Q1 t,show _=Ai a from r];rfl
theorem bq:GR X (.builtin "isinstance") (rIsT X.K Cs):=by
 intro T s U H Y Z Q I r h;obtain⟨a,o,u,C,b,j,rfl,B,l,G,L,e,q⟩:=h;obtain⟨v,w,rfl,N,O⟩:=vals2 r;cases(show v=Ai a from N);cases(show w=Ai j from O);obtain⟨g,_⟩:=(show CK X.prog X.w H s.heap a (.frz o u)from I.hok a _ B);obtain⟨_,is,P,⟨cl,dd,dt,sl⟩,R,i,n,A⟩:=(show CK X.prog X.w H s.heap j (.tup (Cs.map V.ref))from I.hok j _ L);dsimp only at i A;subst i A;rw[<-Q1 P]at e;obtain⟨S,J,-⟩:=l.1.inst I.hok g l.2
 exact PySem.W.kia_tup (T7 G) I.kIn ⟨o,S,J⟩ R e (λz=>nomatch z) λtk=>⟨.bl b,H,I.tok tk,rfl,q⟩
noncomputable def aT(tabC:AJ->Option Bool)(m:ME):ME:=λe S=>(m e S).bind λd g=>match d with
 | .exc C=>match tabC (C % M64)with
  | some b=>.ok (.bl b) g
  | none=>.bad
 | _=>.bad
theorem je(s:∀C b,tabC C=some b->XIs X.K C/\DV X.K (.ref C) (Cs.map Ai)=some b)(B:Cs.length<=1000)
  (G:Gl X "isinstance") (hm:X.mg "isinstance" = none) (h:GE X E e m) (I:PA X es (tCs (Cs.map V.ref)))
  (A:AO [e,.Tuple es x1 p2] X.env=(false,Bi e X.env) :: AO [.Tuple es x1 p2] X.env:=by rfl) (J:AO [.Tuple es x1 p2] X.env=(false,Bi (.Tuple es x1 p2) X.env) :: AO [] X.env:=by rfl) (L:(CN pos (AO [.Tuple es x1 p2] X.env)).any (·.1)=false:=by rfl) :
  GE X E (.Call (.Name "isinstance" p) [e,.Tuple es x1 p2] [] pos) (aT tabC m):=
 (Ie bq G hm MD (C6 h (C6 (Z2 I) Eu J) A) (by decide) (by decide) A L).imp<|by
 rintro σ H Q ⟨N,l,S,O,P,hm⟩
 refine⟨N,l,S,O,P,hm.seq λd S1 hm i H1 x R T U=>⟨by rw[AL];exact Ae B (by decide),λY Z=>?_⟩⟩
 cases d with
 | exc C=>
  dsimp only at hm
  cases hb:tabC (C % M64)with
  | none=>rw[hb]at hm;exact hm.elim
  | some b=>
   rw[hb]at hm;obtain⟨s2,j⟩:=FB (ho:=.tup (Cs.map V.ref)) T Z
   cases U with
   | @exc _ a o u g xo dc=>
    exact⟨a,o,u,C,b,Y,rfl,j.frz _ _ _ g,⟨xo,dc.mono j.frz⟩,(s _ b hb).1,BU,(s _ b hb).2,hm i _ _ (R.trans j) s2 (.bl _)⟩
 | _=>exact hm.elim
end
open PySem PySem.Spec PyProof.Rows
theorem Inv.turned2(I:Inv X A E H s)(k:∀b u,b≠e->b≠it->s.heap.get? b=some u->h'.get? b=some u)
  (i:M2 X A H e) (j:M2 X A H it) (B:s.heap.objs.size<=a) (new:CK X.prog X.w (upd H a o) h' a o):Inv X A E (upd H a o) { s with heap:=h',toks:=t' }:=by
 have l:=I.hok.fresh B
 have C:∀b u,H b=some u->b≠e/\b≠it:=λb u q=>⟨λz=>(by rw[z,i.1]at q;cases q),λz=>(by rw[z,j.1]at q;cases q)⟩
 have out:∀b:AJ,b∉[e,it]->b≠e/\b≠it:=λb hb=>⟨λz=>hb (by simp[z]),λz=>hb (by simp[z])⟩
 refine I.step (g':=s.gens) (d':=s.drawn) (ch:=[e,it]) (λb hb=>?_) (λb o _ _ g q _=>k b o (out b g).1 (out b g).2 q) (λb o _ _ g q _=>⟨o.slots,k b o (out b g).1 (out b g).2 q⟩) (λb o _ q n=>?_)
  (λb o g q=>⟨o,k b o (out b g).1 (out b g).2 q⟩) (λb G q=>by rw[A5 (BQ q l)];exact q) (λb o u q=>by rw[A5 (BQ q l)];exact q) (λb P q=>⟨#[],by rw[A5 (BQ q l),q];simp⟩) (λm hm=>?_) (λb u q=>?_) I.bare
 ·have J:b=e∨b=it:=by simpa using hb
  rcases J with z | z
  ·subst z;exact⟨i.2.2.2.1,i.2.1,i.2.2.2.2.1,i.2.2.2.2.2⟩
  ·subst z;exact⟨j.2.2.2.1,j.2.1,j.2.2.2.2.1,j.2.2.2.2.2⟩
 ·rw[A5 (Al (AY (AV q) B))];exact n
 ·obtain⟨o,L,N,O,r⟩:=hm
  exact⟨o,L,N,k _ o (B8 i.2.1) (B8 j.2.1) O,r⟩
 ·by_cases hb:b=a
  ·subst hb;rw[BU]at q;cases q;exact new
  ·rw[A5 hb]at q
   refine(I.hok b u q).stay (λc v g r=>?_) (λc r=>by rw[A5 (BQ r l)];exact r) λc G r=>by rw[A5 (BQ r l)];exact r
   have:c≠e/\c≠it:=by
    rcases g with z | z
    ·rw[z];exact C b u q
    ·exact C c _ z
   exact k c v this.1 this.2 r
noncomputable def Ite(sq:Hp->List V->Prop):It:=
 ⟨λi H=>∃g x,sq H g/\g[i]?=some x,λi H y j=>∃p x,H p=none/\y=.ref p/\j=upd H p (.tup [.int i,x])/\∀g,sq H g->g[i]?=some x,λi H=>∃g,sq H g/\g.length<=i⟩
section
variable{w:BR}{elts:List Expr}{x1:Nat}{pos:Pos}
theorem YO{X:Cx}{j:List (AJ×Obj)}{m:St}{H:Hp}{s:AG}{E:AD->AG->Prop}{sq:Hp->List V->Prop}{e it:AJ}{i:Nat}{x:V}{u:AD}{tk:Nat}{h':Bt}{tn:Nat->Bt->Prop}
  (I:Inv X j m H s) (oM:e≠it) (B:∀b∈[e,it],M2 X j H b) (le:e < s.heap.objs.size) (O:it < s.heap.objs.size) (P:RelV x u) (Q:∀xs,sq H xs->xs[i]?=some x)
  (ho:IsEnumOut h' e it ((i:Int)+1) u s.heap.objs.size) (C:h'.get? s.heap.objs.size=some { cls:=.type "tuple",data:=.seq #[.int i tk,u] }) (R:∀b o,b≠e->b≠it->s.heap.get? b=some o->h'.get? b=some o)
  (S:∀h2,Ek e h' h2->(∃old,Y3 h2 e it ((i+1:Nat):Int) old)->tn (i+1) h2) :
  AZ (AR X.prog X.w) X.A (MA (.Tuple elts x1 pos) (.ref e) (.ref s.heap.objs.size)) (λ_ G=>∃y l,Inv X j m l G/\RelV y (.ref s.heap.objs.size)/\(Ite sq).yld i H y l/\tn (i+1) G.heap/\∀b∈[e,it],l b=none) E { s with heap:=h',toks:=tk+1 }:=by
 have g:=B e (by simp);have J:=B it (by simp);have L:e≠s.heap.objs.size:=Al le;have T:it≠s.heap.objs.size:=Al O
 have new:CK X.prog X.w (upd H s.heap.objs.size (.tup [.int i,x])) h' s.heap.objs.size (.tup [.int i,x]):=
  ⟨⟨Ae (show 2<=1000 by decide) (by decide),_,C,rfl⟩,[.int i tk,u],.cons ⟨tk,rfl⟩ (.cons P .nil),_,C,rfl,_,rfl⟩
 have U:=I.turned2 (t':=tk+1) R g J (AN _) new
 refine wpAny_letOwnedTupleGo_enum (s:={ s with heap:=h',toks:=tk+1 }) ho λh2 Y Z=>?_
 have N:Ek e h' h2:=Z;have I2:=U.turned (t':=tk+1) (h':=h2) (it:=e) (λb o hb q=>(N.2 b hb).trans q) (by rw[A5 L];exact g.1) g.2.1 g.2.2.2.1 g.2.2.2.2.1 g.2.2.2.2.2;refine⟨.ref s.heap.objs.size,_,I2,rfl,⟨s.heap.objs.size,x,I.hok.fresh (AN _),rfl,rfl,Q⟩,S h2 N ⟨u,by rw[Int.natCast_add,Int.natCast_one];exact Y⟩,λb hb=>?_⟩
 have oP:b=e∨b=it:=by simpa using hb
 rcases oP with z | z
 ·rw[z,A5 L];exact g.1
 ·rw[z,A5 T];exact J.1
end
noncomputable def N3(f:Int->Int->Bool):ZLi->Option Int
 | []=>none
 | a :: r=>some (r.foldl (λm x=>if f x m=true then x else m) a)
theorem Mv(f:Int->Int->Bool)(a:Int)(r:ZLi):∀k,k<=r.length->(a :: r).getD (Ga (λi j=>f ((a :: r).getD i 0) ((a :: r).getD j 0)) k) 0=(r.take k).foldl (λm x=>if f x m=true then x else m) a
 | 0,_=>by simp[Ga]
 | k+1,h=>by
  have o:=Mv f a r k (by lia)
  have g:k < r.length:=by lia
  have s:r.take (k+1)=r.take k++[r[k]]:=by rw[CL];simp[g]
  have l:(a :: r).getD (k+1) 0=r[k]:=by simp[g]
  rw[s,Ni,<-o];show(a :: r).getD (if f ((a :: r).getD (k+1) 0) ((a :: r).getD (Ga (λi j=>f ((a :: r).getD i 0) ((a :: r).getD j 0)) k) 0)=true then k+1 else Ga (λi j=>f ((a :: r).getD i 0) ((a :: r).getD j 0)) k) 0=_;rw[l];show _=(if f r[k] _=true then r[k]else _);split
  ·exact l
  ·rfl
theorem QE(g:Nat->Nat->Bool):∀k,Ga g k<=k
 | 0=>AN _
 | k+1=>by
  show(if g (k+1) (Ga g k)=true then k+1 else Ga g k)<=k+1;have:=QE g k
  split <;> lia
noncomputable def ltZ(x m:Int):Bool:=decide (x < m)
noncomputable def gtZ(x m:Int):Bool:=decide (x > m)
theorem UL(f:Int->Int->Bool)(h:N3 f ns=some b):0 < ns.length/\ns[Ga (λi j=>f (ns.getD i 0) (ns.getD j 0)) (ns.length - 1)]?=some b:=by
 cases ns with
 | nil=>cases h
 | cons a r=>
  cases h;refine⟨by simp,?_⟩;have e:=Mv f a r r.length (AN _);rw[C5]at e;have l:=QE (λi j=>f ((a :: r).getD i 0) ((a :: r).getD j 0)) r.length;rw[<-e,show(a :: r).length - 1=r.length by simp]
  have g:Ga (λi j=>f ((a :: r).getD i 0) ((a :: r).getD j 0)) r.length < (a :: r).length:=by rw[AU];exact Nat.lt_succ_of_le l
  rw[BC g,Ed,BC g];rfl
theorem Fg{ns:ZLi}{g:List AD}(r:Bb (ns.map V.int) g){i:Nat}{v:AD}(h:g[i]?=some v):∃t,v=.int (ns.getD i 0) t:=by
 have j:i < ns.length:=by
  have:=(AI.mp h).1;have m:=r.length;rw[AL]at m
  lia
 obtain⟨u,l,o⟩:=r.get (i:=i) (x:=.int (ns.getD i 0)) (by rw[At,BC j,Ed,BC j];rfl);rw[h]at l;cases l;exact o
section
variable{X:Cx}
noncomputable def Zt(K:AC)(f:Int->Int->Bool):List V->Hp->VK->Prop:=λg H Q=>∃a ns b,g=[.ref a]/\(SqL K H a (ns.map V.int)∨SqT K H a (ns.map V.int))/\N3 f ns=some b/\Q (.int b) H
theorem Od{s:AG}{o:Obj}{h':Bt}(g:∀b u,b∉[s.heap.objs.size]->(s.heap.push o).get? b=some u->h'.get? b=some u):∀b u,s.heap.get? b=some u->h'.get? b=some u:=λb u e=>
 g b u (λhm=>zX (Ag.mp hm▸AV e) (Cf _)) (AB _ e)
theorem W2{s:AG}{o:Obj}{l:AJ}(g:l < s.heap.objs.size):∀b∈[s.heap.objs.size,l],b < (s.heap.push o).objs.size:=λb hb=>by
 rw[C8]
 have i:b=s.heap.objs.size∨b=l:=by simpa using hb
 rcases i with rfl | rfl
 ·exact Cb _
 ·exact Io g
theorem YY(R:X.calm=true):GR X (.builtin "min") (Zt X.K ltZ):=by
 intro S s T H Z us Q I r h;obtain⟨a,ns,b,rfl,sq,hb,q⟩:=h;obtain⟨u,rfl,U⟩:=vals1 r;cases U;obtain⟨p6,O⟩:=UL ltZ hb;have P:=I.ok.hd R
 have fin:∀(g:List AD) (v:AD) (m:Bt) (tk:Nat),Bb (ns.map V.int) g->g.toArray[Ga (λi j=>decide (ns.getD i 0 < ns.getD j 0)) (g.toArray.size - 1)]?=some v->(∀b o,s.heap.get? b=some o->m.get? b=some o)->EP X S T Q v { s with heap:=m,toks:=tk }:=λg v m tk l B E=>by
  have C:=l.length;rw[AL]at C;rw[Uw,Aj,<-C]at B;obtain⟨t,rfl⟩:=Fg l B;refine⟨.int b,H,I.kept E,⟨t,?_⟩,q⟩
  have e:ns.getD (Ga (λi j=>decide (ns.getD i 0 < ns.getD j 0)) (ns.length - 1)) 0=b:=by
   rw[Ed];unfold ltZ at O;rw[O];rfl
  rw[e]
 rcases sq with sq | sq
 ·obtain⟨g,l,G,Y⟩:=I.list sq
  have C:=l.length;rw[AL]at C
  have J:a < s.heap.objs.size:=by obtain⟨o,q,_⟩:=G.isList;exact AV q
  refine call_min_walk (De G.isList ?_);refine⟨_,_,_,_,_,_,_,rfl,XU (A:=X.A.in1) P _ a (Al J) g.toArray,⟨⟨_,AX _ rfl,rfl,rfl⟩,G.isList.push _⟩,W2 J,by rw[Aj];lia,fS (λi=>ns.getD i 0) (λi v L=>Fg l (by simpa using L)),λv m tk B E=>fin g v m tk l B (Od E)⟩
 ·obtain⟨g,l,G,Y⟩:=I.tuple sq
  have C:=l.length;rw[AL]at C;have N:s.heap.IsTuple a g.toArray:=G
  have J:a < s.heap.objs.size:=by obtain⟨o,q,_⟩:=N;exact AV q
  refine call_min_walk (Ir N ?_);refine⟨_,_,_,_,_,_,_,rfl,Um (A:=X.A.in1) P _ a (Al J) g.toArray,⟨⟨_,AX _ rfl,rfl,rfl⟩,N.push _⟩,W2 J,by rw[Aj];lia,fS (λi=>ns.getD i 0) (λi v L=>Fg l (by simpa using L)),λv m tk B E=>fin g v m tk l B (Od E)⟩
theorem Ya(R:X.calm=true):GR X (.builtin "max") (Zt X.K gtZ):=by
 intro S s T H Z us Q I r h;obtain⟨a,ns,b,rfl,sq,hb,q⟩:=h;obtain⟨u,rfl,U⟩:=vals1 r;cases U;obtain⟨p6,O⟩:=UL gtZ hb;have P:=I.ok.hd R
 have fin:∀(g:List AD) (v:AD) (m:Bt) (tk:Nat),Bb (ns.map V.int) g->g.toArray[Ga (λi j=>decide (ns.getD i 0 > ns.getD j 0)) (g.toArray.size - 1)]?=some v->(∀b o,s.heap.get? b=some o->m.get? b=some o)->EP X S T Q v { s with heap:=m,toks:=tk }:=λg v m tk l B E=>by
  have C:=l.length;rw[AL]at C;rw[Uw,Aj,<-C]at B;obtain⟨t,rfl⟩:=Fg l B;refine⟨.int b,H,I.kept E,⟨t,?_⟩,q⟩
  have e:ns.getD (Ga (λi j=>decide (ns.getD i 0 > ns.getD j 0)) (ns.length - 1)) 0=b:=by
   rw[Ed];unfold gtZ at O;rw[O];rfl
  rw[e]
 rcases sq with sq | sq
 ·obtain⟨g,l,G,Y⟩:=I.list sq
  have C:=l.length;rw[AL]at C
  have J:a < s.heap.objs.size:=by obtain⟨o,q,_⟩:=G.isList;exact AV q
  refine call_max_walk (De G.isList ?_);refine⟨_,_,_,_,_,_,_,rfl,XU (A:=X.A.in1) P _ a (Al J) g.toArray,⟨⟨_,AX _ rfl,rfl,rfl⟩,G.isList.push _⟩,W2 J,by rw[Aj];lia,fU (λi=>ns.getD i 0) (λi v L=>Fg l (by simpa using L)),λv m tk B E=>fin g v m tk l B (Od E)⟩
 ·obtain⟨g,l,G,Y⟩:=I.tuple sq
  have C:=l.length;rw[AL]at C;have N:s.heap.IsTuple a g.toArray:=G
  have J:a < s.heap.objs.size:=by obtain⟨o,q,_⟩:=N;exact AV q
  refine call_max_walk (Ir N ?_);refine⟨_,_,_,_,_,_,_,rfl,Um (A:=X.A.in1) P _ a (Al J) g.toArray,⟨⟨_,AX _ rfl,rfl,rfl⟩,N.push _⟩,W2 J,by rw[Aj];lia,fU (λi=>ns.getD i 0) (λi v L=>Fg l (by simpa using L)),λv m tk B E=>fin g v m tk l B (Od E)⟩
noncomputable def RX(f:Int->Int->Bool)(ds:List D)(S:Sto):Res D:=match Ez ds with
 | some ns=>match N3 f ns with
  | some b=>.ok (.int b) S
  | none=>.bad
 | none=>.bad
theorem WZ:fM X.K (Zt X.K f) (RX f):=λi H S m q o d s Q j g sq hm k=>by
 unfold RX at hm;split at hm
 ·rename_i ns l
  split at hm
  ·rename_i b hb
   cases hm;rw[GK l]at g;rw[g.ints]at sq;exact⟨q,ns,b,rfl,sq,hb,k i H _ .refl j (.int _)⟩
  ·cases hm
 ·cases hm
noncomputable abbrev aM:=RX ltZ
noncomputable abbrev aR:=RX gtZ
theorem eZ(g:X.calm=true)(i:Gl X "min") (hm:X.mg "min" = none) (h:GE X E e m) (j:AO [e] X.env=(false,Bi e X.env) :: AO [] X.env:=by rfl):GE X E (.Call (.Name "min" p) [e] [] pos) (mQ aM (Mj m)):=
 Om (YY g) WZ i hm Ow (Ww h) (by decide) (by decide) j
theorem ee(g:X.calm=true)(i:Gl X "max") (hm:X.mg "max" = none) (h:GE X E e m) (j:AO [e] X.env=(false,Bi e X.env) :: AO [] X.env:=by rfl):GE X E (.Call (.Name "max" p) [e] [] pos) (mQ aR (Mj m)):=
 Om (Ya g) WZ i hm Ox (Ww h) (by decide) (by decide) j
end
open PySem
theorem Dd{g:Type}{xs:List g}{j:Int}{x:g}(i:0<=j)(h:xs[j.toNat]?=some x):atI xs j=some x:=by
 have l:=(AI.mp h).1;unfold atI ixN;rw[qX (by omega),qX (by lia)];simpa using h
theorem Ws(g:IE d S=some ds)(i:0<=j)(h:ds[j.toNat]?=some z):ixA d (.int j) S=.ok z S:=by
 show JP (ixD d (.int j) S) _=_
 have:ixD d (.int j) S=.ok z S:=by
  unfold ixD;rw[g];dsimp only;rw[Dd i h]
 rw[this];rfl
theorem Jk{P:AJ->Prop}:∀C∈([]:List AJ),P C:=λ_ h=>zX h Di
theorem all_cons{P:AJ->Prop}{a:AJ}{l:List AJ}(h:P a)(t:∀C∈l,P C):∀C∈a :: l,P C:=λC g=>by
 rcases An.mp g with e | g
 ·rw[e];exact h
 ·exact t C g
theorem U9{P:AJ->Bool->Prop}{al ex:List AJ}(g:∀C∈al,P C true)(i:∀C∈ex,C∉al->P C false)(C:AJ)(b:Bool)(e:(if C∈al then some true else if C∈ex then some false else none)=some b):P C b:=by
 split at e
 ·cases e;exact g C ‹_›
 ·split at e
  ·cases e;exact i C ‹_› ‹_›
  ·cases e
theorem bv{K:AC}{v:AD}:DV K v []=some false:=by simp only[DV]
theorem V1{K:AC}{v t:AD}{ts:List AD}(h:BH K v t=some false):DV K v (t :: ts)=DV K v ts:=by simp only[DV,h]
theorem ls{g:Type}:∀{l:List g},l.length=1->∃x1,l=[x1]
 | [a],_=>⟨a,rfl⟩
theorem lr{i:Type}:∀{l:List i},l.length=2->∃x1 g,l=[x1,g]
 | y :: _,q=>by
  obtain⟨g,rfl⟩:=ls (cC q);exact⟨y,g,rfl⟩
theorem len3{j:Type}:∀{l:List j},l.length=3->∃x1 g i,l=[x1,g,i]
 | y :: _,q=>by
  obtain⟨g,i,rfl⟩:=lr (cC q);exact⟨y,g,i,rfl⟩
open PySem PySem.Spec PyProof.Rows
section
theorem KY{K}{i}{H}:∀{ns:ZLi} {g:List V},Aq K i H (ns.map D.int) g->g=ns.map V.int
 | [],_,.nil=>rfl
 | n :: ns,_,.cons r t=>by
  cases r;rw[KY t];rfl
end
end L2
namespace PySem
open Sem (wp)
open AutoSeq1 (wpAny_loadPart')
section
variable{w:BR}{A:BO}{E:AD->AG->Prop}{s:AG}
theorem Tw(B:Oq (.type T) "__init__" = pure (some (.builtin "object.__init__"))) (hm:Bind.madeBy (.type T)=pure (some newId)) (C:(some newId != some "object.__new__")=true) (j:(!g.isEmpty||!l.isEmpty)=true) :
  Meets (Builtin.«object.__init__» ⟨self :: g,l⟩) (λ_ R s=>s.TypeIs self T/\R (.ok (.ret .none)) s):=by
 refine Meets.of_wp λi w A R s m=>?_
 obtain⟨G,o⟩:=m;unfold Builtin.«object.__init__»;dsimp only;rw[qX j];(repeat(any_goals (first | assumption | wp_step)));exact⟨_,rfl,o⟩
theorem Vx(j:TypeCalled T newId "object.__init__") (L:(some newId != some "object.__new__")=true) (N:(!args.isEmpty||!m.isEmpty)=true)
  (O:checkTypeCall T ⟨args,m⟩=pure ()) (P:G6 newId ⟨.type T :: args,m⟩=pure ()) (C:∀obj,argsOk "object.__init__" ⟨obj :: args,m⟩) (U:entryFor table newId=some X) (g:Meets (X ⟨.type T :: args,m⟩) S)
  (h:S A.in1 (wants (λobj i=>i.TypeIs obj T/\Q obj i) E) s):AZ (AR prog w) A (call (.type T) args m) Q E s:=by
 obtain⟨c,tl,Τ⟩:=j.mro;have yS:=j.made;have qF:=j.sub;refine Fa (mT ?_);show AZ _ _ (callAny (.type T) _) _ _ _;refine AE ⟨M5 _ (by decide +kernel),codeAny_builtin F.entry_type_call ?_⟩;rw[BO.under_plain (weight_type_call_type T args m) (units_type_call_type T args m)];have h1:=j.notType;have h2:=j.canCreate;(repeat(any_goals (first | assumption | wp_step)))
 refine GY (Dg j.plain U (Su P (g prog w A.in1 _ s h))) λr i G=>?_
 cases r with
 | error e=>exact G
 | ok Y=>
  cases Y with
  | ret obj=>
   obtain⟨I,J⟩:=G;have Z:=j.init.lookup;have hbi:=j.init.bind obj;(repeat(any_goals (first | assumption | wp_step)))
   refine GY (Dg (R:=wants (λr l=>r=.none/\Q obj l) E) j.init.plain F.entry_object_init (j.init.check _ _ _ _ _ _ _ _ I (C obj) (Tw j.init.lookup j.made L N prog w A.in1 _ i ⟨I,rfl,J⟩))) λB l H=>?_
   cases B with
   | error e=>exact H
   | ok o=>
    cases o with
    | ret r=>
     obtain⟨rfl,J⟩:=H;(repeat(any_goals (first | assumption | wp_step)))
    | _=>exact H.elim
  | _=>exact G.elim
end
end PySem
namespace L2
open PySem PySem.Spec PyProof.Rows
section
variable{E:EW}{e:Expr}{pos:Pos}
theorem OQ{M}{A}{E}{s}{env}{pos}{T}{e}{g}{kws}{Q}
  (h:AZ M A (spliced (CN pos (AO (e :: g) env))) (λm i=>AZ M A (evalAll ((GZ pos (Df kws env)).map (·.2)))
   (λo j=>AZ M A (call (.type T) m (((GZ pos (Df kws env)).filterMap (·.1)).zip o)) Q E j) E i) E s)
  (B:CN pos (AO (e :: g) env)=(false,Bi e env) :: CN pos (AO g env)) (C:(CN pos (AO (e :: g) env)).any (·.1)=false)
  (G:(GZ pos (Df kws env)).all (·.1.isSome)=true) (H:(GZ pos (Df kws env)).any (·.1.isNone)=false) :
  AZ M A (cL pos (.type T) [] (CN pos (AO (e :: g) env)) (GZ pos (Df kws env))) Q E s:=by
 have I:AZ M A (evalArgs (.type T) true (CN pos (AO (e :: g) env)) (GZ pos (Df kws env))) (λa i=>AZ M A (call (.type T) ([]++a.pos) a.kw) Q E i) E s:=by
  rw[B]at h ⊢;exact evalArgs_kwB G h
 unfold cL;refine AA (Bz (BX I (λa i l=>AA (DE ?_)) λ_ _ x=>x));simp only[C,H,gb];exact AA (AE (AA (BX l (λr j J=>AA (Bz (wpAny_point (AE J)))) λ_ _ x=>x)))
end
open PySem PySem.Spec PyProof.Rows
section
noncomputable def ltT(x y:D)(S:Sto):Res D:=match x,y with
 | .tup g,.tup l=>match Ez g,Ez l with
  | some i,some j=>.ok (.bl (HT.lexLt i j)) S
  | _,_=>.bad
 | _,_=>.bad
theorem i7(J:X.A.units+64 < Dq):OpR X (BG .Lt) (rD X.K ltT):=(iu (by lia)).imp<|by
 rintro x y H Q ⟨m,S,d1,d2,d,L,o,g,i,hm,k⟩
 unfold ltT at hm;split at hm
 ·split at hm
  ·rename_i s B
   cases hm;rw[GK s]at g;rw[GK B]at i
   cases g with
   | @tup _ C N j E=>
    cases i with
    | @tup _ G O l I=>
     rw[KY E]at j;rw[KY I]at l;exact⟨C,G,_,_,rfl,rfl,.inl (.inl j),.inl (.inl l),k m H _ .refl o (.bl _)⟩
  ·cases hm
 ·cases hm
end
open PySem PySem.Spec PyProof.Rows
section
noncomputable instance(i j:Int):Decidable ((λ_ j:Int=>0<=j) i j):=inferInstanceAs (Decidable (0<=j))
end
open PySem PySem.Spec PyProof.Rows PySem.SeqAt
section
variable{P:A3}{w:BR}{K:AC}{mg:Str->Option AD}{base:Bt}
theorem Jz(g:N.Nodup:=by decide +kernel)(i:∀x∈ps,sc.names.lookup x=some .local∨sc.names.lookup x=some .cell:=by decide +kernel)(j:∀y∈sc.names,y.2≠.free:=by decide +kernel)(l:sc.kind=.function:=by rfl)(m:sc.isCoroutine=false:=by rfl)(o:sc.isGenerator=false:=by rfl)(s:N.take ps.length=ps:=by rfl):B9 N ps sc:=⟨l,m,o,g,s,i,j⟩
theorem DK{x i}{st}{f}{fd}{N ps}{k n}(F:Fun K x i st f fd)(l:B9 N ps (BA st))(C:ps.length=n){m}
  (G:∀(j:AD) (A:BO) (g:List Env) (s:AG) (H:Hp) (E:XK),Fx k (A.deeper (LY i (BA st) s.heap.objs.size f j))->Ik (Qm (CXG P w) P w K mg base N i (BA st) f j A g s H E)->(A.deeper (LY i (BA st) s.heap.objs.size f j)).units+64 < Dq->N.Nodup ->
   ∀pn o,GSs ((Qm (CXG P w) P w K mg base N i (BA st) f j A g s H E).w' pn o) o (GB st) m) :
  D0 P w K mg base (CXG P w) (k+1) f fd ps (spM K n (FT N.length m)):=jj F l C λj A g s H E B=>G j A g s H E B ⟨rfl,rfl,rfl⟩ B.units l.nd
end
section
variable{X:Cx}{E:EW}{e:Expr}
theorem FO(i:Nat)(g:X.N.Nodup)(hi:X.N[i]?=some x:=by rfl)(j:Loc X.env.scope x:=by first | exact WD rfl | exact Sz rfl)(l:X.fn x=true∨X.env.scope.names.lookup x=some .local:=by first | exact .inl rfl | exact .inr rfl | assumption):GG X (.Name x pos) (tgN i):=eW (db g hi j l)
theorem CD(i:Nat)(j:X.N.Nodup)(l:GE X E e m)(hi:X.N[i]?=some x:=by rfl)(o:Loc X.env.scope x:=by first | exact WD rfl | exact Sz rfl)(s:EY e (some (.Name x g)) pos.line X.env=pure false:=by rfl)
  (A:X.fn x=true∨X.env.scope.names.lookup x=some .local:=by first | exact .inl rfl | exact .inr rfl | assumption):GS X E (.Assign [.Name x g] e pos) (B5 i m):=jZ j hi o l s A
end
open PySem PySem.Spec PyProof.Rows
section
noncomputable def Mz:D->D->Sto->Res D
 | .str a,.str b,S=>if a.length+b.length<=sizeLine then .ok (.str (a++b)) S else .bad
 | _,_,_=>.bad
theorem FK:OpR X (DN .Add) (rD X.K Mz):=by
 intro B s C H x y v u Q I g i h;obtain⟨j,S,a,b,d,E,l,m,o,hm,k⟩:=h;unfold Mz at hm;split at hm
 ·rename_i a b S
  split at hm
  ·rename_i A
   cases hm;cases m;cases o;obtain⟨t,rfl⟩:=g;obtain⟨G,rfl⟩:=i;exact SB.add (λJ L=>⟨.str _,H,I.tok _,⟨_,rfl⟩,k j H _ .refl l (.str _)⟩) A
  ·cases hm
 ·cases hm
noncomputable def inS(neg:Bool):D->D->Sto->Res D
 | .str c,.str x,S=>.ok (.bl (if neg then !Txt.contains x c else Dw x c)) S
 | _,_,_=>.bad
theorem aF:OpR X (BG .In) (rD X.K (inS false)):=by
 intro A s B H x y v u Q I g i h;obtain⟨j,S,a,b,d,C,l,m,o,hm,k⟩:=h;unfold inS at hm;split at hm
 ·cases hm
  cases m;cases o;obtain⟨t,rfl⟩:=g;obtain⟨E,rfl⟩:=i;exact SB.contains ⟨.bl _,H,I,rfl,k j H _ .refl l (.bl _)⟩
 ·cases hm
noncomputable def ixS:D->D->Sto->Res D
 | .str x,.int i,S=>if x.length<=sizeLine then(match atI x.cps.toList i with
  | some c=>.ok (.str ⟨#[c]⟩) S
  | none=>.bad)else .bad
 | _,_,_=>.bad
theorem aE:IxR X (rD X.K ixS):=jP.imp<|by
 rintro x y H Q ⟨g,S,a,b,d,s,i,j,l,hm,k⟩
 unfold ixS at hm;split at hm
 ·split at hm
  ·rename_i m
   split at hm
   ·rename_i c o
    cases hm;cases j;cases l;exact⟨_,_,c,rfl,rfl,m,o,k g H _ .refl i (.str _)⟩
   ·cases hm
  ·cases hm
 ·cases hm
noncomputable def Pn(m:ME):ME:=λe S=>(m e S).bind λd g=>match d with
 | .str x=>if x.length<=sizeLine then .ok (.int x.length) g else .bad
 | _=>.bad
theorem On(o:Gl X "len") (hm:X.mg "len" = none) (h:GE X E e m) (j:AO [e] X.env=(false,Bi e X.env) :: AO [] X.env:=by rfl):GE X E (.Call (.Name "len" p) [e] [] pos) (Pn m):=
 (Ie Sn o hm cN (C6 h Eu j) (by decide) (by decide) j rfl).imp<|by
 rintro N H Q ⟨s,l,S,A,B,hm⟩
 refine⟨s,l,S,A,B,hm.seq λd O g i C x G I J=>?_⟩
 cases d <;> first | exact g.elim | skip
 rename_i z;cases J;dsimp only at g;split at g
 ·rename_i L
  exact⟨z,rfl,L,g i C _ G I (.int _)⟩
 ·exact g.elim
theorem YV:GR X (.type "str") (λxs H Q=>∃i:Int,xs=[.int i]/\(if i < 0 then 0 - i else i) < 1000000/\Q (.str (toString i)) H):=by
 intro j s l H xs m Q I r h;obtain⟨i,rfl,g,q⟩:=h;obtain⟨u,rfl,t,rfl⟩:=vals1 r
 exact str_of_int_fit (N:=1000000) g (by decide) λ_=>⟨.str _,H,I.tok _,⟨_,rfl⟩,q⟩
noncomputable def Nv(m:ME):ME:=λe S=>(m e S).bind λd g=>match d with
 | .int i=>if (if i < 0 then 0 - i else i) < 1000000 then .ok (.str (toString i)) g else .bad
 | _=>.bad
theorem Mr(A:Gl X "str") (hm:X.mg "str" = none) (h:GE X E e m) (s:AO [e] X.env=(false,Bi e X.env) :: AO [] X.env:=by rfl):GE X E (.Call (.Name "str" p) [e] [] pos) (Nv m):=
 (NQ YV A hm md (C6 h Eu s) (by decide) (by decide) s rfl).imp<|by
 rintro O H Q ⟨B,l,S,C,G,hm⟩
 refine⟨B,l,S,C,G,hm.seq λd P g j I x J L N=>?_⟩
 cases d <;> first | exact g.elim | skip
 rename_i i;cases N;dsimp only at g
 by_cases o:(if i < 0 then 0 - i else i) < 1000000
 ·rw[qX o]at g
  exact⟨i,rfl,o,g j I _ J L (.str _)⟩
 ·rw[qY o]at g
  exact g.elim
theorem Yb:GR X (.type "int") (λxs H Q=>∃x n,xs=[.str x]/\LD x=some n/\x.length<=640/\Q (.int n) H):=by
 intro j s l H xs m Q I r h;obtain⟨x,n,rfl,g,i,q⟩:=h;obtain⟨u,rfl,t,rfl⟩:=vals1 r;exact PySem.W.KIN.call_text g i ⟨.int n,H,I.tok _,⟨_,rfl⟩,q⟩
noncomputable def Nx(m:ME):ME:=λe S=>(m e S).bind λd g=>match d with
 | .str x=>if x.length<=640 then(match LD x with
  | some n=>.ok (.int n) g
  | none=>.bad)else .bad
 | _=>.bad
theorem Ms(s:Gl X "int") (hm:X.mg "int" = none) (h:GE X E e m) (o:AO [e] X.env=(false,Bi e X.env) :: AO [] X.env:=by rfl):GE X E (.Call (.Name "int" p) [e] [] pos) (Nx m):=
 (NQ Yb s hm Oy (C6 h Eu o) (by decide) (by decide) o rfl).imp<|by
 rintro O H Q ⟨A,l,S,B,C,hm⟩
 refine⟨A,l,S,B,C,hm.seq λd P g i G x I J L=>?_⟩
 cases d <;> first | exact g.elim | skip
 rename_i z;cases L;dsimp only at g;split at g
 ·rename_i N
  cases j:LD z with
  | none=>rw[j]at g;exact g.elim
  | some n=>
   rw[j]at g;exact⟨z,n,rfl,j,N,g i G _ I J (.int _)⟩
 ·exact g.elim
noncomputable def Nm:List D->Option (List Str)
 | []=>some []
 | .str x :: r=>(Nm r).map (x :: ·)
 | _=>none
theorem Tc:∀{ds:List D} {ys:List Str},Nm ds=some ys->ds=ys.map D.str
 | [],ys,h=>by cases h;rfl
 | d :: r,ys,h=>by
  cases d <;> first | (cases h;done) | skip
  rename_i x;unfold Nm at h
  cases g:Nm r with
  | none=>rw[g]at h;cases h
  | some i=>
   rw[g]at h;cases h;rw[Ao,Tc g]
theorem Tb:∀ys:List Str,Nm (ys.map D.str)=some ys
 | []=>rfl
 | y :: ys=>by
  show(Nm (ys.map D.str)).map (y :: ·)=_;rw[Tb ys];rfl
theorem Tp{K}{i}{H}:∀{ys:List Str} {g:List V},Aq K i H (ys.map D.str) g->g=ys.map V.str
 | [],_,.nil=>rfl
 | y :: ys,_,.cons r t=>by
  cases r;rw[Ao,Tp t]
theorem Wl{K}{g}{H}:∀(ys:List Str),Aq K g H (ys.map D.str) (ys.map V.str)
 | []=>.nil
 | y :: ys=>.cons (.str y) (Wl ys)
theorem Q0:∀{ys:List Str} {g:List AD},Bb (ys.map V.str) g->∃l:List (Str×Tok),g=Yf l/\l.map (·.1)=ys
 | [],_,.nil=>⟨[],rfl,rfl⟩
 | y :: ys,_,.cons r t=>by
  obtain⟨l,rfl,e⟩:=Q0 t;obtain⟨tk,rfl⟩:=r;exact⟨(y,tk) :: l,rfl,by rw[Ao,e]⟩
theorem Q5:∀(l:List (Str×Tok)),Bb ((l.map (·.1)).map V.str) (Yf l)
 | []=>.nil
 | x :: l=>.cons ⟨x.2,rfl⟩ (Q5 l)
theorem eJ:MtM X "str.join" (λx j H Q=>∃g p ys,x=.str g/\j=[.ref p]/\H p=some (.lst (ys.map V.str))/\JoinOk g ys=true/\Q (.str (XV g ys)) H):=by
 intro E s G H x j v J Q I m o h;obtain⟨g,p,ys,rfl,rfl,A,i,q⟩:=h;obtain⟨t,rfl⟩:=m;obtain⟨u,rfl,B⟩:=vals1 o;cases B;obtain⟨z,L,n,r,_,e⟩:=I.lstM A;obtain⟨l,rfl,C⟩:=Q0 r
 exact SC.join ⟨_,e,rfl,n,rfl⟩ C i λN k=>⟨.str _,H,I.tok _,⟨_,rfl⟩,q⟩
noncomputable def SS(mo l:ME):ME:=λe S=>(mo e S).bind λd m=>match d with
 | .str g=>(l e m).bind λx i=>match atL x i with
  | some (_,o)=>match Nm o with
   | some j=>if JoinOk g j=true then .ok (.str (XV g j)) i else .bad
   | none=>.bad
  | none=>.bad
 | _=>.bad
theorem bI(ho:GE X E o mo)(R:GE X E e T)(U:EZ o "join" X.env (Bi o X.env)=Bi o X.env:=by rfl)
  (Y:((CN j (AO [e] X.env)).all (λx=>!x.1)&&(GZ j (Df [] X.env)).all (λx=>x.1.isSome)
    &&decide ([e].length+([]:List Nk).length+(if ([]:List Nk).isEmpty then 0 else 1) < 30))=true:=by rfl)
  (Z:(i.endLine==j.line)=true:=by rfl) (m:AO [e] X.env=(false,Bi e X.env) :: AO [] X.env:=by rfl) (ny:(CN j (AO [] X.env)).any (·.1)=false:=by rfl) :
  GE X E (.Call (.Attribute o "join" i) [e] [] j) (SS mo T):=(Z6 Rm PySem.F.slot_str_join PySem.F.type_str_join eJ ho (C6 R Eu m) U Y Z m ny).imp<|by
 rintro σ H Q ⟨ρ,l,S,L,m,hm⟩
 refine⟨ρ,l,S,L,m,hm.seq λd S1 hm s H1 v A s1 r1=>?_⟩
 cases d <;> first | exact hm.elim | skip
 rename_i B;cases r1;refine⟨rfl,s,l,S1,L.mono A,s1,(hm.later A).seq λx S2 g C H2 u l2 N r2=>?_⟩
 cases G:atL x S2 with
 | none=>rw[G]at g;exact g.elim
 | some z=>
  obtain⟨n,ds⟩:=z;rw[G]at g;dsimp only at g
  cases I:Nm ds with
  | none=>rw[I]at g;exact g.elim
  | some ys=>
   rw[I]at g;dsimp only at g;split at g
   ·rename_i J
    obtain⟨e',h4,a,vs,ea,oK,O,P⟩:=jx N r2 G;subst ea;rw[Tc I]at P;rw[Tp P]at O;exact⟨B,a,ys,rfl,rfl,O,J,g C H2 _ (A.trans l2) N (.str _)⟩
   ·exact g.elim
theorem Xj{prog}{w}{A}{E}{s}{Q}{x y}{t u}(m:(y.length==0)=false)
  (j:∀(l:List (Str×Tok)) (k:Nat),l.map (·.1)=Dk x y->Q (.ref s.heap.objs.size) { s with heap:=s.heap.push { cls:=.type "list",data:=.seq (Yf l).toArray },toks:=k })
  (hsz:x.length<=sizeLine) (o:(HA x (El x y 0 x.length (x.length+1)) y.length).length<=sizeLine) :
  AZ (AR prog w) A (call (.builtin "str.split") [.str x t,.str y u]) Q E s:=by
 cases g:(decide (x.length < y.length)||decide (Qw x < Qw y))
 ·cases i:(El x y 0 x.length (x.length+1)).isEmpty
  ·refine Ui QS (Os _ _ _) O0 (OC _ _) (meets_str_split_sep x y t u g m i hsz o) ?_
   show wants Q E _ { s with toks:=_,heap:=s.heap.push { cls:=.type "list",data:=.seq (strsFrom s.toks (HA x (El x y 0 x.length (x.length+1)) y.length)).toArray } };rw[strsFrom_eq];exact j (numbered s.toks _) _ ((numbered_texts _ _).trans ((qY (ne_true_of_eq_false g)).trans (qY (ne_true_of_eq_false i))).symm)
  ·exact Ui QS (Os _ _ _) O0 (OC _ _) (meets_str_split_not_found x y t u g m i)
    (j [(x,t)] s.toks ((qY (ne_true_of_eq_false g)).trans (qX i)).symm)
 ·exact Ui QS (Os _ _ _) O0 (OC _ _) (meets_str_split_cannot_occur x y t u g)
   (j [(x,t)] s.toks (qX g).symm)
noncomputable def Ky(x y:Str):Bool:=!(y.length==0)&&decide (x.length<=1000000)&&decide ((HA x (El x y 0 x.length (x.length+1)) y.length).length<=1000000)&&decide ((Dk x y).length<=1000000)
theorem aK:MtM X "str.split" (λx i H Q=>∃z y,x=.str z/\i=[.str y]/\Ky z y=true/\∀l,H l=none->Q (.ref l) (upd H l (.lst ((Dk z y).map V.str)))):=by
 intro J s L H x i v N Q I j m h;obtain⟨z,y,rfl,rfl,g,q⟩:=h;obtain⟨t,rfl⟩:=j;obtain⟨u,rfl,O,rfl⟩:=vals1 m;unfold Ky at g;simp only[Bl,EF,decide_eq_true_eq]at g;obtain⟨⟨⟨A,B⟩,C⟩,E⟩:=g;refine Xj A (λl k G=>?_) (Ae B (by decide)) (Ae C (by decide));refine⟨.ref s.heap.objs.size,_,I.laid (t':=k) (o:=.lst ((Dk z y).map V.str)) (λb P q=>AB _ q) (AN _) ?_,rfl,q _ (I.hok.fresh (AN _))⟩;refine⟨by rw[AL];exact Ae E (by decide),Yf l,0,?_,AX _ rfl⟩;rw[<-G];exact Q5 l
noncomputable def F9(mo i:ME):ME:=λe S=>(mo e S).bind λd j=>match d with
 | .str z=>(i e j).bind λx g=>match x with
  | .str y=>if Ky z y=true then .ok (.ref g.length) (g++[.lst ((Dk z y).map D.str)])else .bad
  | _=>.bad
 | _=>.bad
theorem Fo(ho:GE X E o mo)(L:GE X E e N)(O:EZ o "split" X.env (Bi o X.env)=Bi o X.env:=by rfl)
  (P:((CN m (AO [e] X.env)).all (λx=>!x.1)&&(GZ m (Df [] X.env)).all (λx=>x.1.isSome)
    &&decide ([e].length+([]:List Nk).length+(if ([]:List Nk).isEmpty then 0 else 1) < 30))=true:=by rfl)
  (R:(i.endLine==m.line)=true:=by rfl) (s:AO [e] X.env=(false,Bi e X.env) :: AO [] X.env:=by rfl) (T:(CN m (AO [] X.env)).any (·.1)=false:=by rfl) :
  GE X E (.Call (.Attribute o "split" i) [e] [] m) (F9 mo N):=(Z6 Rm PySem.F.slot_str_split PySem.F.type_str_split aK ho (C6 L Eu s) O P R s T).imp<|by
 rintro σ H Q ⟨U,l,S,G,s,hm⟩
 refine⟨U,l,S,G,s,hm.seq λd Y hm A H1 v B Z r1=>?_⟩
 cases d <;> first | exact hm.elim | skip
 rename_i z;cases r1;refine⟨rfl,A,l,Y,G.mono B,Z,(hm.later B).seq λx S2 g j I u l2 s2 r2=>?_⟩
 cases x <;> first | exact g.elim | skip
 rename_i y;cases r2;dsimp only at g;split at g
 ·rename_i C
  refine⟨z,y,rfl,rfl,C,λq J=>?_⟩;have le:Le X.K j I (j++[q]) (upd I q (.lst ((Dk z y).map V.str))):=Le.alloc J;obtain⟨s4,l4,u5⟩:=s2.alloc (ho:=.lst ((Dk z y).map V.str)) (o:=.lst ((Dk z y).map D.str)) J ⟨_,BU,Wl _⟩;exact g _ _ _ ((B.trans l2).trans l4) s4 (.ref u5)
 ·exact g.elim
end
noncomputable def Its(x:Str):It:=⟨λi _=>i < x.cps.size,λi H v g=>g=H/\∃c,x.cps[i]?=some c/\v=.str ⟨#[c]⟩,λi _=>x.cps.size<=i⟩
theorem ZT{P}{w}{K}{tg}(it:AJ)(x:Str)(t:Tok):UQ P w K tg (Its x) [it] it (λi h=>h.IsStrIter it "str_ascii_iterator" x t i) where
 mem:=by simp
 obj:=λi h st b hb=>by
  have e:b=it:=by simpa using hb
  subst e;obtain⟨o,ho,_,hd⟩:=st;exact⟨o,ho,λv z=>by rw[hd]at z;cases z⟩
 keep:=λi h h' st k=>by
  obtain⟨o,ho,r⟩:=st;exact⟨o,k it (by simp) _ ho,r⟩
 item:=by
  intro X hP hw hK hc i ζ s σ H E I hf st hg;subst hP hw hK;obtain⟨f0,f1,f2,f3,f4,f5⟩:=hf it (by simp);have hx:x.cps[i]?=some (x.cps[i]'hg):=Hy hg
  refine wpAny_pyNext_ascii_item st hx λh' st' sb=>?_
  have I1:Inv X ζ σ H { s with heap:=h',toks:=s.toks+1 }:=I.turned (λb o hb e=>(sb.2 b hb).trans e) f0 f1 f3 f4 f5;obtain⟨o,ho,hcl,hd⟩:=id st';exact⟨_,rfl,Wx (s:={ s with heap:=h',toks:=s.toks+1 }) (n:="str_ascii_iterator") ho hcl hd (by decide) ⟨.str ⟨#[x.cps[i]'hg]⟩,H,I1,⟨_,rfl⟩,⟨rfl,_,hx,rfl⟩,st',λb hb=>(hf b hb).1⟩⟩
 done:=by
  intro X hP hw hK hc i ζ s σ H E I hf st hg;subst hP hw hK;obtain⟨f0,f1,f2,f3,f4,f5⟩:=hf it (by simp)
  exact wpAny_pyNext_ascii_end (I.ok.hd hc) st (TJ hg) λh' eb=>⟨rfl,I.turned (t':=s.toks) (λb o hb e=>eb b o hb e) f0 f1 f3 f4 f5⟩
 self:=λ_ _ _ _ _ st h=>wpAny_pyIter_striter_ascii st h
section
noncomputable def lz(te:TE):TI:=λg H R=>te g H λx i=>∃z,x=.str z/\z.cps.all (· < 128)=true/\R (Its z) i
theorem iW(j:PE X e te):PI X E e (lz te):=by
 intro l s m H R I h
 refine thn (j l s m H _ I h) λv g ⟨x,A,i,B,z,e,C,q⟩=>?_
 subst e;obtain⟨t,rfl⟩:=B;refine wpAny_pyIter_ascii C ?_;refine⟨g.heap.objs.size,[g.heap.objs.size],_,_,A,rfl,i.kept (t':=g.toks) λb o e=>AB _ e,ZT _ z t,⟨_,AX _ rfl,rfl,rfl⟩,λb hb=>?_,q⟩
 have e:b=g.heap.objs.size:=by simpa using hb
 subst e;exact i.fpOk (AN _) (i.hok.fresh (AN _))
noncomputable def NO(z:Str):List D:=z.cps.toList.map λc=>D.str ⟨#[c]⟩
noncomputable def UA(m:ME):MI:=λe S=>(m e S).bind λd g=>match d with
 | .str z=>if z.cps.all (· < 128)=true then .ok (He (NO z)) g else .bad
 | _=>.bad
theorem bE(h:GE X E e m):GI X E tg e (UA m):=(iW h).imp<|by
 rintro σ H R ⟨C,l,S,G,I,hm⟩
 refine⟨C,l,S,G,I,hm.seq λd S1 hm o J x L N O=>?_⟩
 cases d <;> first | exact hm.elim | skip
 rename_i z;cases O;dsimp only at hm;split at hm
 ·rename_i P
  refine⟨z,rfl,P,hm o J _ L N ?_⟩;intro s H2 S2 ds i l2 Q T;cases T
  have e:(NO z)[i]?=(z.cps[i]?).map λc=>D.str ⟨#[c]⟩:=by
   unfold NO;rw[At,Ue]
  rw[e];refine⟨λA=>?_,λd g=>?_⟩
  ·show z.cps.size<=i
   by_cases U:i < z.cps.size
   ·rw[Hy U]at A;cases A
   ·omega
  ·cases j:z.cps[i]? with
   | none=>rw[j]at g;cases g
   | some c=>
    rw[j]at g;cases g;refine⟨(C7.mp j).1,λy H' ⟨Y,c',B,Z⟩=>?_⟩;subst Y;rw[j]at B;cases B;subst Z;exact⟨s,.refl,Q,.str _⟩
 ·exact hm.elim
end
end L2
namespace PySem
open Sem (wp)
open AutoSeq1 (wpAny_loadPart')
section
variable{A:BO}{s:AG}
theorem J8(l:AJ)(items:Array AD)(n:Nat)(o:Option AJ)(sl:Array (Option AD))(t:Tok) :
  Meets (Builtin.«enumerate.__new__» ⟨[.type "enumerate",.ref l],[("start",.int 2 t)]⟩) (λ_ R s=>s.heap.get? l=some { cls:=.type "list",dict:=o,data:=.seq items n,slots:=sl } /\
   R (.ok (.ret (.ref (s.heap.push { cls:=.type "list_iterator",data:=.fields #[.ref l,.int 0 0] }).objs.size)))
    { s with heap:=(s.heap.push { cls:=.type "list_iterator",data:=.fields #[.ref l,.int 0 0] }).push { cls:=.type "enumerate",data:=.fields #[.none,.bool false,.ref s.heap.objs.size,EA 2,.none,.none] } }):=
 .of_wp λm w A R s h=>by
  obtain⟨B,g,d,tk,os⟩:=s;obtain⟨i,h⟩:=h;have C:=sub_enumerate;have j:Bt.IsList (AG.heap ⟨B,g,d,tk,os⟩) l items:=⟨_,i,rfl,n,rfl⟩
  wp_walk using FU i
  refine wpAny_stack_any λst=>AE ?_
  split
  ·rename_i c _ _ _ _ _
   cases(c==E2 "enumerate")
   ·wp_walk using FU i,De j
    exact⟨_,rfl,h⟩
   ·wp_walk using FU i,De j
    exact⟨_,rfl,h⟩
  ·wp_walk using FU i,De j
   exact⟨_,rfl,h⟩
end
section
variable{A:BO}{E:AD->AG->Prop}{s:AG}
theorem Ko(C:s.heap.IsList l g)
  (h:∀h',Y3 h' (s.heap.objs.size+1) s.heap.objs.size 2 .none->h'.IsListIter s.heap.objs.size l 0->h'.objs.size=s.heap.objs.size+2 ->
   (∀b o,s.heap.get? b=some o->h'.get? b=some o)->Q (.ref (s.heap.objs.size+1)) { s with heap:=h' }) :
  AZ (AR prog w) A (call (.type "enumerate") [.ref l] [("start",.int 2 t)]) Q E s:=by
 obtain⟨⟨c,G,H,sl⟩,I,i,n,j⟩:=C
 replace i:c=.type "list":=i
 replace j:H=.seq g n:=j
 subst i j
 refine Vx F.called_enumerate (by decide) rfl (by kernel_rfl) (by kernel_rfl) (λobj=>by
  unfold argsOk;rw[signature?_of (id:="object.__init__") (n:=['_','_','t','i','n','i','_','_']) (o:=['t','c','e','j','b','o']) (by kernel_rfl) F.owner_object];kernel_rfl) F.entry_enumerate_new
  (J8 l g n G sl t) ⟨I,?_⟩
 have m:(s.heap.push { cls:=.type "list_iterator",data:=.fields #[.ref l,.int 0 0] }).objs.size=s.heap.objs.size+1:=C8 ..;show _/\_;rw[m]
 have B:Y3 ((s.heap.push { cls:=.type "list_iterator",data:=.fields #[.ref l,.int 0 0] }).push
   { cls:=.type "enumerate",data:=.fields #[.none,.bool false,.ref s.heap.objs.size,EA 2,.none,.none] }) (s.heap.objs.size+1) s.heap.objs.size 2 .none:=by
  have:=AX (s.heap.push { cls:=.type "list_iterator",data:=.fields #[.ref l,.int 0 0] })
   (o:={ cls:=.type "enumerate",data:=.fields #[.none,.bool false,.ref s.heap.objs.size,EA 2,.none,.none] }) rfl
  rw[m]at this;exact this
 refine⟨⟨_,B,rfl⟩,h _ B ⟨_,AB _ (AX _ rfl),rfl,rfl⟩ (by rw[C8,m]) λb o x=>AB _ (AB _ x)⟩
theorem Pl(G:A.handled=none)
  (B:Y3 s.heap e it j old) (m:s.heap.IsListIter it l i) (H:s.heap.IsList l g) (I:g[i]?=none)
  (J:∀h',kY it s.heap h'->Q none { s with heap:=h' }):AZ (AR prog w) A (Re (.ref e)) Q E s:=by
 have C:s.TypeIs (.ref e) "enumerate":=⟨_,B,rfl⟩;unfold Re
 refine AA (FS (Fy (name:=Fd "__next__") C Yr
  (Du Yr C F.entry_enumerate_next ?_ (F.args_enumerate_next_1 _))))
 show AZ _ _ (field (.ref e) 2 >>= _) _ _ _;refine AA (Et B rfl (x:=.ref it) rfl (AA (cA G m H I λh' x L N=>?_)));obtain⟨o,O,P⟩:=N;exact AA (Ra (T:="StopIteration") (b:=true) ⟨o,O,P⟩ isSubtype_stop (AE (J _ L)))
theorem UR(G:A.handled=none)(it l:AJ)(H:l≠it)(g:Array AD) :
  Draws prog w A it [it,l] (g.size+2) (λi v=>g[i - 2]?=some v) (λi h=>2<=i/\h.IsListIter it l (i - 2)/\h.IsList l g) where
 live:=λ_ _ st=>let ⟨o,j,_⟩:=st.2.1;⟨o,j⟩
 frame:=λ_ _ _ st m=>⟨st.1,st.2.1.at λo e=>m it (by simp) o e,let ⟨o,j,r⟩:=st.2.2;⟨o,m l (by simp) o j,r⟩⟩
 item:=λi s Q E O st I=>by
  obtain⟨P,st⟩:=st
  have B:i - 2 < g.size:=by omega
  refine wpAny_nextOf_list_item st.1 st.2 (x:=g[i - 2]) (by simp[B]) λJ L C=>?_
  refine I _ J s.toks (by simp[B]) ⟨by lia,?_,st.2.extBut C.extBut H⟩ C;rw[show i+1 - 2=i - 2+1 by lia];exact L
 done:=λs Q E st N=>cA G st.2.1 st.2.2 (by simp) N
end
end PySem
namespace L2
open PySem PySem.Spec PyProof.Rows
noncomputable def j4(sq:Hp->List V->Prop):It:=
 ⟨λi H=>∃g x,sq H g/\g[i]?=some x,λi H y j=>∃p x,H p=none/\y=.ref p/\j=upd H p (.tup [.int ((i+2:Nat):Int),x])/\∀g,sq H g->g[i]?=some x,λi H=>∃g,sq H g/\g.length<=i⟩
section
variable{K:AC}{elts:List Expr}{x1:Nat}{pos:Pos}
theorem TV(a e it:AJ)(B:e≠it)(Φ:a≠it)(Χ:e≠a):UQ P w K (.Tuple elts x1 pos) (j4 λH xs=>SqL K H a xs) [e,it] e (λi h=>(∃old,Y3 h e it ((i+2:Nat):Int) old)/\h.IsListIter it a i) where
 mem:=by simp
 obj:=λi h st b hb=>by
  have oP:b=e∨b=it:=by simpa using hb
  rcases oP with z | z
  ·subst z
   obtain⟨⟨old,g⟩,_⟩:=st
   exact⟨_,g,λv z=>by
    have z':kZ _=Data.cell v:=z
    cases z'⟩
  ·subst z
   obtain⟨_,o,e,c,d⟩:=st;exact⟨o,e,λv z=>by rw[d]at z;cases z⟩
 keep:=λi h Y st k=>⟨st.1.imp λold g=>k e (by simp) _ g,st.2.at λo q=>k it (by simp) o q⟩
 item:=by
  intro X G hw J L i ζ s σ H E I N st O;subst G hw J;obtain⟨xs,x,C,Q⟩:=O;obtain⟨m,R,p,S⟩:=I.list C;have p':s.heap.IsList a m.toArray:=p.isList;obtain⟨u,Z,ru⟩:=R.get Q
  have nH:i < m.toArray.size:=by
   have:=(AI.mp Z).1;simpa using this
  obtain⟨⟨old,g⟩,l⟩:=st
  have li:it < s.heap.objs.size:=by obtain⟨o,q,_⟩:=l;exact AV q
  refine wpAny_pyNext_enum_itemD (UR (A:=X.A.in1) (I.ok.hd L) it a Φ m.toArray) (i:=i+2) g ⟨by lia,l,p'⟩ (by lia) B (by simp[B,Χ]) λu' Y tk Ψ ho w6 hT hsz hk=>?_
  have:u'=u:=by
   have yT:m[i]?=some u':=by simpa using Ψ
   rw[Z]at yT;cases yT;rfl
  subst this
  have t:=YO (i:=i+2) (E:=E) (elts:=elts) (x1:=x1) (pos:=pos) (sq:=λH xs=>∃y z T,xs=y :: z :: T/\SqL X.K H a T) (tn:=λj h=>(∃old,Y3 h e it (j:Int) old)/\h.IsListIter it a (j - 2)) I B N (AV g) li ru (λT U=>by
   obtain⟨y,z,ys',rfl,U⟩:=U;rw[Jp,Jp,I.list_inj U C]
   exact Q) ho hT hk λh2 oj rT=>⟨rT,w6.2.1.at λo q=>(oj.2 it (B8 B)).trans q⟩
  refine⟨_,rfl,BX t (λ_ s2 h2=>?_) λ_ _ z=>z⟩;obtain⟨y,H',q1,q2,⟨p,x,e1,e2,e3,e4⟩,q4,q5⟩:=h2;exact⟨y,H',q1,q2,⟨p,x,e1,e2,e3,λzs S=>by simpa using e4 (x :: x :: zs) ⟨x,x,zs,rfl,S⟩⟩,q4,q5⟩
 done:=by
  intro X G hw J L i ζ s σ H E I N st O;subst G hw J;obtain⟨xs,C,Q⟩:=O;obtain⟨m,R,p,S⟩:=I.list C;obtain⟨⟨old,g⟩,l⟩:=st;obtain⟨f0,f1,f2,f3,f4,f5⟩:=N it (by simp);have hl:=R.length
  exact Pl (I.ok.hd L) g l p.isList (by simp;lia) λY eb=>⟨rfl,I.turned (t':=s.toks) (λb o hb e=>eb b o hb e) f0 f1 f3 f4 f5⟩
 self:=λ_ _ _ _ _ st h=>by
  obtain⟨⟨old,g⟩,_⟩:=st;exact j8 g h
end
section
variable{X:Cx}{E:EW}{elts:List Expr}{x1:Nat}{p pos yU kp vp:Pos}{j1:Nat}
noncomputable def jT(K:AC)(j:TA):TI:=λl H R=>j l H λm i=>∃a,m=[.ref a]/\(∃g,SqL K i a g)/\R (j4 λH g=>SqL K H a g) i
theorem Z0(P:Gl X "enumerate") (hm:X.mg "enumerate" = none) (Q:PA X [e] S) (A:AO [e] X.env=[(false,Bi e X.env)]:=by rfl) :
  PI X (.Tuple elts x1 yU) (.Call (.Name "enumerate" p) [e] [⟨some "start",.Constant (.int 2) j1 vp,kp⟩] pos) (jT X.K S):=by
 intro B s C H R I h;refine Fb (NV I P hm boot_enumerate ?_ (by decide) (by decide));refine OQ (thn (Q pos B s C H _ I h) λus T ⟨vs,G,U,Y,Z⟩=>?_) (by rw[A];rfl) (by rw[A];rfl) rfl rfl;obtain⟨a,rfl,⟨xs,sq⟩,q⟩:=Z;obtain⟨u,rfl,ru⟩:=vals1 Y;cases ru;refine kws_cons ?_
 refine thn (Z4 (X:=X) (i:=2) (j:=j1) (pos:=vp) B T C G (λx J=>x=.int 2/\J=G) U ⟨rfl,rfl⟩) λv g ⟨x,J,l,r2,e1,e2⟩=>?_
 subst e1 e2;obtain⟨t,rfl⟩:=r2;refine kws_nil ?_;show AZ _ _ (call (.type "enumerate") [.ref a] [("start",.int 2 t)]) _ _ _;obtain⟨f',rv,pl,hz⟩:=l.list sq;have L:g.heap.IsList a f'.toArray:=pl.isList
 have N:a < g.heap.objs.size:=by obtain⟨o,q,_⟩:=L;exact AV q
 refine Ko L λh' O m hsz hk=>j8 O ?_
 refine⟨_,[g.heap.objs.size+1,g.heap.objs.size],_,_,_,rfl,l.kept (t':=g.toks) hk,TV a _ _ (Nat.succ_ne_self _) (Al N) (Fe (Io N)),⟨⟨_,O⟩,m⟩,λb hb=>?_,q⟩
 have oP:b=g.heap.objs.size+1∨b=g.heap.objs.size:=by simpa using hb
 rcases oP with z | z
 ·rw[z];exact l.fpOk (Ip _) (l.hok.fresh (Ip _))
 ·rw[z];exact l.fpOk (AN _) (l.hok.fresh (AN _))
noncomputable def LA(ds:List D):List D:=ds.zipIdx.map λx=>.tup [.int ((x.2+2:Nat):Int),x.1]
theorem N1(ds:List D)(i:Nat):(LA ds)[i]?=(ds[i]?).map λd=>.tup [.int ((i+2:Nat):Int),d]:=by
 unfold LA;rw[At,WH]
 cases ds[i]? with
 | none=>rfl
 | some d=>simp
noncomputable def O9(v:Nd):Nd:=λS=>(v S).map LA
theorem Rv{K}{L}{H}{J}{v}{sq}(O:Nc K L H J v)(P:∀i H,J.go i H->∃xs x,sq H xs/\xs[i]?=some x)(Q:∀i H,J.stop i H->∃xs,sq H xs/\xs.length<=i)
  (R:∀i H x,(∀xs,sq H xs->xs[i]?=some x)->J.yld i H x H):Nc K L H (j4 sq) (O9 v):=by
 intro B j S ds i l s m;unfold O9 at m
 cases C:v S with
 | none=>rw[C]at m;cases m
 | some g=>
  rw[C]at m;cases m;obtain⟨T,U⟩:=O B j S g i l s C;refine⟨λG=>?_,λd o=>?_⟩
  ·rw[N1]at G
   refine Q i j (T ?_)
   cases A:g[i]? with
   | none=>rfl
   | some d=>rw[A]at G;cases G
  ·rw[N1]at o
   cases A:g[i]? with
   | none=>rw[A]at o;cases o
   | some Y=>
    rw[A]at o;cases o;obtain⟨Z,b2⟩:=U Y A;refine⟨P i j Z,λy H' hy=>?_⟩;obtain⟨p,x,hp,rfl,rfl,hx⟩:=hy;obtain⟨I,l3,s3,r3⟩:=b2 x j (R i j x hx);obtain⟨s4,N⟩:=FB (ho:=.tup [.int ((i+2:Nat):Int),x]) s3 hp;exact⟨I,l3.trans N,s4,.tup BU (.cons (.int _) (.cons (r3.mono N) .nil))⟩
noncomputable def Oh(m:ME):MI:=λe S=>(m e S).bind λd g=>match Hd d g with
 | some _=>.ok (O9 (Hd d)) g
 | none=>.bad
theorem bF(B:Gl X "enumerate") (hm:X.mg "enumerate" = none) (h:GE X E e m) (s:AO [e] X.env=[(false,Bi e X.env)]:=by rfl) :
  GI X E (.Tuple elts x1 yU) (.Call (.Name "enumerate" p) [e] [⟨some "start",.Constant (.int 2) j1 vp,kp⟩] pos) (Oh m):=
 (Z0 B hm (C6 h Eu s) s).imp<|by
 rintro P H R ⟨C,l,S,G,I,hm⟩
 refine⟨C,l,S,G,I,hm.seq λd J hm j L x N A o=>?_⟩
 cases g:Hd d J with
 | none=>rw[g]at hm;exact hm.elim
 | some Q=>
  rw[g]at hm
  have:∃a,x=.ref a:=by
   cases o <;> first | exact⟨_,rfl⟩ | (cases g;done)
  obtain⟨a,rfl⟩:=this;obtain⟨O,sq,_⟩:=O8 A o g;exact⟨a,rfl,⟨O,sq⟩,hm j L _ N A (Rv (O7 o) (λi H z=>z) (λi H z=>z) λi H x z=>⟨rfl,z⟩)⟩
end
theorem bK(hg:Gl X x)(hm:X.mg x=some (.str z tk))(hd:(x==("__debug__" : Str))=false:=by decide):GE X E (.Name x pos) (mC (.str z)):=
 YH (K0 (v:=.str z) hg hm ⟨tk,rfl⟩ hd) λ_ _=>.str z
open PySem PySem.Spec PyProof.Rows
section
end
end L2
namespace L2
open PySem PySem.Spec PyProof.Rows PySem.W
section
variable{X:Cx}{k k' n:Nat}{x qual:Str}{st:Dr}{ps:List Str}{p pos:Pos}{e:Expr}{es:List Expr}{ml:ML}{g:List D->Sto->Res D}
theorem gcl(D:Dfn X.K X.mg x qual st ps)(F:D0 X.prog X.w X.K X.mg X.base (CXG X.prog X.w) k D.f D.fd ps (spM X.K n g))(i:Fx k' X.A)(j:GA X noE (e :: es) ml)(l:k<=k':=by decide)(o:X.xe=λ_ _=>False:=by rfl)(s:Gl X x:=by rfl)
  (B:(x==("__debug__" : Str))=false:=by decide) (C:AO (e :: es) X.env=(false,Bi e X.env) :: AO es X.env:=by rfl) (E:(CN pos (AO es X.env)).any (·.1)=false:=by rfl) :
  GE X noE (.Call (.Name x p) (e :: es) [] pos) (CM n g ml):=CJ F (good_none o).pass (i.mono l) s D.m D.kp D.b j B C E
end
noncomputable abbrev FnAt(K:Frag)(x g:Str)(st:Dr)(f:AJ):Prop:=∃(l:AD) (m:Option AJ) (kV i o:AD) (s:Option AJ) (j ct:AD) (A:Array (Option AD)),
 K.lookup f=some ⟨l,m,.func (fnOf x g (Jf st) (GB st) (BA st) .none kV i o s j ct),A⟩/\codeIn K j g=true/\keepIn K (.ref f)=true
noncomputable abbrev GP(K:Frag)(x:Str)(st:Dr)(f:AJ):Prop:=nsIn K As x=some (some (.ref f))/\FnAt K x x st f
noncomputable abbrev XN(K:Frag)(C:AJ)(x g:Str)(st:Dr)(f:AJ):Prop:=findIn K (.ref C) x=some (some (.ref f))/\isFn K (.ref f)=true/\FnAt K x g st f
noncomputable abbrev ClsAt(K:Frag)(x:Str)(C:AJ):Prop:=nsIn K As x=some (some (.ref C))/\plainGet K C MC=true/\hasDictIn K C=true/\plainOver K C=true/\findIn K (.ref C) "__setattr__" = some (some (.builtin "object.__setattr__"))/\makesIn K C=true/\keepIn K (.ref C)=true
noncomputable def b9(st:Dr)(ps:List Str):Prop:=∀(x g:Str) (kV i l:AD) (m:Option AJ) (o ct:AD) (j:List AD),j.length=ps.length->cM (fnOf x g (Jf st) (GB st) (BA st) .none kV i l m o ct) ⟨j,[]⟩=pure (ps.zip j)
section
variable{K:Frag}{h:Bt}{mg:Str->Option AD}{x qual:Str}{st:Dr}{f C:AJ}{ps:List Str}{a b c d:Str}
theorem FnAt.fd(z:FnAt K x qual st f):∃fd,Fun K x qual st f fd:=by
 obtain⟨i,j,kV,g,m,o,s,ct,A,l,c,k⟩:=z;exact⟨_,bN l c k⟩
noncomputable def mkD(X:K.In h)(G:h.Ns As mg)(z:GP K x st f)(b:b9 st ps):Dfn K mg x x st ps:=⟨f,(FnAt.fd z.2).choose,(FnAt.fd z.2).choose_spec,(FnAt.fd z.2).choose_spec.binds (b x x),OT X G z.1⟩
noncomputable def mkM(z:XN K C x qual st f)(b:b9 st ps):Mtd K x qual st ps:=⟨f,(FnAt.fd z.2.2).choose,(FnAt.fd z.2.2).choose_spec,(FnAt.fd z.2.2).choose_spec.binds (b x qual)⟩
theorem mkO(X:K.In h)(G:h.Ns As mg)(z:ClsAt K y C)(i:XN K C "__init__" qual st f):Own K mg y C f:=⟨⟨z.2.1,z.2.2.1,z.2.2.2.1,z.2.2.2.2.1⟩,⟨z.2.2.2.2.2.1,i.1,i.2.1,z.2.2.2.2.2.2⟩,OT X G z.1⟩
noncomputable abbrev bnd(st:Dr)(ps:List Str)(i:List AD):Prop:=∀(x qual:Str) (kV g j:AD) (l:Option AJ) (m ct:AD),cM (fnOf x qual (Jf st) (GB st) (BA st) .none kV g j l m ct) ⟨i,[]⟩=pure (ps.zip i)
theorem bd1(z:∀u,bnd st [a] [u]):b9 st [a]:=λx q k d p n c t i g=>by obtain⟨u,rfl⟩:=ls g;exact z u x q k d p n c t
theorem bd2(z:∀u v,bnd st [a,b] [u,v]):b9 st [a,b]:=λx q k d p n c t i g=>by obtain⟨u,v,rfl⟩:=lr g;exact z u v x q k d p n c t
theorem bd3(z:∀u v w,bnd st [a,b,c] [u,v,w]):b9 st [a,b,c]:=λx q k d p n c t i g=>by obtain⟨u,v,w,rfl⟩:=len3 g;exact z u v w x q k d p n c t
end
end L2
namespace PySem
open Sem (wp)
section
variable{prog:A3}{w:BR}{A:BO}{E:AD->AG->Prop}{h:Bt}{g:Array Uz}{d:Drawn}{t:Nat}{os:OsState}
variable{nm q:Str}{C N:AJ}{bs bm bmB:List AD}{hdct:Bool}{sn:List Str}{sub:List AD}{ab:Bool}{col:Option Bool}{dd:Option AJ}{k0 k1 k2 k3 k5:Option AD}{B Bn newId vh nN yV:String}{yW:List AD}
theorem HZ(m:IV Bn newId yV yW)(G:bmB.contains (.type Bn)=true)(F:IV B vh nN bmB)(T:kH h bmB bm){mN:Str->Option AD}{i:List AD}{s:AJ}{H:Obj}{Q:Fin->AG->Prop}
  (j:h.get? C=some (HY nm q C N bs bm hdct sn sub ab col dd k0 k1 k2 k3 k5 newId)) (L:h.Ns N mN) (hi:mN "__init__" = some (.ref s))
  (O:h.get? s=some H) (P:H.cls=.type "function")
  (R:∀h' e,h.objs.size<=e->LP h h' e (.ref C) i ->
   AZ (AR prog w) A (call (.ref s) (.ref e :: i)) (λr s'=>r=.none/\Q (.done (.ret (.ref e))) s') E ⟨h',g,d,t,os⟩) (hrest:i.length<=sizeLine:=by size_fits) :
  AZ (AR prog w) A (Builtin.«type.__call__» ⟨.ref C :: i,[]⟩) Q E ⟨h,g,d,t,os⟩:=by
 repeat(first | with_reducible refine GX j ?_ | with_reducible refine wpAny_madeBy_exc j ?_ | wp_step)
 refine codeAny_call_builtin_code (M5 _ m.quiet) (wpAny_check_new_subU m G T j ?_);refine codeAny_exc_new_subU m G F T j ?_ hrest;show AZ _ _ _ _ _ _
 have I:=AB { cls:=.ref C,data:=.fields #[.ref h.objs.size,.none,.none,.none,.bool false,.none] }
  (AB { cls:=.type "tuple",data:=.seq i.toArray } j)
 have S:=AB { cls:=.ref C,data:=.fields #[.ref h.objs.size,.none,.none,.none,.bool false,.none] }
  (AB { cls:=.type "tuple",data:=.seq i.toArray } O)
 have U:((h.push { cls:=.type "tuple",data:=.seq i.toArray }).push { cls:=.ref C,data:=.fields #[.ref h.objs.size,.none,.none,.none,.bool false,.none] }).Ns N mN:=
  let ⟨o,X,Y,e,r⟩:=L;⟨o,X,Y,AB _ (AB _ e),r⟩
 have J:((h.push { cls:=.type "tuple",data:=.seq i.toArray }).push
   { cls:=.ref C,data:=.fields #[.ref h.objs.size,.none,.none,.none,.bool false,.none] }).get? (h.objs.size+1)=some
   { cls:=.ref C,data:=.fields #[.ref h.objs.size,.none,.none,.none,.bool false,.none] }:=by heap_get
 have Z:(Ai C :: bm).contains (.ref C)=true:=by simp
 have l:=T.keeps (h':=(h.push { cls:=.type "tuple",data:=.seq i.toArray }).push { cls:=.ref C,data:=.fields #[.ref h.objs.size,.none,.none,.none,.bool false,.none] })
  λb o e=>AB _ (AB _ e)
 unfold LX
 repeat(first | with_reducible refine GX J ?_ | (with_reducible refine fO I ?_;rw[Z]) | wp_step)
 show AZ _ _ (Oq (.ref C) _) _ _ _;refine wpAny_typeLookup_tail I U l F.mroIs F.init.lookup ?_;rw[hi];refine Bz (AA ?_);unfold bindSpecial;refine AA (Yt (T:="function") ⟨_,S,P⟩ ?_);rw[qX (by decide)];refine AE (AA (BX (R _ (h.objs.size+1) (Ip _) ⟨λb o hb=>AB _ (AB _ hb),Gp (Ip _),h.objs.size,J,Gp (AN _),?_⟩) (λr s' hr=>?_) λ_ _ x=>x))
 ·exact AB _ (Y5 rfl rfl)
 ·obtain⟨rfl,hQ⟩:=hr
  wp_walk
  exact hQ
theorem KM(s:IV Bn newId yV yW)(G:bmB.contains (.type Bn)=true)(F:IV B vh nN bmB)(T:kH h bmB bm){m:Str->Option AD}{i:List AD}{l:AJ}{o:Obj}{Q:AD->AG->Prop}
  (j:h.get? C=some (HY nm q C N bs bm hdct sn sub ab col dd k0 k1 k2 k3 k5 newId)) (H:h.Ns N m) (hi:m "__init__" = some (.ref l))
  (I:h.get? l=some o) (J:o.cls=.type "function")
  (L:∀h' e,h.objs.size<=e->LP h h' e (.ref C) i ->
   AZ (AR prog w) (A.under (.builtin "type.__call__" ⟨.ref C :: i,[]⟩)) (call (.ref l) (.ref e :: i)) (λr s'=>r=.none/\Q (.ref e) s') E ⟨h',g,d,t,os⟩) (hrest:i.length<=sizeLine:=by size_fits) :
  AZ (AR prog w) A (call (.ref C) i) Q E ⟨h,g,d,t,os⟩:=by
 have P:=tc_lookup;have R:=tc_bind (.ref C);have S:(⟨h,g,d,t,os⟩:AG).TypeIs (.ref C) "type":=⟨_,j,rfl⟩;refine Fa (mT ?_);show AZ _ _ (callAny (.ref C) _) _ _ _
 repeat(any_goals (first | assumption | with_reducible refine GX j ?_ | wp_step))
 refine⟨rfl,?_⟩;refine codeAny_call_builtin_at (M5 _ (by decide +kernel)) entry_typeCall (wpAny_check_type_call_sub j (HZ (hrest:=hrest) s G F T j H hi I J λh' e O hm=>?_));exact L h' e O hm
end
section
variable{prog:A3}{w:BR}{A:BO}{E:AD->AG->Prop}{h:Bt}{g:Array Uz}{d:Drawn}{t:Nat}{os:OsState}
variable{nm q:Str}{C N:AJ}{bs bm bmB:List AD}{hdct:Bool}{sn:List Str}{sub:List AD}{ab:Bool}{col:Option Bool}{dd:Option AJ}{k0 k1 k2 k3 k5:Option AD}{B newId vh nN:String}
theorem LG(F:IV B vh nN bmB)(T:kH h bmB bm){e l:AJ}{i:List AD}{Q:AD->AG->Prop}
  (m:h.get? C=some (HY nm q C N bs bm hdct sn sub ab col dd k0 k1 k2 k3 k5 newId)) (j:h.get? e=some { cls:=.ref C,data:=.fields #[.ref l,.none,.none,.none,.bool false,.none] })
  (s:∀h',h'.get? e=some { cls:=.ref C,data:=.fields #[.ref h.objs.size,.none,.none,.none,.bool false,.none] }->(∀b o,b≠e->h.get? b=some o->h'.get? b=some o)->Q .none ⟨h',g,d,t,os⟩) (hrest:i.length<=sizeLine:=by size_fits) :
  AZ (AR prog w) A (call (.builtin nN) (.ref e :: i)) Q E ⟨h,g,d,t,os⟩:=by
 refine Fa (Dg F.init.plain F.initEntry (wpAny_check_init_subU F T m j rfl ?_))
 wp_walk
 refine s _ ?_ λb o hb G=>?_
 ·rw[DB _ (AB _ j) rfl]
  rfl
 ·rw[Cy _ _ hb.symm]
  exact AB _ G
end
section
variable{M:Model}{A:BO}{E:AD->AG->Prop}{env:Env}
variable{nm q:Str}{C N:AJ}{bs bm:List AD}{hdct:Bool}{sn:List Str}{sub:List AD}{ab:Bool}{col:Option Bool}{dd:Option AJ}{k0 k1 k2 k3 k5:Option AD}{newId:String}
theorem Gi{s:AG}{x:Sem AD}{Q:Flow->AG->Prop}(o:bm.contains (.type "BaseException")=true) (B:A.handled=none)
  (h:AZ M A x (λv i=>∃e t l,v=.ref e/\i.heap.get? C=some (HY nm q C N bs bm hdct sn sub ab col dd k0 k1 k2 k3 k5 newId) /\
   i.heap.get? e=some { cls:=.ref C,dict:=some l,data:=.fields #[.ref t,.none,.none,.none,.bool false,.none] }/\E (.ref e) i) E s) :
  AZ M A (raiseStmt env (some x) none) Q E s:=by
 have G:(Ai C :: bm).contains (.type "BaseException")=true:=by rw[List.contains_cons,o,Bool.or_true]
 unfold raiseStmt;refine AA (BX h (λv i j=>?_) λ_ _ x=>x);obtain⟨e,t,l,rfl,m,H,I⟩:=j;obtain⟨J,g,d,tk,os⟩:=i
 repeat(first | with_reducible refine GX H ?_ | with_reducible refine GX m ?_ | (with_reducible refine fO m ?_;rw[G]) | wp_step)
 exact wpAny_raiseNew_none B I
end
section
variable{prog:A3}{w:BR}{A:BO}{E:AD->AG->Prop}{s:AG}{env:Env}
variable{nm q:Str}{C N:AJ}{bs bm bmB:List AD}{hdct:Bool}{sn:List Str}{sub:List AD}{ab:Bool}{col:Option Bool}{dd:Option AJ}{k0 k1 k2 k3 k5:Option AD}{B newId nN:String}
theorem OR(F:IV B newId nN bmB)(Z:bmB.contains (.type B)=true){S:Str->Option AD}{x:Str}{U I pos:Pos}{args:List Expr}{J:AJ}{Q:Flow->AG->Prop}
  (L:bm.contains (.type "BaseException")=true) (O:A.handled=none) (ny:(CN I (AO args env)).any (·.1)=false) (hi:S "__init__" = some (.ref J))
  (h:AZ (AR prog w) A (Bi (.Name x U) env) (λf o=>f=.ref C/\AZ (AR prog w) A (evalArgs (.ref C) true (CN I (AO args env)) [])
   (λa i=>a.kw=[]/\a.pos.length<=sizeLine/\i.heap.get? C=some (HY nm q C N bs bm hdct sn sub ab col dd k0 k1 k2 k3 k5 newId)/\i.heap.Ns N S/\kH i.heap bmB bm/\(∃P,i.heap.get? J=some P/\P.cls=.type "function") /\
    ∀h' e,i.heap.objs.size<=e->LP i.heap h' e (.ref C) a.pos->AZ (AR prog w) (A.under (.builtin "type.__call__" ⟨.ref C :: a.pos,[]⟩)) (call (.ref J) (.ref e :: a.pos))
     (λr j=>r=.none/\j.heap.get? C=some (HY nm q C N bs bm hdct sn sub ab col dd k0 k1 k2 k3 k5 newId)/\(∃t R,j.heap.get? e=some { cls:=.ref C,dict:=some R,data:=.fields #[.ref t,.none,.none,.none,.bool false,.none] })/\E (.ref e) j)
     E { i with heap:=h' }) E o) E s) :
  AZ (AR prog w) A (exec (.Raise (some (.Call (.Name x U) args [] I)) none pos) env) Q E s:=by
 rw[arm_exec_Raise]
 first
  | refine AA (DE (Gi (C:=C) (nm:=nm) (q:=q) (N:=N) (bs:=bs) (bm:=bm) (hdct:=hdct) (sn:=sn) (sub:=sub) (ab:=ab) (col:=col) (dd:=dd) (k0:=k0) (k1:=k1) (k2:=k2) (k3:=k3) (k5:=k5) (newId:=newId) L O (AA (BX (QK (BX h (λf o l=>?_) λ_ _ x=>x)) (λv j m=>AA (DE (AE m))) λ_ _ x=>x))))
  | (simp only[evalOpt,QG];refine AA (DE (Gi (C:=C) (nm:=nm) (q:=q) (N:=N) (bs:=bs) (bm:=bm) (hdct:=hdct) (sn:=sn) (sub:=sub) (ab:=ab) (col:=col) (dd:=dd) (k0:=k0) (k1:=k1) (k2:=k2) (k3:=k3) (k5:=k5) (newId:=newId) L O (AA (BX (QK (BX h (λf o l=>?_) λ_ _ x=>x)) (λv j m=>AA (DE (AE m))) λ_ _ x=>x)))))
  | (refine AA (DE (Gi (C:=C) (nm:=nm) (q:=q) (N:=N) (bs:=bs) (bm:=bm) (hdct:=hdct) (sn:=sn) (sub:=sub) (ab:=ab) (col:=col) (dd:=dd) (k0:=k0) (k1:=k1) (k2:=k2) (k3:=k3) (k5:=k5) (newId:=newId) L O ?_));refine AA (BX (QK (BX h (λf o l=>?_) λ_ _ x=>x)) (λv j m=>AA (DE (AE m))) λ_ _ x=>x))
 obtain⟨rfl,l⟩:=l;unfold cL;refine AA (Bz (BX l (λa i G=>AA (DE ?_)) λ_ _ x=>x));obtain⟨X,η⟩:=a;obtain⟨vY,H,Y,hn,T,⟨P,uj,uk⟩,G⟩:=G;obtain rfl:η=[]:=vY;obtain⟨hp,g,d,tk,os⟩:=i;simp only[ny];refine AA (wpAny_keeperOf_exc Y ?_);refine AA (KM (hrest:=H) F Z F T Y hn hi uj uk λh' e hz hm=>BX (G h' e hz hm) (λr j ⟨z,q1,⟨t,R,q2⟩,q3⟩=>⟨z,AA (Bz (wpAny_point (AE ⟨e,t,R,rfl,q1,q2,q3⟩)))⟩) λ_ _ z=>z)
end
end PySem
namespace L2
open PySem PySem.W Builtin Builtin.ObjectAttr
section
variable{prog:A3}{w:BR}{A:BO}{E:AD->AG->Prop}{s:AG}{K:AC}{x C:AJ}{o:Obj}{cd:ClassData}{name:Str}{v:AD}
theorem YK{Q:Unit->AG->Prop}(X:K.In s.heap)(j:s.heap.get? x=some o)(i:o.cls=.ref C)(B:o.dict=none)(G:∀c,o.data≠.cls c)
  (H:clsIn K C=some cd) (T:cd.hasDict=true) (hm:∀self,refuseLoop self "__setattr__" cd.mro=pure ()) (J:mroIn K C (.type "object")=some true)
  (m:findIn K (.ref C) "__setattr__" = some (some (.builtin "object.__setattr__"))) (U:findIn K (.ref C) name=some none)
  (Y:∀h' tk,h'.get? x=some { o with dict:=some s.heap.objs.size }->h'.Ns1 s.heap.objs.size (λy=>if y=name then some v else none)->(∀b L,b≠x->s.heap.get? b=some L->h'.get? b=some L)->Q () { s with heap:=h',toks:=tk }) :
  AZ (AR prog w) A (setAttr (.ref x) name v) Q E s:=by
 have I:InstAt s.heap x o C none:=⟨j,i,by unfold notCls;split <;> first | rfl | (rename_i c e;exact zX e (G c)),by rw[B];trivial⟩;refine set_plain X I m ?_;obtain⟨h,g,d,t,os⟩:=s;have l:=PySem.F.store_object;have N:InstAt (⟨h,g,d,t+1,os⟩:AG).heap x o C none:=I;have sub:Looks (AR prog w) h (LX (.ref x) (.type "object")) true:=I.type.andThen (looks_mroIn X J);refine Dg l.slot.plain l.entry (@check_slot (AR prog w) _ _ ⟨h,g,d,t+1,os⟩ "object.__setattr__" "object" "__setattr__" (.ref x) [.str name t,v] [] _ l.kind l.split sub (l.args (.ref x) (.str name t) v) ?_);have Z:Looks (AR prog w) h (mroOf (.ref C)) cd.mro:=(looks_clsIn X H).andThen .now;have Lf:Looks (AR prog w) (⟨h,g,d,t+1,os⟩:AG).heap (Oq (.ref C) name) none:=looks_findIn X U;have Lc:Looks (AR prog w) (⟨h,g,d,t+1,os⟩:AG).heap (classData C) cd:=looks_clsIn X H;have rg:(⟨h,g,d,t+1,os⟩:AG).heap.get? x=some o:=j;rw[osa_eq,refuse_eq];refine AA (AA (N.type.here (AA (Z.here ?_))));rw[hm];refine AE (AA (N.type.here (AA (Lf.here (AA ?_)))));refine AE ?_;show AZ _ _ (storeInOwnDict (.ref x) (.ref C) (.str name t) name v false) _ _ _;obtain⟨oc,odi,O,pK⟩:=o;dsimp only at i B G;subst i B;refine AA (AE (AA (AA (M7 rg (AA (Lc.here ?_))))));rw[T];rw[qY (by decide)];dsimp only;rw[qY (by simp[typeHasDict])];split
 ·exact zX rfl (G _)
 ·have P:(h.push { cls:=.type "dict",data:=.dict #[] }).get? x=some { cls:=.ref C,data:=O,slots:=pK }:=AB _ j
  have R:x≠h.objs.size:=Al (AV j);refine AA (wpAny_alloc' ?_);refine AA (wpAny_update' P ?_);refine AE ?_
  have θ:((h.push { cls:=.type "dict",data:=.dict #[] }).update x λo=>{ cls:=o.cls,dict:=some h.objs.size,data:=o.data,slots:=o.slots }).get? h.objs.size
    = some { cls:=.type "dict",data:=.dict #[] }:=
   (G9 _ _ _ _ R.symm).trans (Y5 rfl rfl)
  have ι:((h.push { cls:=.type "dict",data:=.dict #[] }).update x λo=>{ cls:=o.cls,dict:=some h.objs.size,data:=o.data,slots:=o.slots }).Ns h.objs.size (λ_=>none):=
   ⟨_,#[],_,θ,rfl,λe he=>zX he (by simp),λ_=>rfl⟩
  show AZ _ _ (storeInDict h.objs.size (.str name t) name v) _ _ _;unfold storeInDict newKeyGuard;refine AA (AE (AA (wpAny_nsSet1 (Uy ι) λh' S m=>?_)));obtain⟨oD,zB,zC,vE,vF,vG⟩:=S.count (Within.cons name v Within.nil);refine AA (kK vE (by rw[vF];exact kN (Ae vG (by rw[AU,B7,M9];omega))) ?_);refine AE ?_
  refine Y h' _ ?_ S λb J μ hb=>?_
  ·refine(m.2 x R).trans (DB _ P ?_)
   have tN:=(Yq.mp j).2
   cases O <;> first | rfl | exact tN
  ·exact(m.2 b (Al (AV hb))).trans ((G9 _ _ _ _ μ).trans (AB _ hb))
end
open PySem PySem.Spec PyProof.Rows
section
variable{prog:A3}{w:BR}{A:BO}{E:AD->AG->Prop}{s:AG}{K:AC}{a C:AJ}{o:Obj}{od:Option Obj}
theorem Vr{M:Model}{g:AD}{Q:Unit->AG->Prop}(c:XIs K C)(X:K.In s.heap)(I:DW s.heap a o C od)(h:Q () s):AZ M A (G6 "BaseException.__getattribute__" ⟨[.ref a,g],[]⟩) Q E s:=by
 obtain⟨i,G,d,t,os⟩:=s;have j:=I.type (M:=M);have l:Em M i (LX (.ref a) (.type "BaseException")) true:=j.andThen (UV X c.be)
 have m:builtinKind "BaseException.__getattribute__" = some .slot:=by decide +kernel
 have B:splitId "BaseException.__getattribute__" = some ("BaseException", "__getattribute__"):=by decide +kernel
 have H:=TC (.ref a) g;simp only[G6,m,B];refine AA (l.at ?_)
 repeat(any_goals (first | assumption | wp_step))
theorem YJ{v:AD}{name:Str}{expr:Bool}{Q:AD->AG->Prop}(c:XIs K C)(X:K.In s.heap)(I:DW s.heap a o C od)(i:N9 K C od name=some (.value v))(j:NC v=true)
  (h:Q v { s with toks:=s.toks+1 }):AZ (AR prog w) A (Yv (.ref a) name expr) Q E s:=by
 obtain⟨G,H,d,t,os⟩:=s;have g:=I.type (M:=AR prog w);have l:=EB (M:=AR prog w) X c.ga;have L2:=EB (M:=AR prog w) X c.gn;have m:=Ur (M:=AR prog w) X I i;unfold Yv getAttrBy;refine AA (wpAny_mkText (Bz (AA (g.at (AA (l.at ?_))))))
 have B:(Rf (Ai C)&&MB "BaseException.__getattribute__"==MB "object.__getattribute__")=false:=by show(true&&_)=false;decide +kernel
 dsimp only;rw[qY (by rw[B];exact Ac)];unfold mS hookBefore;refine AA ?_;rw[qX (show Rf (Ai C)=true from rfl)];refine L2.at (AA (FS (Bz ?_)));unfold kO;rw[qY (by simp[Rf])];unfold boundAndCalled;refine AA (Su (EC.ga.bind (.ref a)) ?_);refine Fa (Dg EC.ga.plain Sy (Vr c X I ?_));unfold Builtin.«object.__getattribute__»;refine AA (AE ?_);dsimp only;refine AA (AE (AA (g.at (AA (m.at ?_)))));refine AE ?_;show AZ _ _ (handedOut v) _ _ _;rw[PySem.W.handedOut_of j];exact AE h
end
noncomputable def jm(K:AC)(C i:AJ):Bool:=match K.lookup C with
 | some ⟨.type "type",_,.cls g,sl⟩=>(match g.mro,sl.toList with
  | .ref j :: l,[_,_,_,_,some (.builtin n),_]=>j==C&&n=="ValueError.__new__"&&!g.hasDel&&KF K UK l&&G7 K g.ns&&MK K g.ns "__init__"==some (some (.ref i))&&g.hasDict
  | _,_=>false)
 | _=>false
structure XRw(K:AC)(C Gd fI:AJ):Prop where
 ex:jm K C fI=true
 fn:Rh K (.ref fI)=true
 sa:Bq K (.ref C) "__setattr__" = some (some (.builtin "object.__setattr__"))
 na:Bq K (.ref C) "row" = some none
 ob:Hu K C (.type "object")=some true
 rd:PySem.W.readsIn K Gd (.type "type")=true
 fc:PySem.W.findCls K (.ref Gd) (.type "type") "__init__" = some (.val (.builtin "ValueError.__init__"))
 sp:MJ K (.ref Gd) "__getattribute__" = some (some (.builtin "type.__getattribute__"))
theorem XRw.obj{K:AC}{C Gd A:AJ}(c:XRw K C Gd A):∃bm N nm q bs sn sub ab col dd k0 k1 k2 k3 k5,K.lookup C=some (HY nm q C N bs bm true sn sub ab col dd k0 k1 k2 k3 k5 "ValueError.__new__") /\
  G7 K N=true/\MK K N "__init__" = some (some (.ref A))/\KF K UK bm=true:=by
 have q:=c.ex;unfold jm at q;split at q
 ·rename_i j l m o
  split at q
  ·rename_i Cx s H I J L nx O g i
   simp only[Bl,beq_iff_eq,EF]at q;obtain⟨⟨⟨⟨⟨⟨P,Q⟩,B⟩,R⟩,E⟩,G⟩,e7⟩:=q;subst P;subst Q;obtain⟨S,T,f3,U,X,f6,Y,Z,f9,wb,z8⟩:=l;dsimp only at g B E G e7;subst g;subst B;subst e7;obtain⟨lx⟩:=m;dsimp only at i;subst i;exact⟨s,U,S,X,T,Y,Z,f9,wb,j,H,I,J,L,O,o,E,G,R⟩
  ·cases q
 ·cases q
theorem Nr{K:AC}(self:AD):∀{l:List AD},KF K UK l=true->refuseLoop self "__setattr__" l=pure ()
 | [],e=>zX (show(UK==[])=true from e) (by decide +kernel)
 | v :: r,e=>by
  unfold KF at e
  rcases Bool.or_eq_true_iff.mp e with q | q
  ·rw[beq_iff_eq.mp q];exact PySem.F.store_ValueError.passes self
  ·split at q
   ·split at q
    ·simp only[Bl]at q
     rw[refuseLoop_ref];exact Nr self q.2
    ·cases q
   ·cases q
theorem Vc{K:AC}{h:Bt}{N:AJ}{n:Str}{v:AD}(X:K.In h)(g:G7 K N=true)(e:MK K N n=some (some v)):h.nsMap N n=some v:=by
 obtain⟨o,s,A,i,j,_,l⟩:=Bt.Ns.of_isNs (Us X g);unfold MK at e;split at e
 ·rename_i c d B C sl q
  have:=X _ _ q;rw[i]at this;cases this;cases j;split at e
  ·rename_i y m
   rw[<-l];unfold nsFind findBy;rw[<-XZ,m];cases e;rfl
  ·split at e <;> cases e
 ·cases e
noncomputable abbrev exO(C g:AJ)(d:Option AJ):Obj:={ cls:=.ref C,dict:=d,data:=.fields #[.ref g,.none,.none,.none,.bool false,.none] }
noncomputable abbrev exN(C e:AJ):HO:=.ext λh=>∃g,h.get? e=some (exO C g none)
noncomputable abbrev exD(C e g:AJ):HO:=.ext λh=>∃i,h.get? e=some (exO C i (some g))
theorem bV{P:A3}{w:BR}{H:Hp}{h:Bt}{C e g:AJ}(q:h.get? e=some (exO C g none)):CK P w H h e (exN C e):=⟨⟨g,q⟩,⟨_,q⟩,λi j ⟨t,z⟩ k=>⟨t,k _ z⟩⟩
theorem jo{P:A3}{w:BR}{H:Hp}{h:Bt}{C e g i:AJ}(q:h.get? e=some (exO C i (some g))):CK P w H h e (exD C e g):=⟨⟨i,q⟩,⟨_,q⟩,λj l ⟨t,z⟩ k=>⟨t,k _ z⟩⟩
noncomputable def Nq(n:Int):Prop:=0<=n/\n.natAbs.log2 < 1920/\(MC++"row ").length<=sizeLine/\(MC++"row "++toString n).length<=sizeLine/\(MC++"row "++toString n++" is wrong").length<=sizeLine
noncomputable instance(n:Int):Decidable (Nq n):=inferInstanceAs (Decidable (_/\_/\_/\_/\_))
noncomputable def kz(C:AJ)(i:TE):TE:=λj H Q=>ZY (TZ 0) (ZY i kn) j H λl g=>∃e y,l=[.ref e,y]/\g e=some (exN C e)/\Q .non g
noncomputable def tBr(C:AJ):TS:=λD i H=>∃e n,i[0]?=some (some (.ref e))/\i[1]?=some (some (.int n))/\H e=some (exN C e)/\0<=n/\∀g j u,H g=none->g≠e->bx j n.toNat->D.nx i (upd (upd H g (.frz j u)) e (exD C e g))
noncomputable def tRj:TE:=λg H Q=>∃n,g[1]?=some (some (.int n))/\Nq n/\∀y,Q (.str y) H
noncomputable def WY(C:AJ):Sp:=λj H Q _=>∃e n,j=[.ref e,.int n]/\H e=some (exN C e)/\Nq n/\∀g i u,H g=none->g≠e->bx i n.toNat->Q .non (upd (upd H g (.frz i u)) e (exD C e g))
section
variable{X:Cx}{C Gd fI:AJ}{g a b:Str}{p1 p2 p3 p5 p7 p8 p9 z9:Pos}{js:Expr}{tj:TE}
theorem Z7{pl:Sem Bool}(c:XRw X.K C Gd fI)(hg:Gl X g)(hm:X.mg g=some (.ref Gd))(ha:PE X (.Name a p3) (TZ 0))(hj:PE X js tj)(nZ:(g==("__debug__" : Str))=false:=by decide)
  (hs:AO [.Name a p3,js] X.env=(false,Bi (.Name a p3) X.env) :: AO [js] X.env:=by rfl) (oj:AO [js] X.env=(false,Bi js X.env) :: AO [] X.env:=by rfl)
  (ht:Bi (.Call (.Attribute (.Name g p1) "__init__" p2) [.Name a p3,js] [] p5) X.env=(do
   let ov <-Bi (.Name g p1) X.env
   standAt p2.atName
   let (f,fts) <-holding [ov] (getMethod ov "__init__" pl)
   cL p5 f fts (CN p5 (AO [.Name a p3,js] X.env)) (GZ p5 (Df [] X.env))):=by rfl) :
  PE X (.Call (.Attribute (.Name g p1) "__init__" p2) [.Name a p3,js] [] p5) (kz C tj):=by
 intro ζ s σ H Q I hj';obtain⟨bm,N,nm,q,bs,sn,sub,ab,col,dd,k0,k1,k2,k3,k5,hC,hok,wc,tq⟩:=c.obj;refine PySem.W.methodCall_KW (pl:=pl) (K6 I hg hm ?_ nZ) ht;refine PySem.W.method_cls I.kIn c.sp (PySem.W.cls_value I.kIn c.rd c.fc rfl ?_);have I1:=I.tok (s.toks+1);refine callWith_method1 (thn ((C6 ha (C6 hj Eu oj) hs) p5 ζ _ σ H _ I1 hj') λus s2 ⟨vs,H2,I2,r,e,y,ev,he,q⟩=>?_) hs (by rw[oj];rfl)
 ·subst ev
  obtain⟨u1,vi,rfl,r1,r2⟩:∃u1 vi,us=u1 :: vi/\RelV (.ref e) u1/\Bb [y] vi:=by
   cases r with
   | cons r1 r2=>exact⟨_,_,rfl,r1,r2⟩
  obtain rfl:u1=Ai e:=r1
  have hlen:vi.length<=sizeLine:=by rw[<-r2.length];show 1<=sizeLine;rw[M9];decide
  obtain⟨⟨t0,ho⟩,_⟩:=I2.hok e _ he;obtain⟨hh,gg,d,tk,os⟩:=s2
  refine LG (hrest:=hlen) Ou (La I2.kIn tq) (I2.kIn _ _ hC) ho λh' q1 q2=>?_
  have J:=I2.write (x:=e) (e:=e) (o:=exN C e) (h':=h') (t':=tk) (by rw[he];trivial) (.inl rfl) (λb u hb z=>q2 b u hb z) ⟨_,q1⟩ (bV q1)
  have hu:upd H2 e (exN C e)=H2:=by
   funext z
   unfold upd;split
   ·rename_i hz
    rw[hz,he]
   ·rfl
  rw[hu]at J;exact⟨.non,H2,J,rfl,q⟩
theorem dW(c:XRw X.K C Gd fI)(Z:PE X (.Name a p7) (TZ 0))(hb:PE X (.Name b p9) (TZ 1))(hs:EY (.Name b p9) (some (.Attribute (.Name a p7) "row" p8)) z9.line X.env=pure false:=by rfl) :
  PS X (.Assign [.Attribute (.Name a p7) "row" p8] (.Name b p9) z9) (tBr C):=by
 intro E s j H D I ⟨e,n,h0,Q,R,hn,hq⟩;obtain⟨bm,N,nm,q,bs,sn,sub,ab,col,dd,k0,k1,k2,k3,k5,hC,hok,wc,tq⟩:=c.obj;refine Qs (thn (hb E s j H (λv l=>v=.int n/\l=H) I ⟨_,Q,rfl,rfl⟩) λu s1 ⟨y,l,I1,ry,ey,eH⟩=>thn (Z E s1 j l (λv m=>v=.ref e/\m=l) I1 ⟨_,h0,rfl,rfl⟩) λov i ⟨x,m,A,rx,ex,G⟩=>?_) hs;subst ey ex G eH;obtain⟨t,rfl⟩:=ry;obtain rfl:ov=Ai e:=rx;obtain⟨⟨t0,S⟩,_⟩:=A.hok e _ R
 obtain⟨B,J,L,O⟩:∃B,CW X.K C=some B/\B.hasDict=true/\B.mro=.ref C :: bm:=by
  unfold CW;rw[hC];exact⟨_,rfl,rfl,rfl⟩
 refine YK (K:=X.K) A.kIn S rfl rfl (λc z=>by cases z) J L (λself=>by rw[O,refuseLoop_ref];exact Nr self tq) c.ob c.sa c.na λh' tk T q2 q3=>?_
 obtain⟨od,U,hl⟩:=RH q2;have Y:e≠i.heap.objs.size:=Al (AV S);have tN:=(Yq.mp U).2;have hf:m i.heap.objs.size=none:=A.hok.fresh (AN _);have P:(i.heap.push od).get? i.heap.objs.size=some od:=AX _ tN
 have J1:Inv X E j (upd m i.heap.objs.size (.frz od (.ext λh=>∃o,h.get? i.heap.objs.size=some o))) { i with heap:=i.heap.push od,toks:=i.toks }:=
  A.laid (λb u z=>AB _ z) (AN _) ⟨P,⟨_,P⟩,⟨_,P⟩,λQ h2 ⟨o,z⟩ k=>⟨o,k _ z⟩⟩
 have J2:=J1.write (x:=e) (e:=e) (o:=exD C e i.heap.objs.size) (h':=h') (t':=tk) (by rw[A5 Y,R];trivial) (.inl rfl) (λb u hb z=>by
  rcases Bt.get?_push_cases z with⟨e1,e2⟩ | z
  ·rw[e1,e2]
   exact U
  ·exact q3 b u hb z) ⟨_,T⟩ (jo T)
 refine⟨j,_,J2,hq _ od _ hf (B8 Y) ⟨t,?_⟩⟩;rw[hl,qX rfl,B2 hn]
variable{j1 j2:Nat}{p4 ν zb ξ ο:Pos}
theorem iY(hb:PE X (.Name b zb) (TZ 1)):PE X (.JoinedStr [.Constant (.str "row ") j1 ν,.FormattedValue (.Name b zb) (-1) none ξ,.Constant (.str " is wrong") j2 ο] p4) tRj:=by
 intro o s A H Q I ⟨n,E,⟨_,G,J,L,B⟩,q⟩;refine JoinedStr_many (Ug (thn (VZ o s A H (λv i=>v=.str "row "/\i=H) I ⟨rfl,rfl⟩) λu N ⟨x,i,O,j,ex,l⟩=>?_));subst ex l;obtain⟨t,rfl⟩:=j;refine⟨J,Ug (FormattedValue_plain (thn (hb o N A i (λv m=>v=.int n/\m=i) O ⟨_,E,rfl,rfl⟩) λu T ⟨x,m,P,j,ex,l⟩=>?_))⟩;subst ex l;obtain⟨t,rfl⟩:=j;refine wpAny_formatField_int G ⟨L,?_⟩;refine Ug (thn (VZ o _ A m (λv i=>v=.str " is wrong"/\i=m) (P.tok _) ⟨rfl,rfl⟩) λu U ⟨x,R,S,j,ex,l⟩=>?_);subst ex l;obtain⟨t,rfl⟩:=j;exact⟨B,joinParts_nil ⟨.str _,R,S.tok _,⟨_,rfl⟩,q _⟩ B⟩
end
theorem Inv.untrack{X:Cx}{l:List (AJ×Obj)}{m:St}{H:Hp}{s:AG}{e:AJ}{i:Bt->Prop}(I:Inv X l m (upd H e (.ext i)) s)(n:H e=none):Inv X l m H s:=by
 have back:∀b u,H b=some u->upd H e (.ext i) b=some u:=λb u q=>by rw[A5 (BQ q n)];exact q
 have j:∀b,upd H e (.ext i) b=none->H b=none:=λb q=>by
  by_cases hb:b=e
  ·rw[hb];exact n
  ·rwa [A5 hb]at q
 have g:∀b u,upd H e (.ext i) b=some u->u≠.ext i->H b=some u:=λb u q B=>by
  by_cases hb:b=e
  ·rw[hb,BU]at q
   cases q;exact zX rfl B
  ·rwa [A5 hb]at q
 refine⟨I.ok,I.os,I.bare,⟨I.base.keep,I.base.slot,λb u q C E=>j b (I.base.free b u q C E),I.base.there,λb A q=>g b _ (I.base.tups b A q) (λz=>nomatch z),λb o u q=>g b _ (I.base.frzs b o u q) (λz=>nomatch z),λb G q=>?_⟩,I.loc,I.cell,j _ I.free,λx c q=>j c (I.freeC x c q),λp J=>?_,λb u q=>?_,I.len⟩
 ·obtain⟨more,z⟩:=I.base.tbls b G q
  exact⟨more,g b _ z (λz=>nomatch z)⟩
 ·obtain⟨L,N,O⟩:=I.pin p J
  exact⟨L,j _ N,O⟩
 ·exact(I.hok b u (back b u q)).stay (λ_ _ _ z=>z) (λc z=>g c _ z (λz=>nomatch z)) λc A z=>g c _ z (λz=>nomatch z)
section
variable{P:A3}{w:BR}{K:AC}{mg:Str->Option AD}{base:Bt}
theorem ji{x i:Str}{st:Dr}{f C:AJ}{fd:Gf}{k:Nat}(F:Fun K x i st f fd)(o:B9 ["self", "row"] ["self", "row"] (BA st))
  (B:∀j A g s H E,PSs (Qm (CXG P w) P w K mg base ["self", "row"] i (BA st) f j A g s H E) (GB st) (kj (fb (kz C tRj)) (tBr C))):D0 P w K mg base (CXG P w) (k+1) f fd ["self", "row"] (WY C):=by
 obtain⟨R,S,kV,G,T,U,j,ct,X,rfl,I,J⟩:=F.ex
 refine fy I J o (λL H Q E ⟨e,n,h,_⟩=>by rw[h];rfl) λA g s H L Q E Y ⟨e,n,N,l,m,O⟩=>?_
 subst N;refine⟨_,B j A g s H E,?_⟩;exact⟨.ref e,rfl,n,rfl,m,λy=>⟨e,_,rfl,l,e,n,rfl,rfl,l,m.1,O⟩⟩
end
noncomputable def GH(C:AJ)(n:Int):AJ:=C+M64 * (n.toNat+1)
noncomputable def Kz(C:AJ)(ml:ML):MS:=λe S=>(ml e S).lift e λg i=>match g with
 | [.int n]=>if Nq n then .ok (.ex (GH C n) e) i else .bad
 | _=>.bad
theorem PY{C:Nat}{n:Int}(h:C < M64):GH C n % M64=C/\M64<=GH C n/\GH C n / M64 - 1=n.toNat:=by
 unfold GH;refine⟨by rw[Nat.add_mul_mod_self_left,cO h],?_,?_⟩
 ·exact Ae (Nat.le_mul_of_pos_right _ (Nat.succ_pos _)) (Nat.le_add_left _ _)
 ·rw[Nat.add_mul_div_left _ _ (show 0 < M64 by decide),Nat.div_eq_of_lt h,En,Nat.add_sub_cancel]
theorem mJ{K:AC}{h:Bt}{f:AJ}(X:K.In h)(e:Rh K (.ref f)=true):∃o,h.get? f=some o/\o.cls=.type "function":=by
 obtain⟨o,g,i⟩:=Jo.mp (show(K.lookup f).map (·.cls)=some (.type "function")from beq_iff_eq.mp e);exact⟨o,X _ _ g,i⟩
section
variable{X:Cx}{E:EW}{x:Str}{np nq pos:Pos}{e:Expr}{ml:ML}{C Gd fI:AJ}{fd:Gf}{k:Nat}
theorem RN(wd:C < M64)(G:Good X E)(hc:X.calm=true)(c:XRw X.K C Gd fI)(hg:Gl X x)(hm:X.mg x=some (.ref C))(F:D0 X.prog X.w X.K X.mg X.base (CXG X.prog X.w) k fI fd ["self", "row"] (WY C)) (hr:Fx (k+1) X.A) (hb:Binds X.K fd ["self", "row"] [])
  (ha:GA X E [e] ml) (nZ:(x==("__debug__" : Str))=false:=by decide) (he:AO [e] X.env=(false,Bi e X.env) :: AO [] X.env:=by rfl) :
  GS X E (.Raise (some (.Call (.Name x np) [e] [] nq)) none pos) (Kz C ml):=by
 intro R s J H D I ⟨ρ,l,S,T,hs,U⟩;have hh:X.A.handled=none:=I.ok.hd hc;obtain⟨bm,N,nm,q,bs,sn,sub,ab,col,dd,k0,k1,k2,k3,k5,hC,o,wc,tq⟩:=c.obj;have hN:s.heap.Ns N (s.heap.nsMap N):=.of_isNs (Us I.kIn o)
 refine OR (C:=C) (nm:=nm) (q:=q) (N:=N) (bs:=bs) (bm:=bm) (hdct:=true) (sn:=sn) (sub:=sub) (ab:=ab) (col:=col) (dd:=dd) (k0:=k0) (k1:=k1) (k2:=k2) (k3:=k3) (k5:=k5) (bmB:=UK) Ou (by decide +kernel)
  ((La I.kIn tq).hasType (by decide +kernel)) hh (by rw[he];rfl) (Vc I.kIn o wc) (K6 I hg hm ⟨rfl,?_⟩ nZ)
 have zc:=ha nq R s J H (λvs P=>∃n:Int,vs=[.int n]/\Nq n/\∀g j u,P g=none->E (GH C n) J (upd P g (.frz j u))) I ⟨ρ,l,S,T,hs,Bo.lift U T .refl λds S1 hm Y P xs l1 s1 Z=>by
  split at hm
  ·split at hm
   ·rename_i n hz
    cases Z with
    | cons Z r2=>
     cases Z;cases r2;exact⟨n,rfl,hz,λg j u L=>hm Y (upd P g (.frz j u)) J (l1.trans (Le.fresh L)) (FB s1 L).1 (T.mono (l1.trans (Le.fresh L)))⟩
   ·exact hm.elim
  ·exact hm.elim⟩
 rw[he]at zc ⊢;refine U0 (thn zc λus s2 ⟨vs,m,B,rv,n,ev,hz,w⟩=>?_);subst ev;obtain⟨u,rfl,ru⟩:=vals1 rv;refine⟨rfl,by show 1<=sizeLine;rw[M9];decide,B.kIn _ _ hC,dz o I.kIn B.kIn hN,La B.kIn tq,?_,λh' i zd hx=>?_⟩
 ·exact mJ B.kIn c.fn
 ·obtain⟨t0,g1,_,_⟩:=hx.there
  have ze:m i=none:=B.hok.fresh zd;have I3:Inv X R J (upd m i (exN C i)) { s2 with heap:=h',toks:=s2.toks }:=B.laid hx.keeps zd (bV g1)
  have qR:WY C [.ref i,.int n] (upd m i (exN C i)) (λv H4=>v=.non/\∃g j u,m g=none/\g≠i/\bx j n.toNat/\H4=upd (upd m g (.frz j u)) i (exD C i g)) (λ_ _ _=>False):=by
   refine⟨i,n,rfl,BU,hz,λg j u h1 h2 h3=>⟨rfl,g,j,u,by rwa [A5 h2]at h1,h2,h3,?_⟩⟩
   funext b
   unfold upd;split
   ·rfl
   ·split
    ·rfl
    ·rfl
  refine Fa (GY (F.run _ X.stack _ _ ⟨[.ref i,u],[]⟩ [.ref i,u] [.ref i,.int n] _ _ (hr.make C [u] []) (I3.env0.make C [u] []) (by have:=hb _ [.ref i,u] I3.kIn rfl;rwa [BV]at this) (.cons rfl (.cons ru .nil)) qR) λr s' O=>?_)
  cases r with
  | error e'=>
   obtain⟨_,_,_,_,_,_,_,_,_,z⟩:=O;exact z.elim
  | ok fl=>
   cases fl with
   | ret u'=>
    obtain⟨v,H4,I4,ς,ev,g,j,Q,L,vb,pT,rfl⟩:=I3.after O;subst ev;obtain rfl:u'=BY:=ς;obtain⟨⟨t1,g2⟩,_⟩:=I4.hok i _ BU;have qk:=PY (n:=n) wd;have I5:=I4.untrack (by rw[A5 (B8 vb)];exact ze)
    have υ:upd m g (.frz j Q) i=none:=by rw[A5 (B8 vb)];exact ze
    have χ:ExR i (GH C n) (upd m g (.frz j Q)) s'.heap:=by
     refine⟨υ,exO C t1 (some g),_,.ref t1,g2,?_,⟨?_,rfl⟩,rfl,rfl⟩
     ·show Ai C=_
      rw[qk.1]
     ·refine .inr ⟨g,j,Q,rfl,BU,qk.2.1,?_⟩
      rw[qk.2.2];exact pT
    exact⟨rfl,I4.kIn _ _ hC,⟨t1,g,g2⟩,G.madeR R J m _ s2 s' i _ B hx.new I5 χ (w g j Q L)⟩
   | next=>exact CY O
   | brk=>exact CY O
   | cont=>exact CY O
end
noncomputable def T4(g:AJ)(m:ME):ME:=λe S=>(m e S).bind λd i=>match d with
 | .exc C=>if M64<=C/\C % M64=g then .ok (.int ((C / M64 - 1:Nat):Int)) i else .bad
 | _=>.bad
theorem bG{X:Cx}{E:EW}{e:Expr}{pos:Pos}{m:ME}{j Gd P:AJ}(c:XRw X.K j Gd P)(R:XIs X.K j)(h:GE X E e m)(hb:EZ e "row" X.env (Bi e X.env)=Bi e X.env:=by rfl):GE X E (.Attribute e "row" pos) (T4 j m):=by
 intro T s U H Q I ⟨Y,l,S,Z,hs,hm⟩;obtain⟨bm,N,nm,q,bs,sn,sub,ab,col,dd,k0,k1,k2,k3,k5,hC,_⟩:=c.obj
 have G:E6 X.K j=true:=by
  unfold E6 CW;rw[hC];rfl
 refine XI hb (thn (h T s U H (λx i=>∃(C a:AJ) (o:Obj) (u:HO),x=.ref a/\i a=some (.frz o u)/\V5 o (C % M64)/\QF C i o.dict/\M64<=C/\C % M64=j/\Q (.int ((C / M64 - 1:Nat):Int)) i) I ⟨Y,l,S,Z,hs,Bo.seq hm λd S1 hm J i x l1 L r1=>?_⟩) λu L ⟨x,i,A,rx,C,a,o,u0,ex,ha,ho,hd,B,h0,q⟩=>?_)
 ·cases d <;> first | exact hm.elim | skip
  dsimp only at hm;split at hm
  ·rename_i C B
   cases r1 with
   | exc g1 g2 g3=>exact⟨C,_,_,_,rfl,g1,g2,g3,B.1,B.2,hm J i _ l1 L (.int _)⟩
  ·exact hm.elim
 ·subst ex
  obtain rfl:u=Ai a:=rx;obtain⟨g,_⟩:=A.hok a _ ha;obtain⟨od,O,hr⟩:=ho.inst A.hok g hd;obtain⟨d,rfl,t,yM⟩:=hr B;rw[h0]at O;exact YJ R A.kIn O (UY G c.na rfl yM) rfl ⟨.int _,i,A.tok _,⟨_,rfl⟩,q⟩
end L2
namespace PySem
open Sem (wp)
open PyProof.Rows (IntsAre)
section
variable{prog:A3}{w:BR}{A:BO}{E:AD->AG->Prop}{s:AG}
theorem TW{a b:AJ}{g i:Array AD}{ns B:ZLi}{P:Fin->AG->Prop}(S:s.heap.IsTuple a g)(hb:s.heap.IsTuple b i)(hi:CG g.toList ns)(T:CG i.toList B)(h:P (.done (.ret (.bool (!Srt.ltL B ns)))) s) :
  AZ (AR prog w) A (Builtin.«tuple.__le__» ⟨[.ref a,.ref b],[]⟩) P E s:=by
 obtain⟨oa,U,_,na,X⟩:=S;obtain⟨Y,Q,Z,nb,nZ⟩:=hb;have ty:s.TypeIs (.ref b) "tuple":=⟨Y,Q,Z⟩;show AZ _ _ (LX (.ref b) (.type "tuple") >>= _) P E s;refine AA (Ra ty isSubtype_tuple_tuple ?_);simp only[Cd,Ay,↓reduceIte];refine AA (gH U X (AA (gH Q nZ (AA ?_))))
 refine kL _ (λj r I=>r.1=none/\I=s/\∃is H J L,j=List.zip is H/\CG is J/\CG H L/\Srt.ltL L J=Srt.ltL B ns/\decide (H.length < is.length)=decide (i.size < g.size)) _ ?_ ?_ _ _
  ⟨rfl,rfl,g.toList,i.toList,ns,B,rfl,hi,T,rfl,by simp⟩
 ·rintro⟨u,v⟩ j r I ⟨N,rfl,is,H,J,L,C,G,l,o,O⟩
  cases G with
  | nil=>simp at C
  | cons n t G=>
   cases l with
   | nil=>simp at C
   | cons m R l=>
    rw[Hb]at C;obtain⟨ϑ,rfl⟩:=DG C;cases ϑ;rw[Srt.ltL]at o;refine AA (Rb ?_)
    by_cases e:n=m
    ·rw[qX e.symm]at o
     subst e;rw[qY (by simp)];exact AE ⟨rfl,rfl,_,_,_,_,rfl,G,l,o,by simpa using O⟩
    ·rw[qY (B8 e)]at o
     rw[qX (by simp[e])];refine AA (gJ (AA ?_));show AZ _ _ (BG .LtE (.int n t) (.int m R)) _ _ _;refine mX ?_;rw[show decide (n<=m) = !Srt.ltL B ns by rw[<-o];by_cases q:m < n <;> simp[q] <;> lia];exact AA (AE (AE (AE h)))
 ·rintro⟨r1,r2⟩ I ⟨N,rfl,is,H,J,L,C,G,l,o,O⟩
  dsimp only at N;subst N;refine AE ?_;show P (.done (.ret (.bool (decide (g.size<=i.size))))) I
  have:decide (g.size<=i.size) = !Srt.ltL B ns:=by
   have e0:decide (g.size<=i.size) = !decide (i.size < g.size):=by
    by_cases q:i.size < g.size
    ·rw[wX q,wY (Nat.not_le.mpr q)];rfl
    ·rw[wY q,wX (Hx.mp q)];rfl
   rw[e0,<-o,<-O]
   cases G with
   | nil=>cases l <;> simp[Srt.ltL]
   | cons n t G=>
    cases l with
    | nil=>simp[Srt.ltL]
    | cons m R l=>simp at C
  rw[this];exact h
end
end PySem
namespace L2
open PySem PySem.Spec PyProof.Rows
section
variable{X:Cx}
noncomputable def leT(x y:D)(S:Sto):Res D:=match x,y with
 | .tup g,.tup l=>match Ez g,Ez l with
  | some i,some j=>.ok (.bl (!Srt.ltL j i)) S
  | _,_=>.bad
 | _,_=>.bad
theorem jI{x y d:D}{S g:Sto}(h:leT x y S=.ok d g):∃ns i:ZLi,x=.tup (ns.map D.int)/\y=.tup (i.map D.int)/\d=.bl (!Srt.ltL i ns)/\g=S:=by
 unfold leT at h;split at h
 ·split at h
  ·rename_i j l
   cases h;exact⟨_,_,by rw[GK j],by rw[GK l],rfl,rfl⟩
  ·cases h
 ·cases h
theorem i8(hu:X.A.units+64 < Dq):OpR X (BG .LtE) (rD X.K leT):=by
 intro ζ s σ H x y v u Q I J L ⟨N,S,d1,d2,d,S',O,P,R,hm,k⟩;obtain⟨ns,ms,rfl,rfl,rfl,rfl⟩:=jI hm
 cases P with
 | @tup _ j v1 l T=>
  cases R with
  | @tup _ m v2 B U=>
   cases J;cases L;rw[KY T]at l;rw[KY U]at B;obtain⟨is,Y,Z,_⟩:=I.tuple (.inl (.inl l));obtain⟨js,w2,t2,_⟩:=I.tuple (.inl (.inl B));have C:s.heap.IsTuple j is.toArray:=Z;have E:s.heap.IsTuple m js.toArray:=t2
   have G:s.TypeIs (.ref j) "tuple":=let ⟨o,g,i,_⟩:=C;⟨o,g,i⟩
   have ϒ:s.TypeIs (.ref m) "tuple":=let ⟨o,g,i,_⟩:=E;⟨o,g,i⟩
   exact wpAny_richCompare_same_room (op:=.LtE) G ϒ kJ
    (Du kJ G F.entry_tuple_le (TW C E (by simpa using intsAre_of Y) (by simpa using intsAre_of w2) ⟨_,rfl,(λe=>nomatch e),.bl _,H,I,rfl,k N H _ .refl O (.bl _)⟩) (F.args_tuple_le_2 _ _)) (by lia)
end
end L2
namespace L4
open PySem L2
inductive Cel where
 | no | fz (o:Ob) | ow (i:Nat)
noncomputable abbrev Fz:=Nat->Cel
inductive Sl where
 | u | v (d:D) | z (o:Ob) | y (o:Ob) | w (i:Nat) (o:Ob) | q (P:(Nat->Option Ob)->D->Prop)
noncomputable def Sl.ok(S0:Sto)(F:Fz)(S:Sto):Sl->Option D->Prop
 | .u,_=>True
 | .v d,x=>x=some d
 | .z o,x=>∃n,x=some (.ref n)/\F n=.fz o
 | .y o,x=>∃n,x=some (.ref n)/\F n=.fz o/\S0.length<=n
 | .w i o,x=>∃n,x=some (.ref n)/\F n=.ow i/\S[n]?=some o
 | .q P,x=>∃d,x=some d/\∀L:Nat->Option Ob,(∀n o,F n=.fz o->L n=some o)->P L d
structure Vs(S0:Sto)(A:List Sl)(e:Lo)(F:Fz)(S:Sto):Prop where
 kp:Keeps S0 S
 fz:∀n o,F n=.fz o->S[n]?=some o
 ow:∀n i,F n=.ow i->S0.length<=n/\n < S.length
 hi:∀n,S.length<=n->F n=.no
 sl:∀(i:Nat) (a:Sl),A[i]?=some a->∃x,e[i]?=some x/\a.ok S0 F S x
noncomputable def Fle(F g:Fz):Prop:=∀n o,F n=.fz o->g n=.fz o
theorem Fle.refl(F:Fz):Fle F F:=λ_ _ h=>h
theorem Fle.trans(a:Fle F G)(b:Fle G H):Fle F H:=λn o h=>b n o (a n o h)
noncomputable def P4(F:Fz)(S g:Sto):Fz:=λn=>if n < S.length then F n else match g[n]? with
 | some o=>.fz o
 | none=>.no
section
variable{S0 S S':Sto}{A B:List Sl}{e:Lo}{F:Fz}{α β γ ρ σ τ:Type}
theorem Kj(h:n < S.length):P4 F S S' n=F n:=qX h
theorem Kk(h:S.length<=n)(ho:S'[n]?=some o):P4 F S S' n=.fz o:=by
 unfold P4;rw[qY (Hx.mpr h),ho]
theorem GJ(h:S[n]?=some o):n < S.length:=(AI.mp h).1
theorem Sl.mono{S0:Sto}{F l:Fz}{S S':Sto}{a:Sl}{x:Option D}(h:a.ok S0 F S x)(m:∀n o,F n=.fz o->l n=.fz o)(C:∀n i o,F n=.ow i->S[n]?=some o->l n=.ow i/\S'[n]?=some o):a.ok S0 l S' x:=by
 cases a with
 | u=>trivial
 | v d=>exact h
 | z o=>obtain⟨n,g,j⟩:=h;exact⟨n,g,m _ _ j⟩
 | y o=>obtain⟨n,g,j,s⟩:=h;exact⟨n,g,m _ _ j,s⟩
 | w i o=>obtain⟨n,g,j,s⟩:=h;exact⟨n,g,C _ _ _ j s⟩
 | q P=>obtain⟨d,g,j⟩:=h;exact⟨d,g,λL E=>j L λn o q=>E n o (m n o q)⟩
theorem Vs.fle(h:Vs S0 A e F S)(S':Sto):Fle F (P4 F S S'):=λn o q=>by rw[Kj (GJ (h.fz n o q))];exact q
theorem Vs.grow(h:Vs S0 A e F S)(k:Keeps S S'):Vs S0 A e (P4 F S S') S':=by
 refine⟨h.kp.trans k,λn o q=>?_,λn i q=>?_,λn j=>?_,λi a m=>?_⟩
 ·unfold P4 at q
  split at q
  ·rename_i j
   rw[k.2 n j];exact h.fz n o q
  ·cases g:S'[n]? with
   | none=>rw[g]at q;cases q
   | some s=>rw[g]at q;cases q;rfl
 ·unfold P4 at q
  split at q
  ·exact⟨(h.ow n i q).1,AY (h.ow n i q).2 k.1⟩
  ·cases g:S'[n]? with
   | none=>rw[g]at q;cases q
   | some s=>rw[g]at q;cases q
 ·unfold P4
  rw[qY (Hx.mpr (Ae k.1 j)),CV j]
 ·obtain⟨x,C,E⟩:=h.sl i a m
  exact⟨x,C,Sl.mono E (h.fle S') λn i o G l=>⟨by rw[Kj (GJ l)];exact G,by rw[k.2 n (GJ l)];exact l⟩⟩
theorem Vs.cons(h:Vs S0 A e F S)(g:a.ok S0 F S x):Vs S0 (a :: A) (x :: e) F S:=
 ⟨h.kp,h.fz,h.ow,h.hi,λi b hb=>by
  cases i with
  | zero=>cases hb;exact⟨x,rfl,g⟩
  | succ i=>exact h.sl i b hb⟩
theorem Vs.set(h:Vs S0 A e F S)(i:Nat)(g:a.ok S0 F S x):Vs S0 (A.set i a) (e.set i x) F S:=
 ⟨h.kp,h.fz,h.ow,h.hi,λj b hb=>by
  by_cases c:i=j
  ·subst c
   rw[IT]at hb;rw[qX rfl]at hb;split at hb
   ·rename_i l
    cases hb;obtain⟨y,m,_⟩:=h.sl i (A[i]) (BC l);exact⟨x,by rw[IT];rw[qX rfl,qX (AI.mp m).1],g⟩
   ·cases hb
  ·rw[BF c]at hb ⊢
   exact h.sl j b hb⟩
inductive Wk:List Sl->List Sl->Prop where
 | nil:Wk [] []
 | same {a:Sl} {A B:List Sl}:Wk A B->Wk (a :: A) (a :: B)
 | drop {a:Sl} {A B:List Sl}:Wk A B->Wk (a :: A) (.u :: B)
 | less {o:Ob} {A B:List Sl}:Wk A B->Wk (.y o :: A) (.z o :: B)
theorem Wk.at:∀{A B:List Sl},Wk A B->∀(i:Nat) (b:Sl),B[i]?=some b->∃a,A[i]?=some a/\(b=.u∨b=a∨∃o,a=.y o/\b=.z o)
 | _,_,.nil,i,b,h=>by simp at h
 | _,_,.same w,0,b,h=>by cases h;exact⟨_,rfl,.inr (.inl rfl)⟩
 | _,_,.less w,0,b,h=>by cases h;exact⟨_,rfl,.inr (.inr ⟨_,rfl,rfl⟩)⟩
 | _,_,.less w,i+1,b,h=>Wk.at w i b h
 | _,_,.drop w,0,b,h=>by cases h;exact⟨_,rfl,.inl rfl⟩
 | _,_,.same w,i+1,b,h=>Wk.at w i b h
 | _,_,.drop w,i+1,b,h=>Wk.at w i b h
theorem Wk.refl:∀A:List Sl,Wk A A
 | []=>.nil
 | _ :: A=>.same (Wk.refl A)
theorem Vs.weak(h:Vs S0 A e F S)(w:Wk A B):Vs S0 B e F S:=⟨h.kp,h.fz,h.ow,h.hi,λi b hb=>by
 obtain⟨a,l,m⟩:=w.at i b hb;obtain⟨x,g,j⟩:=h.sl i a l
 rcases m with rfl | rfl | ⟨o,rfl,rfl⟩
 ·exact⟨x,g,trivial⟩
 ·exact⟨x,g,j⟩
 ·obtain⟨n,s,C,_⟩:=j
  exact⟨x,g,n,s,C⟩⟩
noncomputable def Sl.oth(i:Nat):Sl->Bool
 | .w k _=>!(Nat.beq k i)
 | _=>true
theorem im(h:((A.set i .u).all (Sl.oth i))=true)(l:j≠i)(m:A[j]?=some (.w k o)):k≠i:=by
 have s:(A.set i .u)[j]?=some (.w k o):=by rw[BF (B8 l)];exact m
 have:=By.mp h _ (CB s);intro e;subst e;have g:(!(Nat.beq k k))=true:=this;rw[Nat.beq_refl]at g;cases g
theorem Vs.put(h:Vs S0 A e F S)(I:((A.set i .u).all (Sl.oth i))=true)(Q:A[i]?=some (.w i o))(J:e[i]?=some (some (.ref n)))(l:F n=.ow i):Vs S0 (A.set i (.w i E)) e F (S.set n E):=by
 have G:=h.ow n i l;refine⟨h.kp.set G.1 E,λk q s=>?_,λk j q=>by rw[cT];exact h.ow k j q,λk H=>h.hi k (by rw[cT]at H;exact H),λj b hb=>?_⟩
 ·have:n≠k:=λc=>by subst c;rw[l]at s;cases s
  rw[BF this];exact h.fz k q s
 ·by_cases c:i=j
  ·subst c
   rw[IT]at hb;rw[qX rfl]at hb;split at hb
   ·cases hb
    exact⟨_,J,n,rfl,l,by rw[IT];rw[qX rfl,qX G.2]⟩
   ·cases hb
  ·rw[BF c]at hb
   obtain⟨x,L,g⟩:=h.sl j b hb;refine⟨x,L,?_⟩
   cases b with
   | u=>trivial
   | v d=>exact g
   | z q=>exact g
   | y q=>exact g
   | q P=>exact g
   | w k q=>
    obtain⟨m,N,C,O⟩:=g;refine⟨m,N,C,?_⟩
    have:n≠m:=λz=>by
     subst z;rw[l]at C;cases C;exact im I (λz=>c z.symm) hb rfl
    rw[BF this];exact O
theorem Vs.own(h:Vs S0 A e F S)(k:Keeps S S'){i n:Nat}{o:Ob}(s:S.length<=n)(ho:S'[n]?=some o):∃F',Vs S0 (A.set i (.w i o)) (e.set i (some (.ref n))) F' S'/\Fle F F':=by
 have g:=h.grow k;have C:=GJ ho
 have E:Fle F (λj=>if j=n then Cel.ow i else P4 F S S' j):=λj q l=>by
  have:j≠n:=λc=>by subst c;exact zX (GJ (h.fz _ _ l)) (Hx.mpr s)
  show(if j=n then Cel.ow i else _)=_;rw[qY this];exact h.fle S' _ _ l
 refine⟨λj=>if j=n then .ow i else P4 F S S' j,(Vs.set (a:=.w i o) (x:=some (.ref n)) ⟨g.kp,λj q l=>?_,λj q l=>?_,λj G=>?_,λj b hb=>?_⟩ i ⟨n,rfl,qX rfl,ho⟩),E⟩
 ·split at l
  ·cases l
  ·exact g.fz j q l
 ·split at l
  ·rename_i c;subst c;exact⟨Ae h.kp.1 s,C⟩
  ·exact g.ow j q l
 ·have:j≠n:=λc=>by subst c;exact zX C (Hx.mpr G)
  show(if j=n then Cel.ow i else _)=_;rw[qY this];exact g.hi j G
 ·obtain⟨x,I,J⟩:=h.sl j b hb
  refine⟨x,I,Sl.mono J E λm j q L H=>?_⟩;have hm:=GJ H
  have:m≠n:=λc=>by subst c;exact zX hm (Hx.mpr s)
  refine⟨?_,by rw[k.2 m hm];exact H⟩;show(if m=n then Cel.ow i else _)=_;rw[qY this,Kj hm];exact L
noncomputable abbrev Rk(α:Type):=α->Sto->D->Sto->Prop
noncomputable def rV(enc:α->D):Rk α:=λv _ d _=>d=enc v
noncomputable def rO(g:α->Ob):Rk α:=λv _ d S=>∃n,d=.ref n/\S[n]?=some (g v)
noncomputable def rN(g:α->Ob):Rk α:=λv S0 d S=>∃n,d=.ref n/\S0.length<=n/\S[n]?=some (g v)
noncomputable def VE(A:List Sl)(m:ME)(R:Rk α)(p:Option α):Prop:=∀v,p=some v->∀S0 e F S,Vs S0 A e F S->∃d S',m e S=.ok d S'/\Keeps S S'/\R v S d S'
noncomputable def VB(A:List Sl)(t:MT)(p:Option Bool):Prop:=∀v,p=some v->∀S0 e F S,Vs S0 A e F S->∃S',t e S=.ok v S'/\Keeps S S'
noncomputable def VL(A:List Sl)(ml:ML)(enc:α->D)(p:Option (List α)):Prop:=∀v,p=some v->∀S0 e F S,Vs S0 A e F S->∃S',ml e S=.ok (v.map enc) S'/\Keeps S S'
noncomputable def VK(A:List Sl)(i:MI)(enc:α->D)(p:Option (List α)):Prop:=∀v,p=some v->∀S0 e F S,Vs S0 A e F S->∃w S',i e S=.ok w S'/\Keeps S S'/\∀g,Keeps S' g->w g=some (v.map enc)
noncomputable def VI(A:List Sl)(j:MI)(enc:α->D)(p:Option (List α)):Prop:=∀v,p=some v->∀S0 e F S,Vs S0 A e F S->∃w S',j e S=.ok w S'/\Keeps S S'/\∀g i,Fle (P4 F S S') g->(∀n o,g n=.fz o->i[n]?=some o)->w i=some (v.map enc)
theorem VI.k(h:VI A m enc p):VK A m enc p:=λv o S0 e F S i=>by
 obtain⟨w,S',s,j,C⟩:=h v o S0 e F S i;have g:=i.grow j;exact⟨w,S',s,j,λl k=>C _ l (g.fle l) (g.grow k).fz⟩
noncomputable def eT(enc:α->D)(l:List α):D:=.tup (l.map enc)
noncomputable def eP(a:α->D)(b:β->D)(x:α×β):D:=.tup [a x.1,b x.2]
noncomputable def eO(a:α->D):Option α->D
 | none=>.non
 | some x=>a x
noncomputable def eU(_:Unit):D:=.non
noncomputable def eF(l:ZLi):D:=.fro (l.map D.int)
noncomputable def oL(enc:α->D)(l:List α):Ob:=.lst (l.map enc)
theorem g7(h:VE A m R p)(i:∀v S d S',R v S d S'->R' v S d S'):VE A m R' p:=λv g S0 e F S j=>by
 obtain⟨d,S',l,o,s⟩:=h v g S0 e F S j;exact⟨d,S',l,o,i _ _ _ _ s⟩
theorem EI(h:VE A m (rN g) p):VE A m (rO g) p:=g7 h λv S d S' ⟨n,i,_,j⟩=>⟨n,i,j⟩
theorem Ab(h:A[i]?=some (.v (enc v))):VE A (AQ i) (rV enc) (some v):=λ_ g S0 e F S j=>by
 cases g;obtain⟨x,l,m⟩:=j.sl i _ h;cases m;exact⟨_,S,by unfold AQ;rw[l],Keeps.refl S,rfl⟩
theorem Ch(h:A[i]?=some (.z (j v))):VE A (AQ i) (rO j) (some v):=λ_ l S0 e F S g=>by
 cases l;obtain⟨x,m,n,rfl,o⟩:=g.sl i _ h;exact⟨_,S,by unfold AQ;rw[m],Keeps.refl S,n,rfl,g.fz _ _ o⟩
theorem B0(h:A[i]?=some (.y (j v))):VE A (AQ i) (rO j) (some v):=λ_ l S0 e F S g=>by
 cases l;obtain⟨x,m,n,rfl,o,_⟩:=g.sl i _ h;exact⟨_,S,by unfold AQ;rw[m],Keeps.refl S,n,rfl,g.fz _ _ o⟩
theorem Gr(h:A[i]?=some (.w k (g v))):VE A (AQ i) (rO g) (some v):=λ_ j S0 e F S l=>by
 cases j;obtain⟨x,m,n,rfl,s,o⟩:=l.sl i _ h;exact⟨_,S,by unfold AQ;rw[m],Keeps.refl S,n,rfl,o⟩
theorem BB(h:d=enc v):VE A (mC d) (rV enc) (some v):=λ_ g S0 e F S i=>by
 cases g;exact⟨d,S,rfl,Keeps.refl S,h⟩
theorem Ap(h:p.bind q=some v):∃x,p=some x/\q x=some v:=Rn.mp h
theorem IZ{f:D->D->Sto->Res D}{a b:ME}{j:α->D}{l:β->D}{m:γ->D}{o:Option α}{s:Option β}{g:α->β->Option γ}(H:VE A a (rV j) o)(hb:VE A b (rV l) s)
  (I:∀x y z S,g x y=some z->f (j x) (l y) S=.ok (m z) S):VE A (m2 f a b) (rV m) (o.bind λx=>s.bind λy=>g x y):=λv i S0 e F S C=>by
 obtain⟨x,J,i⟩:=Ap i;obtain⟨y,L,N⟩:=Ap i;obtain⟨d1,O,P,E,rfl⟩:=H x J S0 e F S C;obtain⟨d2,G,Q,R,rfl⟩:=hb y L S0 e _ O (C.grow E);exact⟨_,G,D6 P Q (I x y v G N),E.trans R,rfl⟩
theorem ZH{f:D->D->Sto->Res D}{a b:ME}{j:α->D}{l:β->Ob}{m:γ->D}{o:Option α}{s:Option β}{g:α->β->Option γ}(H:VE A a (rV j) o)(hb:VE A b (rO l) s)
  (I:∀x y z S (n:Nat),S[n]?=some (l y)->g x y=some z->f (j x) (.ref n) S=.ok (m z) S):VE A (m2 f a b) (rV m) (o.bind λx=>s.bind λy=>g x y):=λv i S0 e F S C=>by
 obtain⟨x,J,i⟩:=Ap i;obtain⟨y,L,N⟩:=Ap i;obtain⟨d1,O,P,E,rfl⟩:=H x J S0 e F S C;obtain⟨d2,G,Q,R,n,rfl,T⟩:=hb y L S0 e _ O (C.grow E);exact⟨_,G,D6 P Q (I x y v G n T N),E.trans R,rfl⟩
theorem g8{f:D->D->Sto->Res D}{a b:ME}{j:α->Ob}{l:β->D}{m:γ->D}{o:Option α}{s:Option β}{g:α->β->Option γ}(I:VE A a (rO j) o)(hb:VE A b (rV l) s)
  (J:∀x y z S (n:Nat),S[n]?=some (j x)->g x y=some z->f (.ref n) (l y) S=.ok (m z) S):VE A (m2 f a b) (rV m) (o.bind λx=>s.bind λy=>g x y):=λv i S0 e F S C=>by
 obtain⟨x,L,i⟩:=Ap i;obtain⟨y,N,O⟩:=Ap i;obtain⟨d1,P,Q,E,n,rfl,R⟩:=I x L S0 e F S C;obtain⟨d2,G,T,H,rfl⟩:=hb y N S0 e _ P (C.grow E);exact⟨_,G,D6 Q T (J x y v G n (H.at R) O),E.trans H,rfl⟩
theorem Dl(h:VE A m (rV D.bl) p):VB A (mB m) p:=λv g S0 e F S i=>by
 obtain⟨d,S',j,l,rfl⟩:=h v g S0 e F S i;exact⟨S',UT j,l⟩
theorem OY:VB A Ju (some true):=λv g S0 e F S i=>by cases g;exact⟨S,rfl,Keeps.refl S⟩
theorem JE(h:VB A t p):VB A (Kd t) (p.bind λb=>some (!b)):=λv g S0 e F S i=>by
 obtain⟨x,j,l⟩:=Ap g;cases l;obtain⟨S',m,o⟩:=h x j S0 e F S i;exact⟨S',aJ m,o⟩
theorem PF(h:VB A t p)(o:VB A u q):VB A (ON t u) (p.bind λb=>if b=true then q else some false):=λv s S0 e F S i=>by
 obtain⟨x,C,j⟩:=Ap s;obtain⟨l,m,g⟩:=h x C S0 e F S i
 cases x with
 | true=>
  obtain⟨E,G,H⟩:=o v j S0 e _ l (i.grow g);exact⟨E,(fG m).trans G,g.trans H⟩
 | false=>cases j;exact⟨l,fF m,g⟩
theorem Hi(h:VB A t p)(o:VB A u q):VB A (mOr t u) (p.bind λb=>if b=true then some true else q):=λv s S0 e F S i=>by
 obtain⟨x,C,j⟩:=Ap s;obtain⟨l,m,g⟩:=h x C S0 e F S i
 cases x with
 | false=>
  obtain⟨E,G,H⟩:=o v j S0 e _ l (i.grow g);exact⟨E,(SJ m).trans G,g.trans H⟩
 | true=>cases j;exact⟨l,Z9 m,g⟩
theorem HJ:∀(v:α) (S S1:Sto) (d:D) (S':Sto),S.length<=S1.length->rV enc v S1 d S'->rV enc v S d S':=λ_ _ _ _ _ _ h=>h
theorem Zr:∀(v:α) (S S1:Sto) (d:D) (S':Sto),S.length<=S1.length->rN g v S1 d S'->rN g v S d S':=λ_ _ _ _ _ l ⟨n,i,j,m⟩=>⟨n,i,Ae l j,m⟩
inductive Fw(ρ σ:Type) where
 | rt (r:ρ) | nx (s:σ) | bk (s:σ) | ct (s:σ)
noncomputable def VG(S0:Sto)(F:Fz)(S':Sto)(R:Rk ρ)(B:σ->List Sl)(g:Fl):Fw ρ σ->Prop
 | .nx s=>∃i j,g=.nx i/\Vs S0 (B s) i j S'/\Fle F j
 | .ct s=>∃i j,g=.ct i/\Vs S0 (B s) i j S'/\Fle F j
 | .bk s=>∃i j,g=.bk i/\Vs S0 (B s) i j S'/\Fle F j
 | .rt r=>∃d,g=.rt d/\R r S0 d S'/\Keeps S0 S'
noncomputable def VS(A:List Sl)(b:MS)(R:Rk ρ)(p:Option (Fw ρ σ))(B:σ->List Sl):Prop:=∀f,p=some f->∀S0 e F S,Vs S0 A e F S->∃g S',b e S=.ok g S'/\VG S0 F S' R B g f
noncomputable def A2(p:Option (Fw ρ σ))(q:σ->Option (Fw ρ τ)):Option (Fw ρ τ):=match p with
 | some (.nx s)=>q s
 | some (.rt r)=>some (.rt r)
 | _=>none
theorem VG.up{S0:Sto}{F E:Fz}{S':Sto}{R:Rk ρ}{B:σ->List Sl}{g:Fl}{f:Fw ρ σ}(l:Fle F E)(h:VG S0 E S' R B g f):VG S0 F S' R B g f:=by
 cases f with
 | rt r=>exact h
 | nx s=>obtain⟨i,j,m,o,C⟩:=h;exact⟨i,j,m,o,l.trans C⟩
 | bk s=>obtain⟨i,j,m,o,C⟩:=h;exact⟨i,j,m,o,l.trans C⟩
 | ct s=>obtain⟨i,j,m,o,C⟩:=h;exact⟨i,j,m,o,l.trans C⟩
theorem BD{a b:MS}{R:Rk ρ}{p:Option (Fw ρ σ)}{q:σ->Option (Fw ρ τ)}{B:σ->List Sl}{C:τ->List Sl}(E:VS A a R p B)(hb:∀s,VS (B s) b R (q s) C):VS A (BP a b) R (A2 p q) C:=λf j S0 e F S G=>by
 cases p with
 | none=>cases j
 | some w=>
  obtain⟨g,m,o,i⟩:=E _ rfl S0 e F S G
  cases w with
  | nx s=>
   obtain⟨H,I,rfl,i,l⟩:=i;obtain⟨J,L,N,O⟩:=hb s f j S0 H I m i;exact⟨J,L,(DX o).trans N,O.up l⟩
  | rt r=>
   cases j;obtain⟨d,rfl,i,l⟩:=i;exact⟨_,m,Zi o,d,rfl,i,l⟩
  | bk s=>cases j
  | ct s=>cases j
theorem FX{R:Rk ρ}{B:σ->List Sl}{s:σ}(w:Wk A (B s)):VS A sNx R (some (.nx s)) B:=λf g S0 e F S i=>by
 cases g;exact⟨_,S,rfl,e,F,rfl,i.weak w,Fle.refl F⟩
noncomputable def Pm(g:σ->τ)(p:Option (Fw ρ σ)):Option (Fw ρ τ):=match p with
 | some (.nx s)=>some (.nx (g s))
 | some (.rt r)=>some (.rt r)
 | some (.bk s)=>some (.bk (g s))
 | some (.ct s)=>some (.ct (g s))
 | none=>none
theorem JB{b:MS}{R:Rk ρ}{p:Option (Fw ρ σ)}{g:σ->τ}{B:σ->List Sl}{C:τ->List Sl}(h:VS A b R p B)(w:∀s,Wk (B s) (C (g s))):VS A b R (Pm g p) C:=λf j S0 e F S H=>by
 cases p with
 | none=>cases j
 | some x=>
  obtain⟨g,E,G,i⟩:=h _ rfl S0 e F S H
  cases x with
  | nx s=>cases j;obtain⟨l,m,rfl,i,o⟩:=i;exact⟨_,E,G,l,m,rfl,i.weak (w s),o⟩
  | rt r=>cases j;exact⟨_,E,G,i⟩
  | bk s=>cases j;obtain⟨l,m,rfl,i,o⟩:=i;exact⟨_,E,G,l,m,rfl,i.weak (w s),o⟩
  | ct s=>cases j;obtain⟨l,m,rfl,i,o⟩:=i;exact⟨_,E,G,l,m,rfl,i.weak (w s),o⟩
theorem DC(h:VE A m (rV enc) p):VS A (B5 i m) R (p.bind λv=>some (.nx v)) (λv=>A.set i (.v (enc v))):=λf j S0 e F S g=>by
 obtain⟨v,l,o⟩:=Ap j;cases o;obtain⟨d,S',s,C,rfl⟩:=h v l S0 e F S g;exact⟨_,S',JI s,_,_,rfl,(g.grow C).set i rfl,g.fle S'⟩
theorem JA(h:VE A m (rN j) p):VS A (B5 i m) R (p.bind λv=>some (.nx v)) (λv=>A.set i (.y (j v))):=λf o S0 e F S g=>by
 obtain⟨v,s,C⟩:=Ap o;cases C;obtain⟨d,S',E,G,n,rfl,l,H⟩:=h v s S0 e F S g;exact⟨_,S',JI E,_,_,rfl,(g.grow G).set (a:=.y (j v)) i ⟨n,rfl,Kk l H,Ae g.kp.1 l⟩,g.fle S'⟩
theorem Kv(h:VE A m (rN j) p):VS A (B5 i m) R (p.bind λv=>some (.nx v)) (λv=>A.set i (.w i (j v))):=λf l S0 e F S g=>by
 obtain⟨v,o,s⟩:=Ap l;cases s;obtain⟨d,S',C,E,n,rfl,G,H⟩:=h v o S0 e F S g;obtain⟨I,J,L⟩:=g.own E (i:=i) G H;exact⟨_,S',JI C,_,I,rfl,J,L⟩
theorem Dy{m:ME}{enc:ρ->D}{p:Option ρ}{B:σ->List Sl}(h:VE A m (rV enc) p):VS A (DU m) (rV enc) (p.bind λv=>some (.rt v)) B:=λf i S0 e F S g=>by
 obtain⟨v,j,l⟩:=Ap i;cases l;obtain⟨d,S',o,s,rfl⟩:=h v j S0 e F S g;exact⟨_,S',NP o,_,rfl,rfl,g.kp.trans s⟩
theorem Kw{m:ME}{i:ρ->Ob}{p:Option ρ}{B:σ->List Sl}(h:VE A m (rN i) p):VS A (DU m) (rN i) (p.bind λv=>some (.rt v)) B:=λf j S0 e F S g=>by
 obtain⟨v,l,o⟩:=Ap j;cases o;obtain⟨d,S',s,C,n,rfl,E,G⟩:=h v l S0 e F S g;exact⟨_,S',NP s,_,rfl,⟨n,rfl,Ae g.kp.1 E,G⟩,g.kp.trans C⟩
theorem WM{i:Nat}{j:ρ->Ob}{v:ρ}{B:σ->List Sl}{k:Nat}(h:A[i]?=some (.w k (j v))):VS A (DU (AQ i)) (rN j) (some (.rt v)) B:=λf l S0 e F S g=>by
 cases l;obtain⟨x,m,n,rfl,o,s⟩:=g.sl i _ h;exact⟨_,S,NP (d:=.ref n) (by unfold AQ;rw[m]),_,rfl,⟨n,rfl,(g.ow _ _ o).1,s⟩,g.kp⟩
theorem FY{t:MT}{a b:MS}{R:Rk ρ}{pt:Option Bool}{p q:Option (Fw ρ σ)}{B:σ->List Sl}(G:VB A t pt)(H:VS A a R p B)(hb:VS A b R q B):VS A (sIf t a b) R (pt.bind λc=>if c=true then p else q) B:=λf I S0 e F S i=>by
 obtain⟨c,J,s⟩:=Ap I;obtain⟨j,C,E⟩:=G c J S0 e F S i
 cases c with
 | true=>
  obtain⟨g,l,m,o⟩:=H f s S0 e _ j (i.grow E);exact⟨g,l,(Px C).trans m,o.up (i.fle j)⟩
 | false=>
  obtain⟨g,l,m,o⟩:=hb f s S0 e _ j (i.grow E);exact⟨g,l,(Px C).trans m,o.up (i.fle j)⟩
noncomputable def UO(l:List α)(x:α):Option (List α):=if l.length < 1000000 then some (l++[x])else none
noncomputable def Lw(l k:List α):Option (List α):=if l.length+k.length<=1000000 then some (l++k)else none
theorem lm(h:n < 1000000):n < sizeLine:=AY h (by decide)
theorem jJ(h:n<=1000000):n<=sizeLine:=Ae h (by decide)
theorem O5(hi:A[i]?=some (.w i (oL enc l)))(h:VE A m (rV enc) p)(H:((A.set i .u).all (Sl.oth i))=true) :
  VS A (Ic (NU (AQ i) m)) R (p.bind λv=>(UO l v).bind λj=>some (.nx j)) (λj=>A.set i (.w i (oL enc j))):=λf I S0 e F S o=>by
 obtain⟨v,J,g⟩:=Ap I;obtain⟨j,g,L⟩:=Ap g;cases L;unfold UO at g;split at g
 ·rename_i N
  cases g;obtain⟨x,C,n,rfl,O,s⟩:=o.sl i _ hi;obtain⟨d,S',P,E,rfl⟩:=h v J S0 e F S o;have Q:=o.grow E;have G:=V0 (mo:=AQ i) (e:=e) (S:=S) (S1:=S) (n:=n) (by unfold AQ;rw[C]) s P (E.at s) (by rw[AL];exact lm N);rw[show l.map enc++[enc v]=(l++[v]).map enc by simp]at G;exact⟨_,_,Sg G,e,_,rfl,Q.put H hi C (by rw[Kj (GJ s)];exact O),o.fle S'⟩
 ·cases g
noncomputable def VT(g:MG)(enc:α->D)(t:α->List Sl->List Sl):Prop:=∀x S0 A e F S,Vs S0 A e F S->∃i,g (enc x) e S=.ok i S/\Vs S0 (t x A) i F S
theorem MP:VT (tgN i) enc (λx A=>A.set i (.v (enc x))):=λx S0 A e F S g=>⟨_,rfl,g.set (a:=.v (enc x)) i rfl⟩
theorem WL:VT (KN 2 (Dm (tgN i) (Dm (tgN j) LR))) (eP a b) (λx A=>(A.set i (.v (a x.1))).set j (.v (b x.2))):=λx S0 A e F S g=>⟨_,rfl,(g.set (a:=.v (a x.1)) i rfl).set (a:=.v (b x.2)) j rfl⟩
noncomputable def Gx:List α->σ->(σ->α->Option (Fw ρ σ))->Option (Fw ρ σ)
 | [],s,_=>some (.nx s)
 | x :: l,s,q=>match q s x with
  | some (.nx g)=>Gx l g q
  | some (.ct g)=>Gx l g q
  | some (.bk g)=>some (.nx g)
  | some (.rt r)=>some (.rt r)
  | none=>none
theorem ci{enc:α->D}{g:MG}{t:α->List Sl->List Sl}{b:MS}{R:Rk ρ}{q:σ->α->Option (Fw ρ σ)}{B:σ->List Sl}(hg:VT g enc t)(hb:∀s x,VS (t x (B s)) b R (q s x) B){w:Nd}{S0:Sto}{U:Fz}{i:List α}
  (hw:∀X Y,Fle U X->(∀n o,X n=.fz o->Y[n]?=some o)->w Y=some (i.map enc)):∀(l:List α) (k:Nat),i.drop k=l->∀(s:σ) (f:Fw ρ σ),Gx l s q=some f->∀e F S,Vs S0 (B s) e F S->Fle U F->∃h S',Gk w g b (l.length) k e S=.ok h S'/\VG S0 U S' R B h f:=by
 intro l
 induction l with
 | nil=>
  intro k P s f m e F S N C;cases m
  have:i.length<=k:=by
   have:=congrArg Ec P;rw[CC,B7]at this
   lia
  refine⟨_,S,?_,e,F,rfl,N,C⟩;unfold Gk;rw[hw F S C N.fz];dsimp only;rw[CV (by rw[AL];exact this)]
 | cons x l Z=>
  intro k P s f m e F S N C
  have hx:i[k]?=some x:=by
   have:=congrArg (λz=>z[0]?) P;rw[E4]at this;simpa using this
  have pe:i.drop (k+1)=l:=by
   have E:i.drop (k+1)=(i.drop k).drop 1:=by rw[LO]
   exact E.trans (congrArg (cE 1) P)
  obtain⟨E,g1,Q⟩:=hg x S0 _ e F S N
  have run:∀h S',b E S=.ok h S'->Gk w g b ((x :: l).length) k e S=(match h with
    | .nx j=>Gk w g b l.length (k+1) j S'
    | .ct j=>Gk w g b l.length (k+1) j S'
    | .bk j=>.ok (.nx j) S'
    | .rt d=>.ok (.rt d) S'
    | .ex c j=>.ok (.ex c j) S'):=λh S' oP=>by
   show Gk w g b (l.length+1) k e S=_
   conv=>lhs;unfold Gk
   rw[hw F S C N.fz];dsimp only;rw[At,hx];dsimp only[QG];rw[g1];dsimp only[Res.bind];rw[oP]
   all_goals (cases h <;> rfl)
  unfold Gx at m;split at m
  ·rename_i T G
   obtain⟨h,H,I,j,O,rfl,J,L⟩:=hb s x _ G S0 E F S Q;rw[run _ _ I];exact Z (k+1) pe T f m j O H J (C.trans L)
  ·rename_i T G
   obtain⟨h,H,I,j,O,rfl,J,L⟩:=hb s x _ G S0 E F S Q;rw[run _ _ I];exact Z (k+1) pe T f m j O H J (C.trans L)
  ·rename_i T G
   cases m;obtain⟨h,H,I,j,O,rfl,J,L⟩:=hb s x _ G S0 E F S Q;rw[run _ _ I];exact⟨_,H,rfl,j,O,rfl,J,C.trans L⟩
  ·rename_i r G
   cases m;obtain⟨h,H,I,d,rfl,J,L⟩:=hb s x _ G S0 E F S Q;rw[run _ _ I];exact⟨_,H,rfl,d,rfl,J,L⟩
  ·cases m
theorem NF{enc:α->D}{m:MI}{g:MG}{t:α->List Sl->List Sl}{b:MS}{R:Rk ρ}{p:Option (List α)}{q:σ->α->Option (Fw ρ σ)}{B:σ->List Sl}{s0:σ}(hi:VI A m enc p)(E:VT g enc t)(w0:Wk A (B s0))(hb:∀s x,VS (t x (B s)) b R (q s x) B) :
  VS A (Ln m g b) R (p.bind λl=>Gx l s0 q) B:=λf G S0 e F S j=>by
 obtain⟨l,H,I⟩:=Ap G;obtain⟨w,i,J,L,o⟩:=hi l H S0 e F S j;have C:=j.grow L
 have N:Cg w i=l.length:=by unfold Cg;rw[o _ i (Fle.refl _) C.fz];exact AL _
 obtain⟨h,O,P,Q⟩:=ci E hb o l 0 rfl s0 f I e _ i (C.weak w0) (Fle.refl _);refine⟨h,O,?_,Q.up (j.fle i)⟩;rw[Se J,N];exact P
noncomputable def P9(c:α->Option Bool)(m:α->Option β):List α->Option (List β)
 | []=>some []
 | x :: l=>(c x).bind λb=>if b=true then(m x).bind λy=>(P9 c m l).bind λg=>some (y :: g)else P9 c m l
noncomputable def Hr(l:List α)(c:α->Option Bool)(m:α->Option β):Option (List β):=if l.length<=1000000 then P9 c m l else none
theorem ZB{enc:α->D}{G:β->D}{g:MG}{P:List (Option D)->Prop}{T:α->List Sl}{c:MT}{m:ME}{U:α->Option Bool}{X:α->Option β}
  (hg:∀x S0 e F S j,P j->Vs S0 A e F S->∃s,g (enc x) (j++e) S=.ok (s++e) S/\P s/\Vs S0 (T x) (s++e) F S)
  (hc:∀x,VB (T x) c (U x)) (hm:∀x,VE (T x) m (rV G) (X x)) {w:Nd} {S0:Sto} {e:Lo} {i:List α} {S1:Sto} (hf:i.length<=1000000) (hw:∀Y,Keeps S1 Y->w Y=some (i.map enc)) :
  ∀(l:List α) (k:Nat),i.drop k=l->∀(r:List β),P9 U X l=some r->∀j F S o,P j->Vs S0 A e F S->Keeps S1 S->o.length<=k->∃S',E0 w g c m l.length k (j++e) S o=.ok (o++r.map G) S'/\Keeps S S':=by
 intro l
 induction l with
 | nil=>
  intro k H r I j F S o Z L E ha;cases I
  have:i.length<=k:=by
   have:=congrArg Ec H;rw[CC,B7]at this
   lia
  refine⟨S,?_,Keeps.refl S⟩;unfold E0;rw[hw S E];dsimp only;rw[CV (by rw[AL];exact this),Nh,BV]
 | cons x l ih=>
  intro k H r I j F S o Z L E ha
  have hx:i[k]?=some x:=by
   have:=congrArg (λz=>z[0]?) H;rw[E4]at this;simpa using this
  have pe:i.drop (k+1)=l:=by
   have e1:i.drop (k+1)=(i.drop k).drop 1:=by rw[LO]
   exact e1.trans (congrArg (cE 1) H)
  have vj:k < i.length:=(AI.mp hx).1;obtain⟨s,g1,g2,g3⟩:=hg x S0 e F S j Z L;unfold P9 at I;obtain⟨b,h1,J⟩:=Ap I;obtain⟨S2,h3,C⟩:=hc x b h1 S0 _ F S g3;have oj:=L.grow C
  show ∃S',E0 w g c m (l.length+1) k (j++e) S o=_/\_
  conv=>arg 1;ext S';arg 1;lhs;unfold E0
  rw[hw S E];dsimp only;rw[At,hx];dsimp only[QG];rw[qX (Dx ha (lm (AY vj hf))),g1];dsimp only[okR,Res.bind];rw[h3];dsimp only[okR,Res.bind]
  cases b with
  | true=>
   rw[qX rfl]at J ⊢;obtain⟨y,h5,h6⟩:=Ap J;obtain⟨ys,ϓ,h7⟩:=Ap h6;cases h7;obtain⟨d,S3,h8,N,rfl⟩:=hm x y h5 S0 _ _ S2 (g3.grow C);rw[h8];obtain⟨O,Q,R⟩:=ih (k+1) pe ys ϓ s _ S3 (o++[G y]) g2 (oj.grow N) (E.trans (C.trans N)) (by rw[AW,A1];lia);refine⟨O,?_,(C.trans N).trans R⟩;show E0 w g c m l.length (k+1) (s++e) S3 (o++[G y])=_;rw[Q,BW];rfl
  | false=>
   rw[qY Ac]at J ⊢;obtain⟨O,Q,R⟩:=ih (k+1) pe r J s _ S2 o g2 oj (E.trans C) (by lia);exact⟨O,Q,C.trans R⟩
theorem cj{enc:α->D}{C:β->D}{n:Nat}{E:MI}{g:MG}{P:List (Option D)->Prop}{T:α->List Sl}{c:MT}{m:ME}{p:Option (List α)}{G:α->Option Bool}{H:α->Option β}(hi:VK A E enc p)(N:P (A7 n none))
  (O:∀x S0 e F S i,P i->Vs S0 A e F S->∃o,g (enc x) (i++e) S=.ok (o++e) S/\P o/\Vs S0 (T x) (o++e) F S)
  (Q:∀x,VB (T x) c (G x)) (hm:∀x,VE (T x) m (rV C) (H x)):VL A (Ho n E g c m) C (p.bind λl=>Hr l G H):=λr R S0 e F S I=>by
 obtain⟨l,U,j⟩:=Ap R;obtain⟨w,s,X,J,L⟩:=hi l U S0 e F S I;unfold Hr at j;split at j
 ·rename_i Y
  have Z:=I.grow J;obtain⟨S2,h6,h7⟩:=ZB O Q hm Y L l 0 rfl r j _ _ s [] N Z (Keeps.refl _) (AN _);refine⟨S2,?_,J.trans h7⟩;rw[Si X,show Cg w s=l.length by unfold Cg;rw[L s (Keeps.refl _)];exact AL _];exact h6
 ·cases j
theorem MQ{enc:α->D}{i:β->D}{j:MI}{c:MT}{m:ME}{p:Option (List α)}{o:α->Option Bool}{s:α->Option β}(hi:VK A j enc p)(C:∀x,VB (.v (enc x) :: A) c (o x))(hm:∀x,VE (.v (enc x) :: A) m (rV i) (s x)) :
  VL A (Ho 1 j (tgN 0) c m) i (p.bind λl=>Hr l o s):=
 cj (P:=λg=>∃z,g=[z]) hi ⟨none,rfl⟩ (λx S0 e F S g E G=>by
  obtain⟨z,rfl⟩:=E
  exact⟨[some (enc x)],rfl,⟨_,rfl⟩,G.cons (a:=.v (enc x)) rfl⟩) C hm
theorem Gh(h:VL A ml enc p):VE A (Ha ml) (rN (oL enc)) p:=λv i S0 e F S j=>by
 obtain⟨S',l,g⟩:=h v i S0 e F S j;exact⟨_,_,Vd l,g.trans (Keeps.app _ _),_,rfl,g.1,Fv _ _⟩
inductive Ar where
 | v (d:D) | z (o:Ob) | q (P:(Nat->Option Ob)->D->Prop)
noncomputable def Ar.ok(S:Sto):Ar->D->Prop
 | .v d,x=>x=d
 | .z o,x=>∃n,x=.ref n/\S[n]?=some o
 | .q P,x=>∀L:Nat->Option Ob,(∀n o,S[n]?=some o->L n=some o)->P L x
noncomputable def Ar.sl:Ar->Sl
 | .v d=>.v d
 | .z o=>.z o
 | .q P=>.q P
noncomputable def Ks(S:Sto):List Ar->List D->Prop
 | [],[]=>True
 | a :: as,d :: g=>a.ok S d/\Ks S as g
 | _,_=>False
theorem Ks.len:∀{as:List Ar} {ds:List D},Ks S as ds->ds.length=as.length
 | [],[],_=>rfl
 | _ :: as,_ :: ds,h=>by rw[AU,AU,Ks.len h.2]
 | [],_ :: _,h=>h.elim
 | _ :: _,[],h=>h.elim
theorem Ks.at:∀{as:List Ar} {ds:List D},Ks S as ds->∀(i:Nat) (a:Ar),as[i]?=some a->∃d,ds[i]?=some d/\a.ok S d
 | [],[],_,i,a,h=>by simp at h
 | b :: as,d :: ds,h,0,a,q=>by cases q;exact⟨d,rfl,h.1⟩
 | b :: as,d :: ds,h,i+1,a,q=>Ks.at h.2 i a q
 | [],_ :: _,h,_,_,_=>h.elim
 | _ :: _,[],h,_,_,_=>h.elim
noncomputable def VF(f:List D->Sto->Res D)(as:List Ar)(R:Rk α)(p:Option α):Prop:=∀v,p=some v->∀S g,Ks S as g->∃d S',f g S=.ok d S'/\Keeps S S'/\R v S d S'
noncomputable def VA(A:List Sl)(ml:ML)(p:Option γ)(i:γ->List Ar):Prop:=∀v,p=some v->∀S0 e F S,Vs S0 A e F S->∃g S',ml e S=.ok g S'/\Keeps S S'/\Ks S' (i v) g
theorem DP:VA A Bk (some ()) (λ_=>[]):=λv g S0 e F S i=>⟨[],S,rfl,Keeps.refl S,trivial⟩
theorem E9(h:VE A m (rV enc) p)(j:VA A ml q l):VA A (Am m ml) (p.bind λx=>q.bind λy=>some (x,y)) (λz=>.v (enc z.1) :: l z.2):=λv o S0 e F S g=>by
 obtain⟨x,s,C⟩:=Ap o;obtain⟨y,E,G⟩:=Ap C;cases G;obtain⟨d,H,I,i,rfl⟩:=h x s S0 e F S g;obtain⟨P,J,L,N,O⟩:=j y E S0 e _ H (g.grow i);exact⟨_,J,Dp I L,i.trans N,rfl,O⟩
theorem ZO(h:VE A m (rO l) p)(o:VA A ml q s):VA A (Am m ml) (p.bind λx=>q.bind λy=>some (x,y)) (λz=>.z (l z.1) :: s z.2):=λv C S0 e F S g=>by
 obtain⟨x,E,G⟩:=Ap C;obtain⟨y,H,I⟩:=Ap G;cases I;obtain⟨d,J,L,i,n,rfl,N⟩:=h x E S0 e F S g;obtain⟨R,O,P,j,Q⟩:=o y H S0 e _ J (g.grow i);exact⟨_,O,Dp L P,i.trans j,⟨n,rfl,j.at N⟩,Q⟩
theorem Ci(l:VA A ml p g)(m:∀z,VF f (g z) R (q z))(o:∀z,(g z).length=n)(s:∀v S S1 d S',S.length<=S1.length->R v S1 d S'->R v S d S'):VE A (CM n f ml) R (p.bind q):=λv C S0 e F S E=>by
 obtain⟨z,G,H⟩:=Ap C;obtain⟨I,S1,J,i,j⟩:=l z G S0 e F S E;obtain⟨d,L,N,O,P⟩:=m z v H S1 I j;exact⟨d,L,(Mt J (j.len.trans (o z))).trans N,i.trans O,s _ _ _ _ _ i.1 P⟩
noncomputable def RY(S:Sto):Fz:=λn=>match S[n]? with
 | some o=>.fz o
 | none=>.no
theorem Vs.start(h:Ks S as ds):Vs S (as.map Ar.sl++A7 (n - as.length) .u) (ID n ds) (RY S) S:=by
 refine⟨Keeps.refl S,λn o q=>?_,λn i q=>?_,λn s=>by unfold RY;rw[CV s],λi a g=>?_⟩
 ·unfold RY at q
  split at q
  ·rename_i N C;cases q;exact C
  ·cases q
 ·unfold RY at q
  split at q <;> cases q
 ·unfold ID
  by_cases c:i < as.length
  ·rw[Af (by rw[AL];exact c),At]at g
   rw[Af (by rw[AL,h.len];exact c),At]
   cases j:as[i]? with
   | none=>rw[j]at g;cases g
   | some b=>
    rw[j]at g;cases g;obtain⟨d,E,l⟩:=h.at i b j;refine⟨some d,by rw[E];rfl,?_⟩
    cases b with
    | v x=>exact congrArg some l
    | z o=>obtain⟨m,G,H⟩:=l;exact⟨m,congrArg some G,by unfold RY;rw[H]⟩
    | q P=>exact⟨d,rfl,λL I=>l L λn o q=>I n o (by unfold RY;rw[q])⟩
  ·rw[Au (by rw[AL];lia)]at g
   rw[AL,Cm]at g;split at g
   ·rename_i J
    cases g;refine⟨none,?_,trivial⟩;rw[Au (by rw[AL,h.len];lia),AL,h.len,Cm,qX J]
   ·cases g
noncomputable def FI(p:Option (Fw ρ σ)):Option ρ:=match p with
 | some (.rt r)=>some r
 | _=>none
end
section
variable{S0 S S':Sto}{A:List Sl}{α β:Type}
section
variable{a b c:ME}{pa pb pc:Option Int}
theorem Hz(g:VE A a (rV D.int) pa)(hb:VE A b (rV D.int) pb):VE A (m2 G0 a b) (rV D.int) (pa.bind λx=>pb.bind λy=>some (x+y)):=IZ g hb λx y z S h=>by cases h;rfl
theorem gs(g:VE A a (rV D.int) pa)(hb:VE A b (rV D.int) pb):VE A (m2 iC a b) (rV D.int) (pa.bind λx=>pb.bind λy=>some (x - y)):=IZ g hb λx y z S h=>by cases h;rfl
noncomputable def RP(x y:Int):Option Int:=if bz x y then some (x / y)else none
noncomputable def OM(x y:Int):Option Int:=if 0 < y then some (x % y)else none
theorem Ry(g:VE A a (rV D.int) pa)(hb:VE A b (rV D.int) pb):VE A (m2 FZ a b) (rV D.int) (pa.bind λx=>pb.bind λy=>RP x y):=IZ g hb λx y z S h=>by
 unfold RP at h;split at h
 ·rename_i i;cases h;exact qX i
 ·cases h
theorem PD(g:VE A a (rV D.int) pa)(hb:VE A b (rV D.int) pb):VE A (m2 IH a b) (rV D.int) (pa.bind λx=>pb.bind λy=>OM x y):=IZ g hb λx y z S h=>by
 unfold OM at h;split at h
 ·rename_i i;cases h;exact Wo i
 ·cases h
theorem EJ(i:(decide (0 < k)&&decide (k<=1000000))=true)(j:VE A a (rV D.int) pa):VE A (m2 FZ a (mC (.int k))) (rV D.int) (pa.bind λx=>some (x / k)):=λv l S0 e F S m=>by
 obtain⟨x,o,s⟩:=Ap l;cases s;obtain⟨d,S',B,C,rfl⟩:=j x o S0 e F S m;have g:=Bl _ _▸i;exact⟨_,S',D6 B rfl (bU (of_decide_eq_true g.1) (of_decide_eq_true g.2)),C,rfl⟩
theorem Er(g:decide (0 < k)=true)(i:VE A a (rV D.int) pa):VE A (m2 IH a (mC (.int k))) (rV D.int) (pa.bind λx=>some (x % k)):=λv j S0 e F S l=>by
 obtain⟨x,m,o⟩:=Ap j;cases o;obtain⟨d,S',s,B,rfl⟩:=i x m S0 e F S l;exact⟨_,S',D6 s rfl (Wo (of_decide_eq_true g)),B,rfl⟩
theorem cp(i:(decide (-1000000<=k)&&decide (k<=1000000))=true)(j:VE A a (rV D.int) pa):VE A (m2 eI a (mC (.int k))) (rV D.int) (pa.bind λx=>some (x * k)):=λv l S0 e F S m=>by
 obtain⟨x,o,s⟩:=Ap l;cases s;obtain⟨d,S',B,C,rfl⟩:=j x o S0 e F S m;have g:=Bl _ _▸i;exact⟨_,S',D6 B rfl (eG (of_decide_eq_true g.1) (of_decide_eq_true g.2)),C,rfl⟩
theorem Lg(g:VE A a (rV D.int) pa):VE A (Qh a) (rV D.int) (pa.bind λx=>some (-x)):=λv i S0 e F S j=>by
 obtain⟨x,l,m⟩:=Ap i;cases m;obtain⟨d,S',o,s,rfl⟩:=g x l S0 e F S j;exact⟨_,S',by unfold Qh;rw[o];rfl,s,rfl⟩
theorem fV(g:VE A a (rV D.int) pa)(hb:VE A b (rV D.int) pb):VE A (m2 ltD a b) (rV D.bl) (pa.bind λx=>pb.bind λy=>some (decide (x < y))):=IZ g hb λx y z S h=>by cases h;rfl
theorem WR(g:VE A a (rV D.int) pa)(hb:VE A b (rV D.int) pb):VE A (m2 gtD a b) (rV D.bl) (pa.bind λx=>pb.bind λy=>some (decide (y < x))):=IZ g hb λx y z S h=>by cases h;rfl
theorem fX(g:VE A a (rV D.int) pa)(hb:VE A b (rV D.int) pb):VE A (m2 geD a b) (rV D.bl) (pa.bind λx=>pb.bind λy=>some (decide (y<=x))):=IZ g hb λx y z S h=>by cases h;rfl
theorem MV{f g:D->D->Sto->Res D}{P Q:Int->Int->Bool}(I:∀x y S,f (.int x) (.int y) S=.ok (.bl (P x y)) S)(J:∀x y S,g (.int x) (.int y) S=.ok (.bl (Q x y)) S)(L:VE A a (rV D.int) pa)(hb:VE A b (rV D.int) pb)(N:VE A c (rV D.int) pc) :
  VE A (m3 f g a b c) (rV D.bl) (pa.bind λx=>pb.bind λy=>if P x y=true then pc.bind λz=>some (Q y z)else some false):=λv m S0 e F S o=>by
 obtain⟨x,O,m⟩:=Ap m;obtain⟨y,R,i⟩:=Ap m;obtain⟨d1,T,C,j,rfl⟩:=L x O S0 e F S o;obtain⟨d2,s,E,B,rfl⟩:=hb y R S0 e _ T (o.grow j);have l:=I x y s
 cases G:P x y with
 | false=>
  rw[G]at i l;cases i;exact⟨_,s,ll C E l,j.trans B,rfl⟩
 | true=>
  rw[G]at i l;rw[qX rfl]at i;obtain⟨w,U,X⟩:=Ap i;cases X;obtain⟨d3,H,Y,Z,rfl⟩:=N w U S0 e _ s ((o.grow j).grow B);exact⟨_,H,fq C E l Y (J y w H),(j.trans B).trans Z,rfl⟩
theorem gB(x y:Int)(S:Sto):ltD (.int x) (.int y) S=.ok (.bl (decide (x < y))) S:=rfl
theorem RS(x y:Int)(S:Sto):leD (.int x) (.int y) S=.ok (.bl (decide (x<=y))) S:=rfl
theorem MW{pa pb}(m:VE A a (rV D.bl) pa)(hb:VE A b (rV D.bl) pb):VE A (Jt a b) (rV D.bl) (pa.bind λx=>if x=true then pb else some false):=λv o S0 e F S i=>by
 obtain⟨x,s,j⟩:=Ap o;obtain⟨d,S',l,g,rfl⟩:=m x s S0 e F S i
 cases x with
 | true=>
  obtain⟨d,B,C,E,rfl⟩:=hb v j S0 e _ S' (i.grow g);exact⟨_,B,by unfold Jt;rw[l];exact C,g.trans E,rfl⟩
 | false=>cases j;exact⟨_,S',by unfold Jt;rw[l];rfl,g,rfl⟩
theorem WP{pa}(g:VE A a (rV D.bl) pa):VE A (RF a) (rV D.bl) (pa.bind λx=>some (!x)):=λv i S0 e F S j=>by
 obtain⟨x,l,m⟩:=Ap i;cases m;obtain⟨d,S',o,s,rfl⟩:=g x l S0 e F S j;exact⟨_,S',by unfold RF;rw[o];rfl,s,rfl⟩
end
noncomputable def EqN(n:Nat)(enc:α->D)[DecidableEq α]:Prop:=∀x y,eqP n (enc x) (enc y)=some (decide (x=y))
noncomputable def NL(enc:α->D):Prop:=∀x S,SW (enc x) S=none
theorem CZ:EqN n D.int:=λx y=>by
 have:Km (.int x) (.int y)=some (decide (x=y)):=rfl
 cases n <;> exact this
theorem K9:EqN n D.str:=λx y=>by
 have:Km (.str x) (.str y)=some (decide (x=y)):=rfl
 cases n <;> exact this
theorem ej{n:Nat}{enc:α->D}[DecidableEq α](h:EqN n enc):EqN (n+1) (eT enc):=by
 have g:∀l k:List α,eqL (eqP n) (l.map enc) (k.map enc)=some (decide (l=k)):=by
  intro l
  induction l with
  | nil=>intro k;cases k <;> rfl
  | cons x l i=>
   intro k
   cases k with
   | nil=>rfl
   | cons y k=>
    rw[Ao,Ao];unfold eqL;rw[h x y,i k]
    by_cases c:x=y <;> by_cases d:l=k <;> simp[c,d]
 exact λl k=>g l k
theorem P6{n:Nat}{a:α->D}{b:β->D}[DecidableEq α][DecidableEq β](g:EqN n a)(hb:EqN n b):EqN (n+1) (eP a b):=λx y=>by
 show eqL (eqP n) [a x.1,b x.2] [a y.1,b y.2]=_;unfold eqL eqL eqL;rw[g,hb];obtain⟨i,j⟩:=x;obtain⟨l,m⟩:=y
 by_cases c:i=l <;> by_cases d:j=m <;> simp[c,d]
theorem FL:NL D.int:=λ_ _=>rfl
theorem NT:NL D.str:=λ_ _=>rfl
theorem jC:NL (eT enc):=λ_ _=>rfl
section
variable{a b:ME}{enc:α->D}[DecidableEq α]
theorem bY(h:EqN 8 enc)(n:NL enc)(neg:Bool)(x y:α)(S:Sto):eqD neg (enc x) (enc y) S=.ok (.bl (if neg then !decide (x=y)else decide (x=y))) S:=by
 unfold eqD eqB;rw[n x S,n y S];dsimp only;rw[h x y]
theorem Hg(h:EqN 8 enc)(n:NL enc)(g:VE A a (rV enc) i)(hb:VE A b (rV enc) j):VE A (m2 (eqD false) a b) (rV D.bl) (i.bind λx=>j.bind λy=>some (decide (x=y))):=IZ g hb λx y z S q=>by cases q;exact bY h n false x y S
theorem PB(h:EqN 8 enc)(n:NL enc)(g:VE A a (rV enc) i)(hb:VE A b (rV enc) j):VE A (m2 (eqD true) a b) (rV D.bl) (i.bind λx=>j.bind λy=>some (!decide (x=y))):=IZ g hb λx y z S q=>by cases q;exact bY h n true x y S
theorem UP(h:EqN 8 enc)(x:α):∀l:List α,LV (enc x) (l.map enc)=some (decide (x∈l))
 | []=>by simp[LV]
 | y :: l=>by
  rw[Ao];unfold LV;rw[h y x,UP h x l]
  by_cases c:y=x
  ·subst c;simp
  ·have:¬x=y:=λz=>c z.symm
   simp[c,this]
theorem ay(h:EqN 8 enc)(neg:Bool)(x:α){l:List α}{d:D}{S:Sto}(g:IE d S=some (l.map enc)):inA neg (enc x) d S=.ok (.bl (if neg then !decide (x∈l)else decide (x∈l))) S:=by
 show JP (inD neg (enc x) d S) _=_
 have e:inD neg (enc x) d S=.ok (.bl (if neg then !decide (x∈l)else decide (x∈l))) S:=by
  unfold inD;rw[g];dsimp only;rw[UP h]
 rw[e];rfl
theorem gz{pl:Option (List α)}(h:EqN 8 enc)(g:VE A a (rV enc) i)(hb:VE A b (rO (oL enc)) pl):VE A (m2 (inA false) a b) (rV D.bl) (i.bind λx=>pl.bind λl=>some (decide (x∈l))):=ZH g hb λx l z S n j q=>by cases q;exact ay h false x (Eo j)
theorem WQ{pl:Option (List α)}(h:EqN 8 enc)(g:VE A a (rV enc) i)(hb:VE A b (rO (oL enc)) pl):VE A (m2 (inA true) a b) (rV D.bl) (i.bind λx=>pl.bind λl=>some (!decide (x∈l))):=ZH g hb λx l z S n j q=>by cases q;exact ay h true x (Eo j)
end
section
variable{a b m mo:ME}
theorem fE(l:List α)(i:Int)(f:α->β):atI (l.map f) i=(atI l i).map f:=by
 unfold atI;rw[AL]
 cases ixN l.length i with
 | none=>rfl
 | some j=>show(l.map f)[j]?=(l[j]?).map f;rw[At]
theorem au(g:IE d S=some (l.map enc))(h:atI l i=some x):ixA d (.int i) S=.ok (enc x) S:=by
 show JP (ixD d (.int i) S) _=_
 have:ixD d (.int i) S=.ok (enc x) S:=by
  unfold ixD;rw[g];dsimp only;rw[fE,h];rfl
 rw[this];rfl
theorem gw{pl}(g:VE A a (rV eF) pl)(hb:VE A b (rV D.int) pi):VE A (m2 ixA a b) (rV D.int) (pl.bind λl=>pi.bind λi=>atI l i):=IZ g hb λl i z S q=>au rfl q
theorem DD(g:VE A a (rO (oL enc)) pl)(hb:VE A b (rV D.int) pi):VE A (m2 ixA a b) (rV enc) (pl.bind λl=>pi.bind λi=>atI l i):=g8 g hb λl i z S n j q=>au (Eo j) q
theorem ZM(i:VE A a (rV (eP g j)) p):VE A (m2 ixA a (mC (.int 0))) (rV g) (p.bind λx=>some x.1):=λv l S0 e F S o=>by
 obtain⟨x,s,B⟩:=Ap l;cases B;obtain⟨d,S',C,E,rfl⟩:=i x s S0 e F S o;exact⟨_,S',D6 C rfl (Ws (ds:=[g x.1,j x.2]) rfl (by decide) rfl),E,rfl⟩
theorem ZF(i:VE A a (rV (eP j g)) p):VE A (m2 ixA a (mC (.int 1))) (rV g) (p.bind λx=>some x.2):=λv l S0 e F S o=>by
 obtain⟨x,s,B⟩:=Ap l;cases B;obtain⟨d,S',C,E,rfl⟩:=i x s S0 e F S o;exact⟨_,S',D6 C rfl (Ws (ds:=[j x.1,g x.2]) rfl (by decide) rfl),E,rfl⟩
theorem cu{pl}(g:VE A a (rV eF) pl):VE A (LJ a) (rV D.int) (pl.bind λl=>some (l.length:Int)):=λv i S0 e F S j=>by
 obtain⟨l,o,s⟩:=Ap i;cases s;obtain⟨d,S',B,C,rfl⟩:=g l o S0 e F S j;exact⟨_,S',(aa (ds:=l.map D.int) B rfl).trans (by rw[AL]),C,rfl⟩
theorem Hf(g:VE A a (rO (oL enc)) pl):VE A (LJ a) (rV D.int) (pl.bind λl=>some (l.length:Int)):=λv i S0 e F S j=>by
 obtain⟨l,o,s⟩:=Ap i;cases s;obtain⟨d,S',B,C,n,rfl,E⟩:=g l o S0 e F S j;exact⟨_,S',(aa (ds:=l.map enc) B (Eo E)).trans (by rw[AL]),C,rfl⟩
theorem Ke:∀ns:ZLi,Ez (ns.map D.int)=some ns
 | []=>rfl
 | x :: ns=>by rw[Ao];unfold Ez;rw[Ke ns];rfl
theorem NG(g:VE A a (rO (oL enc)) pl):VE A (Gj a) (rV (eT enc)) pl:=λl i S0 e F S j=>by
 obtain⟨d,S',o,s,n,rfl,B⟩:=g l i S0 e F S j;exact⟨_,S',MY o (Eo B),s,rfl⟩
theorem WO(g:VE A a (rO (oL enc)) pl):VL A (Mj a) enc pl:=λl i S0 e F S j=>by
 obtain⟨d,S',o,s,n,rfl,B⟩:=g l i S0 e F S j;exact⟨S',fh o (Eo B),s⟩
theorem XG:∀l:List Bool,Vz (l.map D.bl)=some l
 | []=>rfl
 | x :: l=>by rw[Ao];unfold Vz;rw[XG l];rfl
theorem ZN{pl}(h:VL A ml D.bl pl):VE A (mQ bw ml) (rV D.bl) (pl.bind λl=>some (l.all id)):=λv g S0 e F S i=>by
 obtain⟨l,j,o⟩:=Ap g;cases o;obtain⟨S',s,B⟩:=h l j S0 e F S i;refine⟨_,S',iM s ?_,B,rfl⟩;unfold bw fB;rw[XG]
theorem JC:VL A Bk enc (some []):=λv g S0 e F S i=>by cases g;exact⟨S,rfl,Keeps.refl S⟩
theorem E7(h:VE A m (rV enc) p)(j:VL A ml enc pl):VL A (Am m ml) enc (p.bind λx=>pl.bind λl=>some (x :: l)):=λv o S0 e F S g=>by
 obtain⟨x,s,B⟩:=Ap o;obtain⟨l,C,E⟩:=Ap B;cases E;obtain⟨d,G,H,i,rfl⟩:=h x s S0 e F S g;obtain⟨I,J,L⟩:=j l C S0 e _ G (g.grow i);exact⟨I,Dp H J,i.trans L⟩
noncomputable def JZ(l:List α):Option (List α):=if l.length<=1000000 then some l else none
theorem GF(h:VL A ml enc pl):VL A (FM ml) enc (pl.bind JZ):=λv i S0 e F S j=>by
 obtain⟨l,o,g⟩:=Ap i;unfold JZ at g;split at g
 ·rename_i s
  cases g;obtain⟨S',B,C⟩:=h _ o S0 e F S j;refine⟨S',?_,C⟩;unfold FM;rw[B];dsimp only[Res.bind];rw[qX (by rw[AL];exact jJ s)]
 ·cases g
theorem gr(h:VL A ml enc pl):VE A (Kc ml) (rV (eT enc)) (pl.bind JZ):=λv i S0 e F S j=>by
 obtain⟨l,o,g⟩:=Ap i;unfold JZ at g;split at g
 ·rename_i s
  cases g;obtain⟨S',B,C⟩:=h _ o S0 e F S j;refine⟨_,S',?_,C,rfl⟩;unfold Kc;rw[B];dsimp only[Res.bind];rw[qX (by rw[AL];exact jJ s)];rfl
 ·cases g
theorem JD(s:VE A a (rV i) B)(hb:VE A b (rV j) C):VE A (Kc (Am a (Am b Bk))) (rV (eP i j)) (B.bind λx=>C.bind λy=>some (x,y)):=λv g S0 e F S l=>by
 obtain⟨x,E,g⟩:=Ap g;obtain⟨y,G,H⟩:=Ap g;cases H;obtain⟨d1,I,J,o,rfl⟩:=s x E S0 e F S l;obtain⟨d2,L,N,O,rfl⟩:=hb y G S0 e _ I (l.grow o);exact⟨_,L,ZU (ds:=[i x,j y]) (Dp J (Dp N rfl)) (by simp),o.trans O,rfl⟩
theorem Hh(C:VE A a (rO (oL enc)) pl)(hb:VE A b (rO (oL enc)) pk):VE A (m2 G0 a b) (rN (oL enc)) (pl.bind λl=>pk.bind λk=>Lw l k):=λv i S0 e F S s=>by
 obtain⟨x,E,i⟩:=Ap i;obtain⟨y,G,g⟩:=Ap i;obtain⟨d1,H,I,j,n,rfl,J⟩:=C x E S0 e F S s;obtain⟨d2,B,L,o,m,rfl,hm⟩:=hb y G S0 e _ H (s.grow j);unfold Lw at g;split at g
 ·rename_i N
  cases g;refine⟨_,_,D6 I L (d:=.ref B.length) (S3:=B++[oL enc (x++y)]) ?_,(j.trans o).trans (Keeps.app _ _),_,rfl,(j.trans o).1,Fv _ _⟩;unfold G0;dsimp only;rw[o.at J,hm];unfold oL;dsimp only;rw[qX (by rw[AL,AL];exact jJ N),DO]
 ·cases g
noncomputable def VO(A:List Sl)(mo:MO)(p:Option (Option Int)):Prop:=∀v,p=some v->∀S0 e F S,Vs S0 A e F S->∃S',mo e S=.ok v S'/\Keeps S S'
theorem ES:VO A HK (some none):=λv g S0 e F S i=>by cases g;exact⟨S,rfl,Keeps.refl S⟩
theorem DH(h:VE A m (rV D.int) pi):VO A (Ew m) (pi.bind λi=>some (some i)):=λv g S0 e F S j=>by
 obtain⟨x,l,o⟩:=Ap g;cases o;obtain⟨d,S',s,B,rfl⟩:=h x l S0 e F S j;exact⟨S',by unfold Ew;rw[s];rfl,B⟩
theorem UG(l:List α)(f:α->β)(lo hi:Option Int):DQ (l.map f) lo hi=(DQ l lo hi).map f:=by
 unfold DQ;rw[AL,<-List.map_drop,<-gX]
theorem D2(C:VE A a (rO (oL enc)) pl)(E:VO A mlo G)(H:VO A mhi ph):VE A (DZ a mlo mhi) (rN (oL enc)) (pl.bind λl=>G.bind λx=>ph.bind λy=>some (DQ l x y)):=λv g S0 e F S o=>by
 obtain⟨l,I,g⟩:=Ap g;obtain⟨x,J,g⟩:=Ap g;obtain⟨y,L,N⟩:=Ap g;cases N;obtain⟨d1,O,P,i,n,rfl,Q⟩:=C l I S0 e F S o;obtain⟨R,T,j⟩:=E x J S0 e _ O (o.grow i);obtain⟨s,U,B⟩:=H y L S0 e _ R ((o.grow i).grow j);refine⟨.ref s.length,s++[oL enc (DQ l x y)],?_,((i.trans j).trans B).trans (Keeps.app _ _),_,rfl,((i.trans j).trans B).1,Fv _ _⟩;unfold DZ;rw[P];dsimp only[Res.bind];rw[T];dsimp only;rw[U];dsimp only;unfold R8;dsimp only;rw[aY ((j.trans B).at Q)];show Res.ok _ (s++[Ob.lst (DQ (l.map enc) x y)])=_;rw[UG];rfl
theorem Tl:∀g:List ZLi,g.all (λr=>!r.isEmpty)=true->LU (g.map LH)=some g
 | [],_=>rfl
 | [] :: g,h=>by simp at h
 | (x :: r) :: g,h=>by
  rw[gY,Bl]at h;show LU (.tup ((x :: r).map D.int) :: g.map LH)=_;unfold LU;rw[Ke,Tl g h.2]
theorem Rw(i:VE A a (rN (oL enc)) pl):VI A (JS a) enc pl:=λl j S0 e F S o=>by
 obtain⟨d,S',s,B,n,rfl,C,g⟩:=i l j S0 e F S o;exact⟨_,S',Py s g,B,λG H E h=>IX (h n _ (E _ _ (Kk C g)))⟩
theorem gl(h:A[i]?=some (.z (oL enc l))):VI A (JS (AQ i)) enc (some l):=λ_ s S0 e F S g=>by
 cases s;obtain⟨x,B,n,rfl,j⟩:=g.sl i _ h;have o:=g.fz _ _ j;exact⟨_,S,Py (n:=n) (by unfold AQ;rw[B]) o,Keeps.refl S,λE G C h=>IX (h n _ (C _ _ (by rw[Kj (GJ o)];exact j)))⟩
noncomputable def Pa(lo:Int)(n:Nat):ZLi:=(Bd n).map λi:Nat=>lo+i
noncomputable def Xu(j:Int):Option ZLi:=if -1000000<=j/\j<=1000000 then some (Pa 0 j.toNat)else none
noncomputable def dL(i j:Int):Option ZLi:=if -1000000<=i/\i<=1000000/\-1000000<=j/\j<=1000000 then some (Pa i (j - i).toNat)else none
theorem Zl(lo:Int)(n:Nat):HI lo n=(Pa lo n).map D.int:=by
 unfold HI Pa;rw[BZ];rfl
theorem Qz(o:VE A a (rV D.int) pi):VI A (iR1 (Am a Bk)) D.int (pi.bind Xu):=λl s S0 e F S B=>by
 obtain⟨j,C,g⟩:=Ap s;obtain⟨d,S',E,G,rfl⟩:=o j C S0 e F S B;unfold Xu at g;split at g
 ·rename_i i
  cases g;exact⟨_,S',a9 (j:=j) (Dp E rfl) i.1 i.2,G,λ_ _ _ _=>congrArg some (Zl _ _)⟩
 ·cases g
theorem Xc(E:VE A a (rV D.int) pi)(hb:VE A b (rV D.int) pj):VI A (iR2 (Am a (Am b Bk))) D.int (pi.bind λi=>pj.bind λj=>dL i j):=λl s S0 e F S B=>by
 obtain⟨i,G,s⟩:=Ap s;obtain⟨j,H,g⟩:=Ap s;obtain⟨d,I,J,C,rfl⟩:=E i G S0 e F S B;obtain⟨d,L,N,O,rfl⟩:=hb j H S0 e _ I (B.grow C);unfold dL at g;split at g
 ·rename_i o
  cases g;exact⟨_,L,jS (i:=i) (j:=j) (Dp J (Dp N rfl)) o.1 o.2.1 o.2.2.1 o.2.2.2,C.trans O,λ_ _ _ _=>congrArg some (Zl _ _)⟩
 ·cases g
noncomputable def NN(enc:α->D):Prop:=∀x S neg,Ql neg (enc x) .non S=.ok (.bl neg) S
theorem jB:NN D.int:=λ_ _ _=>rfl
theorem gy(g:NN enc)(i:VE A a (rV (eO enc)) p):VE A (m2 (Ql false) a (mC .non)) (rV D.bl) (p.bind λo=>some o.isNone):=λv j S0 e F S l=>by
 obtain⟨x,s,B⟩:=Ap j;cases B;obtain⟨d,S',C,E,rfl⟩:=i x s S0 e F S l;refine⟨_,S',D6 C rfl ?_,E,rfl⟩
 cases x with
 | none=>rfl
 | some y=>exact g y S' false
theorem cn(g:VE A a (rV enc) p):VE A a (rV (eO enc)) (p.bind λo=>some (some o)):=λv i S0 e F S j=>by
 obtain⟨x,l,s⟩:=Ap i;cases s;exact g _ l S0 e F S j
theorem Rx:VE A (mC .non) (rV (eO enc)) (some none):=BB rfl
end
end
section
section
noncomputable def toPr(r:ZLi):Int×Int:=(r.getD 0 0,r.getD 1 0)
noncomputable def No(l:List ZPi):List ZPi:=(KR (l.map λx=>[x.1,x.2])).map toPr
theorem dD(l:List ZPi):(KR (l.map λx=>[x.1,x.2])).map LH=(No l).map (eP D.int D.int):=by
 unfold No;rw[BZ]
 refine Cu λr g=>?_
 obtain⟨x,_,rfl⟩:=Be.mp ((Fh _).mem_iff.mp g);rfl
theorem ZE(j:VE A a (rO (oL (eP D.int D.int))) pl):VE A (Gw a) (rN (oL (eP D.int D.int))) (pl.bind λl=>some (No l)):=λv m o e F S s=>by
 obtain⟨l,B,C⟩:=Ap m;cases C;obtain⟨d,H,E,i,n,rfl,G⟩:=j l B o e F S s;refine⟨_,_,NK E (Pw G) (es:=(No l).map (eP D.int D.int)) ?_,i.trans (Keeps.app _ _),_,rfl,i.1,Fv _ _⟩;rw[<-dD]
 cases l with
 | nil=>show some ((KQ []).map D.int)=some ((KR []).map LH);rw[Xm];unfold KR;rw[List.mergeSort_nil];rfl
 | cons x l=>
  have g:LU (Qv (eP D.int D.int) (x :: l))=some ((x :: l).map λx=>[x.1,x.2]):=by
   have:=Tl ((x :: l).map λx=>[x.1,x.2]) (By.mpr λr g=>by obtain⟨y,_,rfl⟩:=Be.mp g;rfl);rw[BZ]at this;exact this
  unfold LS;rw[show Ez (Qv (eP D.int D.int) (x :: l))=none from rfl,g]
end
end
section
variable{α ρ σ:Type}
theorem Mu:A2 (some (.nx s)) q=q s:=rfl
theorem bP(I:List α->σ->Prop)(R:ρ->Prop)(A:I [] s0)(h:∀g x s,x∈l->g++[x] <+: l->I g s->(∃s',q s x=some (.nx s')/\I (g++[x]) s')∨∃r,q s x=some (.rt r)/\R r):(∃s,Gx l s0 q=some (.nx s)/\I l s)∨∃r,Gx l s0 q=some (.rt r)/\R r:=by
 have i:∀(r g:List α) (s:σ),l=g++r->I g s->(∃s',Gx r s q=some (.nx s')/\I l s')∨∃y,Gx r s q=some (.rt y)/\R y:=by
  intro r
  induction r with
  | nil=>intro g s e j;rw[BV]at e;subst e;exact .inl ⟨s,rfl,j⟩
  | cons x r B=>
   intro g s e j
   rcases h g x s (by rw[e];simp) ⟨r,by rw[e];simp⟩ j with⟨s',m,o⟩ | ⟨y,m,o⟩
   ·have C:Gx (x :: r) s q=Gx r s' q:=by
     conv=>lhs;unfold Gx
     rw[m]
    rw[C];exact B (g++[x]) s' (by rw[e];simp) o
   ·refine .inr ⟨y,?_,o⟩
    unfold Gx;rw[m]
 exact i l [] s0 rfl A
theorem bn(o:∀x∈l,c x=some (P x))(hm:∀x∈l,P x=true->m x=some (f x)):P9 c m l=some ((l.filter P).map f):=by
 induction l with
 | nil=>rfl
 | cons x l g=>
  have g:=g (λy i=>o y (AM _ i)) λy i=>hm y (AM _ i)
  unfold P9;rw[o x Aa];show(if P x=true then _ else _)=_
  cases j:P x with
  | true=>
   rw[qX rfl,hm x Aa j,g,List.filter_cons_of_pos j];rfl
  | false=>
   rw[qY Ac,g,List.filter_cons_of_neg (by rw[j];exact Ac)]
theorem bo(g:l.length<=1000000)(i:∀x∈l,c x=some (P x))(hm:∀x∈l,P x=true->m x=some (f x)):Hr l c m=some ((l.filter P).map f):=by
 unfold Hr;rw[qX g,bn i hm]
theorem Nb(g:l.length<=1000000)(hm:∀x∈l,m x=some (f x)):Hr l (λ_=>some true) m=some (l.map f):=by
 rw[bo (P:=λ_=>true) g (λ_ _=>rfl) λx i _=>hm x i,List.filter_eq_self.mpr λ_ _=>rfl]
theorem Mw(h:l.length < 1000000):UO l x=some (l++[x]):=qX h
theorem Oo(h:l.length+k.length<=1000000):Lw l k=some (l++k):=qX h
theorem few0:JZ ([]:List α)=some []:=rfl
theorem bT(a:α):JZ [a]=some [a]:=qX (by simp)
theorem few2(a b:α):JZ [a,b]=some [a,b]:=qX (by simp)
theorem few4(a b c d:α):JZ [a,b,c,d]=some [a,b,c,d]:=qX (by simp)
theorem dM(g:-1000000<=j)(i:j<=1000000):Xu j=some (Pa 0 j.toNat):=qX ⟨g,i⟩
theorem dJ(g:-1000000<=i)(l:i<=1000000)(m:-1000000<=j)(o:j<=1000000):dL i j=some (Pa i (j - i).toNat):=qX ⟨g,l,m,o⟩
theorem KW(lo:Int)(n:Nat):(Pa lo n).length=n:=by unfold Pa;rw[AL,List.length_range]
theorem bu(j:0<=i)(m:i < l.length):∃x,atI l i=some x/\l[i.toNat]?=some x:=by
 have g:i.toNat < l.length:=by lia
 exact⟨l[i.toNat],Dd j (BC g),BC g⟩
theorem Wn(h:0 < y):OM x y=some (x % y):=qX h
theorem bh(l:List α)(lo hi:Option Int):(DQ l lo hi).length<=l.length:=by
 unfold DQ;rw[Ba,CC]
 lia
theorem eu{l:List α}{lo hi:Option Int}{x:α}(h:x∈DQ l lo hi):x∈l:=Gn (Gm h)
theorem To{lo:Int}{n:Nat}{g:ZLi}{x:Int}(h:g++[x] <+: Pa lo n):x=lo+g.length/\g.length < n:=by
 have i:=h.length_le;rw[AW,A1,KW]at i;obtain⟨r,j⟩:=h;have:=congrArg (λz=>z[g.length]?) j;simp only[BW,Au (AN _),kS]at this;rw[show([x]++r)[0]?=some x from rfl]at this;unfold Pa at this;rw[At,Dh (by lia)]at this;simp only[Option.map_some,Option.some.injEq]at this;exact⟨this,by lia⟩
noncomputable def Ok(p:Option α)(P:α->Prop):Prop:=∃v,p=some v/\P v
theorem Ok.is(h:Ok p λr=>r=v):p=some v:=by
 obtain⟨_,g,rfl⟩:=h;exact g
noncomputable def OkF(p:Option (Fw ρ σ))(N:σ->Prop)(R:ρ->Prop):Prop:=(∃s,p=some (.nx s)/\N s)∨∃r,p=some (.rt r)/\R r
theorem OkF.nx(h:N s):OkF (some (.nx s)) N R:=.inl ⟨s,rfl,h⟩
theorem OkF.rt(h:R r):OkF (some (.rt r)) N R:=.inr ⟨r,rfl,h⟩
theorem OkF.seq(h:OkF p N R)(g:∀s,N s->OkF (q s) N' R):OkF (A2 p q) N' R:=by
 rcases h with⟨s,rfl,h⟩ | ⟨r,rfl,h⟩
 ·exact g s h
 ·exact .inr ⟨r,rfl,h⟩
theorem OkF.map(h:OkF p N R)(i:∀s,N s->N' (g s)):OkF (Pm g p) N' R:=by
 rcases h with⟨s,rfl,h⟩ | ⟨r,rfl,h⟩
 ·exact .inl ⟨_,rfl,i s h⟩
 ·exact .inr ⟨r,rfl,h⟩
theorem OkF.ite(g:c=true->OkF a N R)(hb:c=false->OkF b N R):OkF (if c=true then a else b) N R:=by
 cases c with
 | true=>exact g rfl
 | false=>exact hb rfl
theorem OkF.for(I:List α->σ->Prop)(i:I [] s0)(h:∀g x s,x∈l->g++[x] <+: l->I g s->OkF (q s x) (I (g++[x])) R):OkF (Gx l s0 q) (I l) R:=bP I R i h
theorem OkF.out(h:OkF p (λ_=>False) R):Ok (FI p) R:=by
 rcases h with⟨s,rfl,h⟩ | ⟨r,rfl,h⟩
 ·exact h.elim
 ·exact⟨r,rfl,h⟩
theorem OkF.imp(h:OkF p N R)(g:∀s,N s->N' s)(i:∀r,R r->R' r):OkF p N' R':=by
 rcases h with⟨s,rfl,h⟩ | ⟨r,rfl,h⟩
 ·exact .inl ⟨s,rfl,g s h⟩
 ·exact .inr ⟨r,rfl,i r h⟩
end
section
variable{ρ σ:Type}
theorem IY{n:Nat}{b:MS}{as:List Ar}{R:Rk ρ}{p:Option (Fw ρ σ)}{B:σ->List Sl}(h:VS (as.map Ar.sl++A7 (n - as.length) .u) b R p B):VF (FT n b) as R (FI p):=λv i S C l=>by
 cases p with
 | none=>cases i
 | some x=>
  obtain⟨g,m,o,j⟩:=h _ rfl S _ _ S (Vs.start l)
  cases x with
  | rt r=>cases i;obtain⟨d,rfl,j,A⟩:=j;exact⟨d,m,L2.SH o,A,j⟩
  | nx s=>cases i
  | bk s=>cases i
  | ct s=>cases i
theorem fW(i:VE A a (rV enc) p)(j:∀x S,tyD (enc x) S=some T)(hb:isB t T=some r):VE A (L2.mIs (isB t) (λ_=>none) a) (rV D.bl) (p.bind λ_=>some r):=λv l m e F S o=>by
 obtain⟨x,s,B⟩:=Ap l;cases B;obtain⟨d,g,C,E,rfl⟩:=i x s m e F S o;exact⟨_,g,L2.lw C (j x g) hb,E,rfl⟩
end
noncomputable def hb(g x:Int):Bool:=Builtin.bitAnd (g / 2 ^ x.toNat) 1 != 0
noncomputable abbrev HL:=List ZPi
noncomputable abbrev QL:=List (Int×Bool)
section
noncomputable abbrev w0(T:Int->ZLi)(i g:Int):ZLi:=(T g).filter (hb i)
noncomputable def MOn(T:Int->ZLi)(g:Int)(P:Int->Prop)(H:HL):Prop:=(∀x,P x->∀a,IB H x=some a->x∈w0 T g a)/\∀x y a,P x->P y->IB H x=some a->IB H y=some a->x=y
noncomputable abbrev sn(Q:QL)(x:Int):Prop:=(IB Q x).isSome=true
noncomputable def Good(T:Int->ZLi)(i:Int)(H:HL)(g:Int)(Q:QL)(j:HL):Prop:=
 (∀x,sn Q x->IB j x=IB H x)/\(MOn T i (λx=>¬sn Q x) H->(∀x,¬sn Q x->IB H x≠some g)->MOn T i (λx=>¬sn Q x) j/\∀a,(∃x,¬sn Q x/\IB j x=some a)↔a=g∨∃x,¬sn Q x/\IB H x=some a)
end
section
theorem Lh(h:e[i]?=some (some d)):AQ i e S=.ok d S:=by unfold AQ;rw[h]
end
noncomputable abbrev inG{g:Type}[DecidableEq g](x:g)(l:List g):Bool:=decide (x∈l)
theorem Wt{g:Type}[DecidableEq g]{x:g}{l:List g}:inG x l=true↔x∈l:=decide_eq_true_iff
section
theorem cy(C:VE A a (rV eF) pl)(E:VO A mlo G)(H:VO A mhi ph):VE A (DZ a mlo mhi) (rN (oL D.int)) (pl.bind λl=>G.bind λx=>ph.bind λy=>some (DQ l x y)):=λv g j e F S m=>by
 obtain⟨l,I,g⟩:=Ap g;obtain⟨x,J,g⟩:=Ap g;obtain⟨y,L,N⟩:=Ap g;cases N;obtain⟨d1,O,P,i,rfl⟩:=C l I j e F S m;obtain⟨Q,R,o⟩:=E x J j e _ O (m.grow i);obtain⟨s,T,B⟩:=H y L j e _ Q ((m.grow i).grow o);refine⟨.ref s.length,s++[oL D.int (DQ l x y)],?_,((i.trans o).trans B).trans (Keeps.app _ _),_,rfl,((i.trans o).trans B).1,Fv _ _⟩;unfold DZ;rw[P];dsimp only[Res.bind];rw[R];dsimp only;rw[T];show Res.ok _ (s++[Ob.lst (DQ (l.map D.int) x y)])=_;rw[UG];rfl
end
section
noncomputable def aL(l:ZLi):Option Int:=N3 ltZ l
noncomputable def aQ(l:ZLi):Option Int:=N3 gtZ l
theorem WT(h:VL A ml D.int pl):VE A (mQ (RX f) ml) (rV D.int) (pl.bind λl=>N3 f l):=λv g i e F S j=>by
 obtain⟨l,m,o⟩:=Ap g;obtain⟨s,B,C⟩:=h l m i e F S j;refine⟨_,s,?_,C,rfl⟩;unfold mQ;rw[B];dsimp only[Res.bind];unfold RX;rw[Ke];dsimp only;rw[o];rfl
theorem cq(h:VL A ml D.int pl):VE A (mQ aM ml) (rV D.int) (pl.bind aL):=WT h
theorem cr(h:VL A ml D.int pl):VE A (mQ aR ml) (rV D.int) (pl.bind aQ):=WT h
end
section
variable{β:Type}
noncomputable def rOL(g:β->Ob):Rk (Option β):=λv i d S=>match v with
 | none=>d=.non
 | some b=>∃n,d=.ref n/\i.length<=n/\S[n]?=some (g b)
theorem Zq:∀(v:Option β) (S S1:Sto) (d:D) (S':Sto),S.length<=S1.length->rOL g v S1 d S'->rOL g v S d S':=λv S S1 d S' l h=>by
 cases v with
 | none=>exact h
 | some b=>obtain⟨n,i,j,m⟩:=h;exact⟨n,i,Ae l j,m⟩
theorem Y9:VS A (DU (mC .non)) (rOL j) (some (.rt none)) B:=λf g l e F S i=>by
 cases g;exact⟨.rt .non,S,rfl,_,rfl,rfl,i.kp⟩
end
section
variable{α:Type}
noncomputable def C9(x y:Str):Option Str:=if x.length+y.length<=sizeLine then some (x++y)else none
theorem E8(g:VE A a (rV D.str) i)(hb:VE A b (rV D.str) j):VE A (m2 Mz a b) (rV D.str) (i.bind λx=>j.bind λy=>C9 x y):=IZ g hb λx y z S h=>by
 unfold C9 at h;split at h
 ·rename_i l
  cases h;show(if x.length+y.length<=sizeLine then Res.ok (D.str (x++y)) S else .bad)=_;rw[qX l]
 ·cases h
theorem ZL(g:VE A a (rV D.str) i)(hb:VE A b (rV D.str) j):VE A (m2 (inS false) a b) (rV D.bl) (i.bind λx=>j.bind λy=>some (Dw y x)):=IZ g hb λx y z S h=>by
 cases h;rfl
noncomputable def X9(x:Str)(i:Int):Option Str:=if x.length<=sizeLine then(atI x.cps.toList i).map λc=>⟨#[c]⟩else none
theorem ZJ(j:VE A a (rV D.str) l)(hb:VE A b (rV D.int) pi):VE A (m2 ixS a b) (rV D.str) (l.bind λx=>pi.bind λi=>X9 x i):=IZ j hb λx i z S h=>by
 unfold X9 at h;split at h
 ·rename_i m
  show(if x.length<=sizeLine then(match atI x.cps.toList i with | some c=>Res.ok (D.str ⟨#[c]⟩) S | none=>.bad)else .bad)=_;rw[qX m]
  cases g:atI x.cps.toList i with
  | none=>rw[g]at h;cases h
  | some c=>rw[g]at h;cases h;rfl
 ·cases h
noncomputable def Ps(x:Str):Option Int:=if x.length<=sizeLine then some (x.length:Int)else none
theorem OX(i:VE A a (rV D.str) j):VE A (Pn a) (rV D.int) (j.bind Ps):=λv l m e F S o=>by
 obtain⟨x,s,g⟩:=Ap l;obtain⟨d,B,C,E,rfl⟩:=i x s m e F S o;unfold Ps at g;split at g
 ·rename_i G
  cases g;refine⟨_,B,?_,E,rfl⟩;unfold Pn;rw[C];dsimp only[Res.bind];rw[qX G]
 ·cases g
noncomputable def HB(i:Int):Option Str:=if (if i < 0 then 0 - i else i) < 1000000 then some (toString i)else none
theorem MR(j:VE A a (rV D.int) l):VE A (Nv a) (rV D.str) (l.bind HB):=λv m o e F S s=>by
 obtain⟨x,B,g⟩:=Ap m;obtain⟨d,C,E,G,rfl⟩:=j x B o e F S s;unfold HB at g
 by_cases i:(if x < 0 then 0 - x else x) < 1000000
 ·rw[qX i]at g
  cases g;refine⟨_,C,?_,G,rfl⟩;unfold Nv;rw[E];dsimp only[Res.bind];rw[qX i]
 ·rw[qY i]at g
  cases g
noncomputable def Hq(x:Str):Option Int:=if x.length<=640 then LD x else none
theorem MU(i:VE A a (rV D.str) j):VE A (Nx a) (rV D.int) (j.bind Hq):=λv l m e F S o=>by
 obtain⟨x,s,g⟩:=Ap l;obtain⟨d,B,C,E,rfl⟩:=i x s m e F S o;unfold Hq at g;split at g
 ·rename_i G
  refine⟨_,B,?_,E,rfl⟩;unfold Nx;rw[C];dsimp only[Res.bind];rw[qX G,g]
 ·cases g
noncomputable def RK(g:Str)(l:List Str):Option Str:=if JoinOk g l=true then some (XV g l)else none
theorem ZI(B:VE A a (rV D.str) C)(hb:VE A b (rO (oL D.str)) pl):VE A (SS a b) (rV D.str) (C.bind λx=>pl.bind λl=>RK x l):=λv i j e F S m=>by
 obtain⟨x,E,i⟩:=Ap i;obtain⟨l,G,g⟩:=Ap i;obtain⟨d,H,I,o,rfl⟩:=B x E j e F S m;obtain⟨d2,s,J,L,n,rfl,N⟩:=hb l G j e _ H (m.grow o);unfold RK at g;split at g
 ·rename_i O
  cases g;refine⟨_,s,?_,o.trans L,rfl⟩
  have P:atL (.ref n) s=some (n,l.map D.str):=by unfold atL;dsimp only;rw[N];rfl
  unfold SS;rw[I];dsimp only[Res.bind];rw[J];dsimp only[Res.bind];rw[P];dsimp only;rw[Tb];dsimp only;rw[qX O]
 ·cases g
noncomputable def EK(x y:Str):Option (List Str):=if Ky x y=true then some (Dk x y)else none
theorem Ff(s:VE A a (rV D.str) B)(hb:VE A b (rV D.str) C):VE A (F9 a b) (rN (oL D.str)) (B.bind λx=>C.bind λy=>EK x y):=λv i l e F S m=>by
 obtain⟨x,E,i⟩:=Ap i;obtain⟨y,G,g⟩:=Ap i;obtain⟨d,H,I,j,rfl⟩:=s x E l e F S m;obtain⟨d2,J,L,o,rfl⟩:=hb y G l e _ H (m.grow j);unfold EK at g;split at g
 ·rename_i N
  cases g;refine⟨.ref J.length,_,?_,(j.trans o).trans (Keeps.app _ _),_,rfl,(j.trans o).1,Fv _ _⟩;unfold F9;rw[I];dsimp only[Res.bind];rw[L];dsimp only[Res.bind];rw[qX N];rfl
 ·cases g
noncomputable def signs(z:Str):List Str:=z.cps.toList.map λc=>⟨#[c]⟩
noncomputable def Lj(z:Str):Option (List Str):=if z.cps.all (· < 128)=true then some (signs z)else none
theorem ZC(h:VE A m (rV D.str) p):VI A (UA m) D.str (p.bind Lj):=λv i j e F S l=>by
 obtain⟨z,o,g⟩:=Ap i;obtain⟨d,s,B,C,rfl⟩:=h z o j e F S l;unfold Lj at g;split at g
 ·rename_i E
  cases g;refine⟨He (NO z),s,?_,C,λ_ _ _ _=>?_⟩
  ·unfold UA
   rw[B];dsimp only[Res.bind];rw[qX E]
  ·show some (NO z)=_
   unfold NO signs;rw[BZ];rfl
 ·cases g
noncomputable def Je(l:List α):List (Int×α):=l.zipIdx.map λx=>(((x.2+2:Nat):Int),x.1)
theorem Vu(l:List α):LA (l.map enc)=(Je l).map (eP D.int enc):=by
 unfold LA Je;rw[BZ,List.zipIdx_map,BZ];rfl
theorem ZD(o:VE A a (rN (oL enc)) pl):VI A (Oh a) (eP D.int enc) (pl.bind λl=>some (Je l)):=λv s B e F S C=>by
 obtain⟨l,E,G⟩:=Ap s;cases G;obtain⟨d,i,H,I,n,rfl,J,j⟩:=o l E B e F S C
 have m:∀g:Sto,g[n]?=some (oL enc l)->Hd (.ref n) g=some (l.map enc):=λg h=>by unfold Hd;dsimp only;rw[h];rfl
 refine⟨O9 (Hd (.ref n)),i,?_,I,λN g L h=>?_⟩
 ·unfold Oh
  rw[H];dsimp only[Res.bind];rw[m i j]
 ·unfold O9
  rw[m g (h n _ (L _ _ (Kk J j)))];show some (LA (l.map enc))=_;rw[Vu]
theorem Wp:∀a b:ZLi,HT.lexLt a b=Srt.ltL a b
 | [],[]=>rfl
 | [],_ :: _=>rfl
 | _ :: _,[]=>rfl
 | x :: a,y :: b=>by
  unfold HT.lexLt Srt.ltL;rw[Wp a b]
theorem gu(o:VE A a (rV (eT D.int)) s)(hb:VE A b (rV (eT D.int)) B):VE A (m2 ltT a b) (rV D.bl) (s.bind λx=>B.bind λy=>some (HT.lexLt x y)):=λv g i e F S j=>by
 obtain⟨x,C,g⟩:=Ap g;obtain⟨y,E,G⟩:=Ap g;cases G;obtain⟨d1,H,I,l,rfl⟩:=o x C i e F S j;obtain⟨d2,m,J,L,rfl⟩:=hb y E i e _ H (j.grow l);refine⟨_,m,D6 I J (d:=.bl (HT.lexLt x y)) ?_,l.trans L,rfl⟩;show(match Ez (x.map D.int),Ez (y.map D.int)with | some ns,some N=>Res.ok (D.bl (HT.lexLt ns N)) m | _,_=>.bad)=_;rw[Ke,Ke]
theorem bX:EqN n (eO D.int):=λx y=>by
 cases x with
 | none=>
  cases y with
  | none=>cases n <;> rfl
  | some y=>cases n <;> rfl
 | some x=>
  cases y with
  | none=>cases n <;> rfl
  | some y=>rw[show eqP n (eO D.int (some x)) (eO D.int (some y))=eqP n (D.int x) (D.int y)from rfl,CZ];simp
theorem WN(g:VE A a (rV (eP D.int D.int)) pl):VL A (Mj a) D.int (pl.bind λx=>some [x.1,x.2]):=λv i j e F S l=>by
 obtain⟨x,m,o⟩:=Ap i;cases o;obtain⟨d,s,B,C,rfl⟩:=g x m j e F S l;exact⟨s,fh B rfl,C⟩
noncomputable def KZ:List ZLi->Option (List ZPi)
 | []=>some []
 | [x,y] :: r=>(KZ r).map ((x,y) :: ·)
 | _=>none
theorem RB:∀{i:List ZLi} {ps:List ZPi},KZ i=some ps->i.map (eT D.int)=ps.map (eP D.int D.int)
 | [],ps,h=>by cases h;rfl
 | [x,y] :: r,ps,h=>by
  unfold KZ at h
  cases g:KZ r with
  | none=>rw[g]at h;cases h
  | some j=>
   rw[g]at h;cases h;rw[Ao,Ao,RB g];rfl
 | [] :: r,ps,h=>by cases h
 | [_] :: r,ps,h=>by cases h
 | (_ :: _ :: _ :: _) :: r,ps,h=>by cases h
theorem ZG(g:VE A a (rO (oL (eT D.int))) pl):VE A a (rO (oL (eP D.int D.int))) (pl.bind KZ):=λv i j e F S m=>by
 obtain⟨l,o,s⟩:=Ap i;obtain⟨d,B,C,E,n,rfl,G⟩:=g l o j e F S m;refine⟨_,B,C,E,n,rfl,?_⟩;rw[G];unfold oL;rw[RB s]
noncomputable def Qo:List (Option α)->Option (List α)
 | []=>some []
 | some x :: r=>(Qo r).map (x :: ·)
 | none :: _=>none
theorem XM:∀{i:List (Option α)} {ps:List α},Qo i=some ps->i.map (eO enc)=ps.map enc
 | [],ps,h=>by cases h;rfl
 | some x :: r,ps,h=>by
  unfold Qo at h
  cases g:Qo r with
  | none=>rw[g]at h;cases h
  | some j=>
   rw[g]at h;cases h;rw[Ao,Ao,XM g];rfl
 | none :: r,ps,h=>by cases h
noncomputable def gD(o:Option (List (Option α))):Option (Option (List α)):=match o with
 | none=>some none
 | some l=>(Qo l).map some
theorem VF.all(h:VF f as (rOL (oL (eO enc))) p):VF f as (rOL (oL enc)) (p.bind gD):=λv B S C E=>by
 obtain⟨o,G,g⟩:=Ap B;obtain⟨d,j,m,s,A⟩:=h o G S C E
 cases o with
 | none=>cases g;exact⟨d,j,m,s,A⟩
 | some l=>
  have g:(Qo l).map some=some v:=g
  cases i:Qo l with
  | none=>rw[i]at g;cases g
  | some L=>
   rw[i]at g;cases g;obtain⟨n,H,I,J⟩:=A;refine⟨d,j,m,s,n,H,I,?_⟩;rw[J];unfold oL;rw[XM i]
theorem ZA(h:A[i]?=some (.y (j v))):VS A (DU (AQ i)) (rOL j) (some (.rt (some v))) B:=λf l C e F S g=>by
 cases l;obtain⟨x,m,n,rfl,o,s⟩:=g.sl i _ h;exact⟨.rt (.ref n),S,NP (Lh m),_,rfl,⟨n,rfl,s,g.fz _ _ o⟩,g.kp⟩
end
end L4
namespace M
open PySem PySem.Spec PyProof.Rows L2
noncomputable abbrev oN(e:L2.Lo)(S:L2.Sto):L2.Res L2.Fl:=.ok (.nx e) S
noncomputable abbrev sR(n:Nat):Option L2.D:=some (.ref n)
noncomputable abbrev sI(i:Int):Option L2.D:=some (.int i)
noncomputable abbrev sF(l:ZLi):Option L2.D:=some (.fro (l.map L2.D.int))
noncomputable def top(i:Nat):Dr:=gW.main.body.getD i (.Pass ⟨0,0,0,0⟩)
structure Wd where
 GuardError:AJ
 BadPlaces:AJ
 BadTie:AJ
 NoPlace:AJ
 BadText:AJ
 Web:AJ
noncomputable def Wd.excs(W:Wd):List AJ:=[W.BadText]
noncomputable def Bm(W:Wd)(C:AJ):Option Bool:=if C∈([]:List AJ)then some true else if C∈W.excs then some false else none
noncomputable def JG(W:Wd)(C:AJ):Option Bool:=if C∈[W.BadText]then some true else if C∈W.excs then some false else none
noncomputable def F5(W:Wd)(C:AJ):Option Bool:=if C∈[W.BadText]then some true else if C∈W.excs then some false else none
noncomputable abbrev HD:Dr:=top 9
noncomputable abbrev HC:Dr:=top 10
noncomputable abbrev Ll:Dr:=Wu (top 8) 0
noncomputable abbrev HG:Dr:=Wu (top 5) 0
noncomputable abbrev KS:Dr:=top 14
noncomputable abbrev Fi:Dr:=top 15
noncomputable abbrev PU:Dr:=top 16
noncomputable abbrev HF:Dr:=top 18
noncomputable abbrev JJ:Dr:=top 19
noncomputable abbrev IF:Dr:=top 20
noncomputable abbrev JK:Dr:=top 21
noncomputable abbrev KU:Dr:=top 23
noncomputable abbrev Lk:Dr:=top 24
noncomputable abbrev HE:Dr:=top 25
noncomputable abbrev IG:Dr:=top 26
noncomputable abbrev Fj:Dr:=top 27
noncomputable abbrev JL:Dr:=top 28
noncomputable abbrev Wa:Dr:=top 29
noncomputable def QC(W:Wd):MS:=
  (BP (B5 2 aU)
  (BP (Ln (JS (AQ 1)) (KN 2 (Dm (tgN 3) (Dm (tgN 4) LR)))
  (BP (B5 5 (Kc (Am (mQ RD (Am (AQ 3) (Am (AQ 4) Bk))) (Am (mQ RE (Am (AQ 3) (Am (AQ 4) Bk))) Bk))))
  (BP (sIf (mB (m2 (eqD false) (m2 ixA (AQ 5) (mC (.int 0))) (m2 ixA (AQ 5) (mC (.int 1))))) Ti sNx)
  (BP (sIf (mOr (mB (m2 ltD (m2 ixA (AQ 5) (mC (.int 0))) (mC (.int 0)))) (mB (m2 geD (m2 ixA (AQ 5) (mC (.int 1))) (AQ 0)))) Ti sNx)
  (BP (sIf (mB (m2 (inA false) (AQ 5) (AQ 2))) Ti sNx)
  (PV (AQ 2) (AQ 5) (mC (.bl true))))))))
  (DU (Gj (Gw (AQ 2))))))
noncomputable def FQ(W:Wd):List D->Sto->Res D:=FT 6 (QC W)
noncomputable def Kq(W:Wd):MS:=
  (BP (B5 2 (Ha (Ho 1 (iR1 (Am (AQ 0) Bk)) (tgN 0) Ju (Ha (FM Bk)))))
  (BP (Ln (JS (AQ 1)) (KN 2 (Dm (tgN 3) (Dm (tgN 4) LR)))
  (BP (Ic (NU (m2 ixA (AQ 2) (AQ 3)) (AQ 4)))
  (Ic (NU (m2 ixA (AQ 2) (AQ 4)) (AQ 3)))))
  (DU (Gj (Ha (Ho 1 (JS (AQ 2)) (tgN 0) Ju (Gj (Gw (AQ 0)))))))))
noncomputable def FP(W:Wd):List D->Sto->Res D:=FT 5 (Kq W)
noncomputable def QD(W:Wd):MS:=
  (BP (sIf (Kd (mB (m3 leD leD (mC (.int 1)) (AQ 1) (mC (.int 60))))) Ti sNx)
  (BP (Q8 W.Web "places" (AQ 0) (AQ 1))
  (BP (Q8 W.Web "ties" (AQ 0) (CM 2 (FQ W) (Am (AQ 1) (Am (AQ 2) Bk))))
  (Q8 W.Web "near_sets" (AQ 0) (CM 2 (FP W) (Am (AQ 1) (Am (Qi W.Web "ties" (AQ 0)) Bk)))))))
noncomputable def Jc(W:Wd):List D->Sto->Res D:=FT 3 (QD W)
noncomputable def Kp(W:Wd):MS:=
  (BP (sIf (mOr (Kd (mB (m3 leD leD (mC (.int 1)) (Pn (AQ 0)) (mC (.int 2))))) (Kd (mB (mQ bw (Mj (Ha (Ho 1 (UA (AQ 0)) (tgN 0) Ju (m2 (inS false) (AQ 0) (mC (.str "0123456789")))))))))) (DU (mC .non)) sNx)
  (BP (sIf (ON (mB (m2 gtD (Pn (AQ 0)) (mC (.int 1)))) (mB (m2 (eqD false) (m2 ixS (AQ 0) (mC (.int 0))) (mC (.str "0"))))) (DU (mC .non)) sNx)
  (DU (Nx (AQ 0)))))
noncomputable def Kh(W:Wd):List D->Sto->Res D:=FT 1 (Kp W)
noncomputable def Ft(W:Wd):MS:=
  (BP (B5 3 (F9 (AQ 0) (mC (.str " "))))
  (BP (B5 4 (Ha (Ho 1 (JS (DZ (AQ 3) (Ew (mC (.int 1))) HK)) (tgN 0) Ju (CM 1 (Kh W) (Am (AQ 0) Bk)))))
  (BP (sIf (mOr (mB (m2 (eqD true) (m2 ixA (AQ 3) (mC (.int 0))) (AQ 1))) (mOr (mB (m2 (eqD true) (LJ (AQ 4)) (AQ 2))) (mB (m2 (inA false) (mC .non) (AQ 4))))) (DU (mC .non)) sNx)
  (DU (AQ 4)))))
noncomputable def Db(W:Wd):List D->Sto->Res D:=FT 5 (Ft W)
noncomputable def QB(W:Wd):MS:=
  (BP (B5 1 (F9 (AQ 0) (mC (.str "\n"))))
  (BP (B5 2 (CM 3 (Db W) (Am (m2 ixA (AQ 1) (mC (.int 0))) (Am (mC (.str "places")) (Am (mC (.int 1)) Bk)))))
  (BP (sIf (mOr (mB (m2 (Ql false) (AQ 2) (mC .non))) (Kd (mB (m3 leD leD (mC (.int 1)) (m2 ixA (AQ 2) (mC (.int 0))) (mC (.int 60)))))) (Kz W.BadText (Am (mC (.int 1)) Bk)) sNx)
  (BP (B5 3 (Ha (FM (Am (Kc (Am (Qh (mC (.int 1))) (Am (Qh (mC (.int 1))) Bk))) Bk))))
  (BP (Ln (Oh (DZ (AQ 1) (Ew (mC (.int 1))) HK)) (KN 2 (Dm (tgN 4) (Dm (tgN 5) LR)))
  (BP (B5 6 (CM 3 (Db W) (Am (AQ 5) (Am (mC (.str "tie")) (Am (mC (.int 2)) Bk)))))
  (BP (sIf (mOr (mB (m2 (Ql false) (AQ 6) (mC .non))) (mOr (Kd (mB (m3 ltD ltD (m2 ixA (AQ 6) (mC (.int 0))) (m2 ixA (AQ 6) (mC (.int 1))) (m2 ixA (AQ 2) (mC (.int 0)))))) (Kd (mB (m2 ltT (m2 ixA (AQ 3) (Qh (mC (.int 1)))) (Gj (AQ 6))))))) (Kz W.BadText (Am (AQ 4) Bk)) sNx)
  (Ic (NU (AQ 3) (Gj (AQ 6)))))))
  (DU (RG W.Web 3 (Jc W) (Am (m2 ixA (AQ 2) (mC (.int 0))) (Am (DZ (AQ 3) (Ew (mC (.int 1))) HK) Bk)))))))))
noncomputable def P3(W:Wd):List D->Sto->Res D:=FT 7 (QB W)
noncomputable def HS(W:Wd):MS:=
  (BP (sIf (mB (m2 ltD (AQ 1) (LJ (AQ 0)))) (DU (m2 ixA (AQ 0) (AQ 1))) sNx)
  (DU (mC (.int 0))))
noncomputable def Dc(W:Wd):List D->Sto->Res D:=FT 2 (HS W)
noncomputable def Jh(W:Wd):MS:=
  (DU (Jt (L2.mIs (isB "int") (λ_=>none) (AQ 0)) (RF (L2.mIs (isB "bool") (λ_=>none) (AQ 0)))))
noncomputable def Gy(W:Wd):List D->Sto->Res D:=FT 1 (Jh W)
noncomputable def IM(W:Wd):MS:=
  (BP (B5 1 (CM 2 (Dc W) (Am (AQ 0) (Am (mC (.int 0)) Bk))))
  (DU (m2 G0 (mC (.int 1)) (m2 ixA (Ha (FM (Am (m2 IH (m2 FZ (AQ 1) (mC (.int 4))) (mC (.int 7))) (Am (m2 IH (m2 FZ (AQ 1) (mC (.int 4))) (mC (.int 9))) (Am (m2 IH (m2 FZ (AQ 1) (mC (.int 4))) (mC (.int 20))) (Am (m2 IH (m2 FZ (AQ 1) (mC (.int 4))) (mC (.int 60))) Bk)))))) (m2 IH (AQ 1) (mC (.int 4)))))))
noncomputable def IJ(W:Wd):List D->Sto->Res D:=FT 2 (IM W)
noncomputable def Ji(W:Wd):MS:=
  (BP (B5 2 (Ha (FM Bk)))
  (BP (Ln (JS (DZ (AQ 0) (Ew (mC (.int 1))) (Ew (mC (.int 63))))) (tgN 3)
  (Ln (iR1 (Am (mC (.int 2)) Bk)) (tgN 4)
  (BP (B5 5 (m2 IH (AQ 3) (AQ 1)))
  (BP (B5 6 (m2 IH (m2 FZ (AQ 3) (AQ 1)) (AQ 1)))
  (BP (B5 3 (m2 FZ (m2 FZ (AQ 3) (AQ 1)) (AQ 1)))
  (sIf (ON (mB (m2 (eqD true) (AQ 5) (AQ 6))) (ON (mB (m2 (inA true) (Kc (Am (AQ 5) (Am (AQ 6) Bk))) (AQ 2))) (mB (m2 (inA true) (Kc (Am (AQ 6) (Am (AQ 5) Bk))) (AQ 2))))) (Ic (NU (AQ 2) (Kc (Am (AQ 5) (Am (AQ 6) Bk))))) sNx))))))
  (DU (AQ 2))))
noncomputable def Ja(W:Wd):List D->Sto->Res D:=FT 7 (Ji W)
noncomputable def Kr(W:Wd):MS:=
  (BP (B5 2 (Ha (FM (Am (m2 Mz (mC (.str "places ")) (Nv (AQ 0))) Bk))))
  (BP (Ln (JS (Gw (Ha (Ho 1 (JS (AQ 1)) (tgN 0) Ju (Kc (Am (mQ aM (Mj (AQ 0))) (Am (mQ aR (Mj (AQ 0))) Bk))))))) (KN 2 (Dm (tgN 3) (Dm (tgN 4) LR)))
  (Ic (NU (AQ 2) (m2 Mz (m2 Mz (m2 Mz (mC (.str "tie ")) (Nv (AQ 3))) (mC (.str " "))) (Nv (AQ 4))))))
  (DU (AQ 2))))
noncomputable def Ki(W:Wd):List D->Sto->Res D:=FT 5 (Kr W)
noncomputable def Lx(W:Wd):MS:=
  (BP (B5 1 (mC (.str "|tie|tie 1|tie 0 1 2|tie  0 1| tie 0 1|tie 0 1 |Tie 0 1|tie 00 1|tie 0 01")))
  (BP (B5 1 (m2 Mz (AQ 1) (mC (.str "|tie 0 1_0|tie +0 1|tie 0 -1|tie a b|tie 0,1|tie 0 1.|places 3|places"))))
  (BP (B5 1 (m2 Mz (AQ 1) (mC (.str "|edge 0 1|tie 0 100|tie 100 101|0 1|tie tie 0 1|tie0 1|places 0|places 61"))))
  (BP (B5 1 (m2 Mz (AQ 1) (mC (.str "|places 07|places +3|places 3 3|places  3| places 3|places 3 |Places 3"))))
  (BP (B5 1 (m2 Mz (AQ 1) (mC (.str "|places x|places -3|places 3_0|places 100|places 3.0| |ties 0 1|tie 0 1 #"))))
  (BP (B5 2 (F9 (AQ 1) (mC (.str "|"))))
  (DU (m2 ixA (AQ 2) (m2 IH (AQ 0) (LJ (AQ 2)))))))))))
noncomputable def Jb(W:Wd):List D->Sto->Res D:=FT 3 (Lx W)
noncomputable def HR(W:Wd):MS:=
  (BP (B5 3 (m2 G0 (mC (.int 1)) (m2 IH (m2 FZ (AQ 2) (mC (.int 12))) (LJ (AQ 0)))))
  (BP (B5 4 (m2 IH (AQ 2) (mC (.int 6))))
  (BP (B5 5 (m2 IH (m2 FZ (AQ 2) (mC (.int 5000))) (mC (.int 70))))
  (BP (B5 6 (m2 IH (m2 FZ (AQ 2) (mC (.int 350000))) (mC (.int 70))))
  (BP (sIf (mB (m2 (eqD false) (AQ 4) (mC (.int 0)))) (DU (m2 G0 (m2 G0 (DZ (AQ 0) HK (Ew (AQ 3))) (Ha (FM (Am (CM 1 (Jb W) (Am (m2 FZ (AQ 2) (mC (.int 997))) Bk)) Bk)))) (DZ (AQ 0) (Ew (AQ 3)) HK))) sNx)
  (BP (sIf (mB (m2 (eqD false) (AQ 4) (mC (.int 1)))) (DU (m2 G0 (Ha (FM (Am (CM 1 (Jb W) (Am (m2 FZ (AQ 2) (mC (.int 997))) Bk)) Bk))) (DZ (AQ 0) (Ew (mC (.int 1))) HK))) sNx)
  (BP (sIf (mOr (mB (m2 (eqD false) (AQ 4) (mC (.int 2)))) (mB (m2 (eqD false) (AQ 4) (mC (.int 3))))) (DU (m2 G0 (m2 G0 (DZ (AQ 0) HK (Ew (AQ 3))) (Ha (FM (Am (m2 Mz (m2 Mz (m2 Mz (mC (.str "tie ")) (Nv (AQ 5))) (mC (.str " "))) (Nv (AQ 6))) Bk)))) (DZ (AQ 0) (Ew (AQ 3)) HK))) sNx)
  (BP (sIf (ON (mB (m2 (eqD false) (AQ 4) (mC (.int 4)))) (mB (m2 gtD (LJ (AQ 0)) (mC (.int 1))))) (BP (B5 3 (m2 G0 (mC (.int 1)) (m2 IH (m2 FZ (AQ 2) (mC (.int 12))) (m2 iC (LJ (AQ 0)) (mC (.int 1))))))
  (DU (m2 G0 (m2 G0 (DZ (AQ 0) HK (Ew (AQ 3))) (DZ (AQ 0) (Ew (AQ 3)) (Ew (m2 G0 (AQ 3) (mC (.int 1)))))) (DZ (AQ 0) (Ew (AQ 3)) HK)))) sNx)
  (DU (m2 G0 (DZ (AQ 0) HK (Ew (AQ 3))) (DZ (AQ 0) (Ew (m2 G0 (AQ 3) (mC (.int 1)))) HK)))))))))))
noncomputable def HP(W:Wd):List D->Sto->Res D:=FT 7 (HR W)
noncomputable def IN(W:Wd):MS:=
  (BP (sIf (mOr (mB (m2 (eqD false) (AQ 0) (mC (.str "")))) (mOr (mB (m2 gtD (Pn (AQ 0)) (mC (.int 2)))) (ON (mB (m2 (eqD false) (m2 ixS (AQ 0) (mC (.int 0))) (mC (.str "0")))) (mB (m2 gtD (Pn (AQ 0)) (mC (.int 1))))))) (DU (Qh (mC (.int 1)))) sNx)
  (BP (sIf (Kd (mB (mQ bw (Mj (Ha (Ho 1 (UA (AQ 0)) (tgN 0) Ju (m2 (inS false) (AQ 0) (mC (.str "0123456789"))))))))) (DU (Qh (mC (.int 1)))) sNx)
  (DU (Nx (AQ 0)))))
noncomputable def Dt(W:Wd):List D->Sto->Res D:=FT 1 (IN W)
noncomputable def Fu(W:Wd):MS:=
  (BP (B5 1 (F9 (m2 ixA (AQ 0) (mC (.int 0))) (mC (.str " "))))
  (BP (sIf (mOr (mB (m2 (eqD true) (LJ (AQ 1)) (mC (.int 2)))) (mOr (mB (m2 (eqD true) (m2 ixA (AQ 1) (mC (.int 0))) (mC (.str "places")))) (Kd (mB (m3 leD leD (mC (.int 1)) (CM 1 (Dt W) (Am (m2 ixA (AQ 1) (mC (.int 1))) Bk)) (mC (.int 60))))))) (DU (mC (.int 1))) sNx)
  (BP (B5 2 (CM 1 (Dt W) (Am (m2 ixA (AQ 1) (mC (.int 1))) Bk)))
  (BP (B5 3 (Kc (Am (Qh (mC (.int 1))) (Am (Qh (mC (.int 1))) Bk))))
  (BP (Ln (iR2 (Am (mC (.int 1)) (Am (LJ (AQ 0)) Bk))) (tgN 4)
  (BP (B5 1 (F9 (m2 ixA (AQ 0) (AQ 4)) (mC (.str " "))))
  (BP (sIf (mOr (mB (m2 (eqD true) (LJ (AQ 1)) (mC (.int 3)))) (mB (m2 (eqD true) (m2 ixA (AQ 1) (mC (.int 0))) (mC (.str "tie"))))) (DU (m2 G0 (AQ 4) (mC (.int 1)))) sNx)
  (BP (B5 5 (Kc (Am (CM 1 (Dt W) (Am (m2 ixA (AQ 1) (mC (.int 1))) Bk)) (Am (CM 1 (Dt W) (Am (m2 ixA (AQ 1) (mC (.int 2))) Bk)) Bk))))
  (BP (sIf (mOr (mB (m2 ltD (m2 ixA (AQ 5) (mC (.int 0))) (mC (.int 0)))) (mOr (mB (m2 geD (m2 ixA (AQ 5) (mC (.int 0))) (m2 ixA (AQ 5) (mC (.int 1))))) (mOr (mB (m2 geD (m2 ixA (AQ 5) (mC (.int 1))) (AQ 2))) (mB (m2 leT (AQ 5) (AQ 3)))))) (DU (m2 G0 (AQ 4) (mC (.int 1)))) sNx)
  (B5 3 (AQ 5)))))))
  (DU (mC (.int 0))))))))
noncomputable def Fs(W:Wd):List D->Sto->Res D:=FT 6 (Fu W)
noncomputable def Jj(W:Wd):MS:=
  (BP (B5 2 (Ha (FM Bk)))
  (BP (Ln (JS (DZ (AQ 1) (Ew (mC (.int 1))) HK)) (tgN 3)
  (BP (B5 4 (F9 (AQ 3) (mC (.str " "))))
  (Ic (NU (AQ 2) (Kc (Am (Nx (m2 ixA (AQ 4) (mC (.int 1)))) (Am (Nx (m2 ixA (AQ 4) (mC (.int 2)))) Bk)))))))
  (DU (Jt (m2 (eqD false) (Qi W.Web "places" (AQ 0)) (Nx (m2 ixA (F9 (m2 ixA (AQ 1) (mC (.int 0))) (mC (.str " "))) (mC (.int 1))))) (m2 (eqD false) (Qi W.Web "ties" (AQ 0)) (Gj (AQ 2)))))))
noncomputable def Gz(W:Wd):List D->Sto->Res D:=FT 5 (Jj W)
noncomputable def br(W:Wd):MS:=
  (BP (B5 1 (CM 1 (IJ W) (Am (AQ 0) Bk)))
  (BP (B5 2 (CM 2 (Ki W) (Am (AQ 1) (Am (CM 2 (Ja W) (Am (AQ 0) (Am (AQ 1) Bk))) Bk))))
  (BP (Ln (iR1 (Am (m2 G0 (mC (.int 1)) (m2 IH (CM 2 (Dc W) (Am (AQ 0) (Am (mC (.int 1)) Bk))) (mC (.int 2)))) Bk)) (tgN 3)
  (B5 2 (CM 3 (HP W) (Am (AQ 2) (Am (AQ 1) (Am (m2 G0 (m2 IH (m2 eI (m2 IH (CM 2 (Dc W) (Am (AQ 0) (Am (m2 G0 (mC (.int 2)) (AQ 3)) Bk))) (mC (.int 2147483647))) (mC (.int 48271))) (mC (.int 2147483629))) (AQ 3)) Bk))))))
  (BP (sIf (mB (m2 (eqD false) (m2 IH (m2 FZ (CM 2 (Dc W) (Am (AQ 0) (Am (mC (.int 1)) Bk))) (mC (.int 2))) (mC (.int 8))) (mC (.int 1)))) (Ic (NU (AQ 2) (mC (.str "")))) sNx)
  (BP (B5 4 (CM 1 (Fs W) (Am (AQ 2) Bk)))
  (BP (B5 5 (mC .non))
  (BP (B5 6 (mC .non))
  (BP (VW W.excs 7 (B5 6 (CM 1 (P3 W) (Am (SS (mC (.str "\n")) (AQ 2)) Bk))) (B5 5 (AQ 7)))
  (BP (sIf (mB (m2 (eqD false) (AQ 4) (mC (.int 0)))) (DU (Jt (m2 (Ql false) (AQ 5) (mC .non)) (CM 2 (Gz W) (Am (AQ 6) (Am (AQ 2) Bk))))) sNx)
  (BP (sIf (mOr (Kd (mB (L2.mIs isN (JG W) (AQ 5)))) (Kd (mB (L2.mIs isV (F5 W) (AQ 5))))) (DU (mC (.bl false))) sNx)
  (DU (Jt (CM 1 (Gy W) (Am (T4 W.BadText (AQ 5)) Bk)) (Jt (m2 (eqD false) (T4 W.BadText (AQ 5)) (AQ 4)) (RF (aT (Bm W) (AQ 5))))))))))))))))
noncomputable def W3(W:Wd):List D->Sto->Res D:=FT 8 (br W)
set_option genInjectivity false in
structure Txt(K:AC)(mg:Str->Option AD)(W:Wd) where
 d_checked_ties:Dfn K mg "checked_ties" "checked_ties" HD ["places", "ties"]
 d_near_sets_of:Dfn K mg "near_sets_of" "near_sets_of" HC ["places", "ties"]
 d_Web_init:Mtd K "__init__" "Web.__init__" Ll ["self", "places", "ties"]
 d_BadText_init:Mtd K "__init__" "BadText.__init__" HG ["self", "row"]
 d_number_in:Dfn K mg "number_in" "number_in" KS ["word"]
 d_numbers_behind:Dfn K mg "numbers_behind" "numbers_behind" Fi ["row", "first", "many"]
 d_web_of:Dfn K mg "web_of" "web_of" PU ["text"]
 d__law_cell_at:Dfn K mg "_law_cell_at" "_law_cell_at" HF ["script", "k"]
 d__law_whole:Dfn K mg "_law_whole" "_law_whole" JJ ["found"]
 d__law_places:Dfn K mg "_law_places" "_law_places" IF ["script"]
 d__law_pairs:Dfn K mg "_law_pairs" "_law_pairs" JK ["script", "places"]
 d__law_text:Dfn K mg "_law_text" "_law_text" KU ["places", "pairs"]
 d__law_odd:Dfn K mg "_law_odd" "_law_odd" Lk ["cell"]
 d__law_changed:Dfn K mg "_law_changed" "_law_changed" HE ["rows", "places", "cell"]
 d__law_number:Dfn K mg "_law_number" "_law_number" IG ["word"]
 d__law_first_bad:Dfn K mg "_law_first_bad" "_law_first_bad" Fj ["rows"]
 d__law_alike:Dfn K mg "_law_alike" "_law_alike" JL ["web", "rows"]
 d_law:Dfn K mg "law" "law" Wa ["script"]
 c_Web:Own K mg "Web" W.Web d_Web_init.f
 n_Web_places:HU K W.Web "places"
 n_Web_ties:HU K W.Web "ties"
 n_Web_near_sets:HU K W.Web "near_sets"
 xm_GuardError:mg "GuardError" = some (.ref W.GuardError)
 xm_BadPlaces:mg "BadPlaces" = some (.ref W.BadPlaces)
 xm_BadTie:mg "BadTie" = some (.ref W.BadTie)
 xm_NoPlace:mg "NoPlace" = some (.ref W.NoPlace)
 xm_BadText:mg "BadText" = some (.ref W.BadText)
 xr:XRw K W.BadText W.GuardError d_BadText_init.f
 xi:XIs K W.BadText
 x64:W.BadText < M64
 nd:W.excs.Nodup
 caught_GuardError:∀c∈W.excs,V8 K c W.GuardError
 is_BadText:∀C b,JG W C=some b->XIs K C/\BH K (.ref C) (.ref W.BadText)=some b
 i_BadText:(CW K W.BadText).isSome=true/\KD K (.ref W.BadText)=some (.type "type")
 is_ValueError:∀C b,F5 W C=some b->XIs K C/\BH K (.ref C) (.type "ValueError")=some b
 isT_BadPlaces_BadTie_NoPlace:∀C b,Bm W C=some b->XIs K C/\DV K (.ref C) (([W.BadPlaces,W.BadTie,W.NoPlace]:List AJ).map Ai)=some b
 b_ValueError:mg "ValueError" = none
 b_all:mg "all" = none
 b_bool:mg "bool" = none
 b_enumerate:mg "enumerate" = none
 b_int:mg "int" = none
 b_isinstance:mg "isinstance" = none
 b_len:mg "len" = none
 b_max:mg "max" = none
 b_min:mg "min" = none
 b_range:mg "range" = none
 b_sorted:mg "sorted" = none
 b_str:mg "str" = none
 b_tuple:mg "tuple" = none
 g_MOST_PLACES:∃tk,mg "MOST_PLACES" = some (.int 60 tk)
 g_FIGURES:∃tk,mg "FIGURES" = some (.str "0123456789" tk)
 g_MOST_FIGURES:∃tk,mg "MOST_FIGURES" = some (.int 2 tk)
section
variable{P:A3}{w:BR}{K:AC}{mg:Str->Option AD}{base:Bt}{W:Wd}
theorem OE:B9 ["places", "ties", "found", "one", "other", "tie"] ["places", "ties"] (BA HD):=Jz
theorem OK(T:Txt K mg W):D0 P w K mg base (CXG P w) 1 T.d_checked_ties.f T.d_checked_ties.fd ["places", "ties"] (spM K 2 (FQ W)):=by
 refine DK (k:=0) T.d_checked_ties.F OE rfl λ_ _ _ _ _ _ j O g i l m=>?_
 exact(Ad (CD 2 i bL)
  (Ad (JT (Bv O).own rfl (Kg (AF (pv 1))) (Sb rfl (GN (FO 3 i) (GN (FO 4 i) Ol)))
  (Ad (CD 5 i (JW (Ah (eY rfl rfl T.b_min (Ah (AF (pv 3)) (Ah (AF (pv 4)) BI))) (Ah (ed rfl rfl T.b_max (Ah (AF (pv 3)) (Ah (AF (pv 4)) BI))) BI))))
  (Ad (EO (Bu (Hn g) (Cn g (AF (pv 5)) ge_int) (Cn g (AF (pv 5)) ge_int) (Bp _)) (Aw Mp) CI)
  (Ad (EO (Lu (GM (Bu Tv (Cn g (AF (pv 5)) ge_int) ge_int (Bp _)) (HM (Bu aG (Cn g (AF (pv 5)) ge_int) (AF (pv 0)) (Bp _))))) (Aw Mp) CI)
  (Ad (EO (fw g (AF (pv 5)) (AF (pv 2))) (Aw Mp) CI)
  (Aw (eV (Dx (Nat.add_le_add_left (by decide:1<=64) _) g) (AF (pv 2)) (AF (pv 5)) fx rfl)))))))
  (Aw (B6 (Ij rfl T.b_tuple (NY rfl rfl T.b_sorted (AF (pv 2))))))))
theorem OD:B9 ["places", "ties", "rows", "one", "other"] ["places", "ties"] (BA HC):=Jz
theorem OJ(T:Txt K mg W):D0 P w K mg base (CXG P w) 1 T.d_near_sets_of.f T.d_near_sets_of.fd ["places", "ties"] (spM K 2 (FP W)):=by
 refine DK (k:=0) T.d_near_sets_of.F OD rfl λ_ _ _ _ _ _ l O j g m o=>?_
 exact(Ad (Wv (i:=2) (own:=["place"]) (N':=["place", "·1", "·2", "·3", "·4", "·5"]) rfl rfl g rfl (by first | exact WD rfl | exact Sz rfl) (LB (by kernel_rfl)) (NX rfl T.b_range (Ah (AF (pv 0)) BI)) (λ_ _ _ _ _ _=>(FO 0 (by decide +kernel:(["place", "·1", "·2", "·3", "·4", "·5"]:List Str).Nodup))) (λ_ _ _ _ _ _=>Ii) (λ_ _ _ _ _ _=>(Fp (JV BI))))
  (Ad (JT (Bv O).own rfl (Kg (AF (pv 1))) (Sb rfl (GN (FO 3 g) (GN (FO 4 g) Ol)))
  (Ad (JU (Fq (Cn j (AF (pv 2)) (AF (pv 3))) (AF (pv 4))))
  (Aw (JU (Fq (Cn j (AF (pv 2)) (AF (pv 4))) (AF (pv 3)))))))
  (Aw (B6 (Ij rfl T.b_tuple (Fp (Oj (own:=["row"]) (N':=["row", "·1", "·2", "·3", "·4", "·5"]) rfl (LB (by kernel_rfl)) (Kg (AF (pv 2))) (λ_ _ _ _ _ _=>(FO 0 (by decide +kernel:(["row", "·1", "·2", "·3", "·4", "·5"]:List Str).Nodup))) (λ_ _ _ _ _ _=>Ii) (λ_ _ _ _ _ _=>(Ij rfl T.b_tuple (NY rfl rfl T.b_sorted (AF (pv 0))))))))))))
theorem Tg:B9 ["self", "places", "ties"] ["self", "places", "ties"] (BA Ll):=Jz
theorem Tu(T:Txt K mg W):D0 P w K mg base (CXG P w) 2 T.d_Web_init.f T.d_Web_init.fd ["self", "places", "ties"] (spM K 3 (Jc W)):=by
 refine DK (k:=1) T.d_Web_init.F Tg rfl λ_ _ _ _ _ _ g O i j l o=>?_
 exact(Ad (EO (II (Kf Nu Nu ge_int (AF (pv 1)) (P0 rfl T.g_MOST_PLACES.choose_spec))) (Aw Mp) CI)
  (Ad (Vo T.c_Web.cl T.n_Web_places (AF (pv 0)) (AF (pv 1)) rfl)
  (Ad (Vo T.c_Web.cl T.n_Web_ties (AF (pv 0)) (CJ (OK T) (Bv O).pass (g.mono (by decide)) rfl T.d_checked_ties.m T.d_checked_ties.kp T.d_checked_ties.b (Ah (AF (pv 1)) (Ah (AF (pv 2)) BI))) rfl)
  (Aw (Vo T.c_Web.cl T.n_Web_near_sets (AF (pv 0)) (CJ (OJ T) (Bv O).pass (g.mono (by decide)) rfl T.d_near_sets_of.m T.d_near_sets_of.kp T.d_near_sets_of.b (Ah (AF (pv 1)) (Ah (Vq T.c_Web.cl T.n_Web_ties (AF (pv 0)) rfl) BI))) rfl)))))
theorem OH:B9 ["self", "row"] ["self", "row"] (BA HG):=Jz
theorem Js(T:Txt K mg W):D0 P w K mg base (CXG P w) 3 T.d_BadText_init.f T.d_BadText_init.fd ["self", "row"] (WY W.BadText):=ji (k:=2) T.d_BadText_init.F OH λ_ _ _ _ _ _=>Ts (Wj (Z7 T.xr rfl T.xm_GuardError (Pe rfl (.inl rfl)) (iY (Pe rfl (.inl rfl))))) (Wi (dW T.xr (Pe rfl (.inl rfl)) (Pe rfl (.inl rfl))))
theorem SE:B9 ["word"] ["word"] (BA KS):=Jz
theorem SL(T:Txt K mg W):D0 P w K mg base (CXG P w) 1 T.d_number_in.f T.d_number_in.fd ["word"] (spM K 1 (Kh W)):=by
 refine DK (k:=0) T.d_number_in.F SE rfl λ_ _ _ _ _ _ i O g j l m=>?_
 exact(Ad (EO (Lu (GM (II (Kf Nu Nu ge_int (On rfl T.b_len (AF (pv 0))) (P0 rfl T.g_MOST_FIGURES.choose_spec))) (HM (II (Sa (bM rfl rfl T.b_all (Fp (Oj (own:=["sign"]) (N':=["sign", "·1"]) rfl (LB (by kernel_rfl)) (bE (AF (pv 0))) (λ_ _ _ _ _ _=>(FO 0 (by decide +kernel:(["sign", "·1"]:List Str).Nodup))) (λ_ _ _ _ _ _=>Ii) (λ_ _ _ _ _ _=>(NZ aF (AF (pv 0)) (bK rfl T.g_FIGURES.choose_spec) (by with_unfolding_all rfl))))))))))) (Aw (B6 JX)) CI)
  (Ad (EO (Lu (Pz (Bu Wm (On rfl T.b_len (AF (pv 0))) ge_int (Bp _)) (Oi (Bu (Hn g) (bJ aE (AF (pv 0)) ge_int) CT (Bp _))))) (Aw (B6 JX)) CI)
  (Aw (B6 (Ms rfl T.b_int (AF (pv 0)))))))
theorem Ma:B9 ["row", "first", "many", "words", "numbers"] ["row", "first", "many"] (BA Fi):=Jz
theorem Hm(T:Txt K mg W):D0 P w K mg base (CXG P w) 2 T.d_numbers_behind.f T.d_numbers_behind.fd ["row", "first", "many"] (spM K 3 (Db W)):=by
 refine DK (k:=1) T.d_numbers_behind.F Ma rfl λ_ _ _ _ _ _ l O g j m o=>?_
 exact(Ad (CD 3 j (Fo (AF (pv 0)) CT))
  (Ad (Wv (i:=4) (own:=["word"]) (N':=["word", "·1", "·2", "·3", "·4", "·5"]) rfl rfl j rfl (by first | exact WD rfl | exact Sz rfl) (LB (by kernel_rfl)) (Kg (C3 (AF (pv 3)) (DJ ge_int) EX)) (λ_ _ _ _ _ _=>(FO 0 (by decide +kernel:(["word", "·1", "·2", "·3", "·4", "·5"]:List Str).Nodup))) (λ_ _ _ _ _ _=>Ii) (λ_ _ _ _ _ _=>(gcl T.d_number_in (SL T) l (Ah (AF (pv 0)) BI))))
  (Ad (EO (Lu (GM (Bu (Pi g) (Cn g (AF (pv 3)) ge_int) (AF (pv 1)) (Bp _)) (GM (Bu (Pi g) (JY rfl T.b_len (AF (pv 4))) (AF (pv 2)) (Bp _)) (HM (fw g JX (AF (pv 4))))))) (Aw (B6 JX)) CI)
  (Aw (B6 (AF (pv 4)))))))
theorem Xo:B9 ["text", "rows", "head", "ties", "number", "row", "ends"] ["text"] (BA PU):=Jz
theorem X3(T:Txt K mg W):D0 P w K mg base (CXG P w) 5 T.d_web_of.f T.d_web_of.fd ["text"] (spM K 1 (P3 W)):=by
 refine DK (k:=4) T.d_web_of.F Xo rfl λ_ _ _ _ _ _ j O g i l o=>?_
 exact(Ad (CD 1 i (Fo (AF (pv 0)) CT))
  (Ad (CD 2 i (CJ (Hm T) (Bv O).pass (j.mono (by decide)) rfl T.d_numbers_behind.m T.d_numbers_behind.kp T.d_numbers_behind.b (Ah (Cn g (AF (pv 1)) ge_int) (Ah CT (Ah ge_int BI)))))
  (Ad (EO (Lu (GM (Bu Vb (AF (pv 2)) JX (Bp _)) (HM (II (Kf Nu Nu ge_int (Cn g (AF (pv 2)) ge_int) (P0 rfl T.g_MOST_PLACES.choose_spec)))))) (Aw (RN T.x64 (Bv O) rfl T.xr rfl T.xm_BadText (Js T) (j.mono (by decide)) T.d_BadText_init.b (Ah ge_int BI))) CI)
  (Ad (CD 3 i (Fp (JV (Ah (JW (Ah (Lv ge_int) (Ah (Lv ge_int) BI))) BI))))
  (Ad (JT (Bv O).own rfl (bF rfl T.b_enumerate (C3 (AF (pv 1)) (DJ ge_int) EX)) (Sb rfl (GN (FO 4 i) (GN (FO 5 i) Ol)))
  (Ad (CD 6 i (CJ (Hm T) (Bv O).pass (j.mono (by decide)) rfl T.d_numbers_behind.m T.d_numbers_behind.kp T.d_numbers_behind.b (Ah (AF (pv 5)) (Ah CT (Ah ge_int BI)))))
  (Ad (EO (Lu (GM (Bu Vb (AF (pv 6)) JX (Bp _)) (GM (II (Kf Tv Tv (Cn g (AF (pv 6)) ge_int) (Cn g (AF (pv 6)) ge_int) (Cn g (AF (pv 2)) ge_int))) (HM (II (Bu (i7 g) (Cn g (AF (pv 3)) (Lv ge_int)) (Ij rfl T.b_tuple (AF (pv 6))) (Bp _))))))) (Aw (RN T.x64 (Bv O) rfl T.xr rfl T.xm_BadText (Js T) (j.mono (by decide)) T.d_BadText_init.b (Ah (AF (pv 4)) BI))) CI)
  (Aw (JU (Fq (AF (pv 3)) (Ij rfl T.b_tuple (AF (pv 6)))))))))
  (Aw (B6 (ef T.c_Web.mk' (Tu T) (Bv O).pass (j.mono (by decide)) rfl T.c_Web.m T.d_Web_init.b (Ah (Cn g (AF (pv 2)) ge_int) (Ah (C3 (AF (pv 3)) (DJ ge_int) EX) BI))))))))))
theorem OG:B9 ["script", "k"] ["script", "k"] (BA HF):=Jz
theorem Es(T:Txt K mg W):D0 P w K mg base (CXG P w) 1 T.d__law_cell_at.f T.d__law_cell_at.fd ["script", "k"] (spM K 2 (Dc W)):=by
 refine DK (k:=0) T.d__law_cell_at.F OG rfl λ_ _ _ _ _ _ i O g j l m=>?_
 exact(Ad (EO (Bu Tv (AF (pv 1)) (JY rfl T.b_len (AF (pv 0))) (Bp _)) (Aw (B6 (Cn g (AF (pv 0)) (AF (pv 1))))) CI)
  (Aw (B6 ge_int)))
theorem QY:B9 ["found"] ["found"] (BA JJ):=Jz
theorem Qc(T:Txt K mg W):D0 P w K mg base (CXG P w) 1 T.d__law_whole.f T.d__law_whole.fd ["found"] (spM K 1 (Gy W)):=by
 refine DK (k:=0) T.d__law_whole.F QY rfl λ_ _ _ _ _ _ g O i j l m=>?_
 exact(Aw (B6 (L2.P1 (Wy (tabC:=λ_=>none) (c:=.ty "int") (cv:=.type "int") (λ_ r=>r) eS (λ_ _ z=>nomatch z) rfl T.b_isinstance (AF (pv 0)) (SI rfl T.b_int Oy rfl)) (Sd (bH (Wy (tabC:=λ_=>none) (c:=.ty "bool") (cv:=.type "bool") (λ_ r=>r) aw (λ_ _ z=>nomatch z) rfl T.b_isinstance (AF (pv 0)) (SI rfl T.b_bool mj rfl)))))))
theorem PQ:B9 ["script", "head"] ["script"] (BA IF):=Jz
theorem Pg(T:Txt K mg W):D0 P w K mg base (CXG P w) 2 T.d__law_places.f T.d__law_places.fd ["script"] (spM K 1 (IJ W)):=by
 refine DK (k:=1) T.d__law_places.F PQ rfl λ_ _ _ _ _ _ g O i j l o=>?_
 exact(Ad (CD 1 j (CJ (Es T) (Bv O).pass (g.mono (by decide)) rfl T.d__law_cell_at.m T.d__law_cell_at.kp T.d__law_cell_at.b (Ah (AF (pv 0)) (Ah ge_int BI))))
  (Aw (B6 (Az Dz ge_int (Cn i (Fp (JV (Ah (Az EN (Az D4 (AF (pv 1)) ge_int) ge_int) (Ah (Az EN (Az D4 (AF (pv 1)) ge_int) ge_int) (Ah (Az EN (Az D4 (AF (pv 1)) ge_int) ge_int) (Ah (Az EN (Az D4 (AF (pv 1)) ge_int) ge_int) BI)))))) (Az EN (AF (pv 1)) ge_int))))))
theorem QZ:B9 ["script", "places", "pairs", "cell", "turn", "one", "other"] ["script", "places"] (BA JK):=Jz
theorem Qd(T:Txt K mg W):D0 P w K mg base (CXG P w) 1 T.d__law_pairs.f T.d__law_pairs.fd ["script", "places"] (spM K 2 (Ja W)):=by
 refine DK (k:=0) T.d__law_pairs.F QZ rfl λ_ _ _ _ _ _ j O i g l m=>?_
 exact(Ad (CD 2 g (Fp (JV BI)))
  (Ad (JT (Bv O).own rfl (Kg (C3 (AF (pv 0)) (DJ ge_int) (DJ ge_int))) (FO 3 g)
  (Aw (JT (Bv O).own rfl (NX rfl T.b_range (Ah ge_int BI)) (FO 4 g)
  (Ad (CD 5 g (Az EN (AF (pv 3)) (AF (pv 1))))
  (Ad (CD 6 g (Az EN (Az D4 (AF (pv 3)) (AF (pv 1))) (AF (pv 1))))
  (Ad (CD 3 g (Az D4 (Az D4 (AF (pv 3)) (AF (pv 1))) (AF (pv 1))))
  (Aw (EO (Lu (Pz (Bu (Pi i) (AF (pv 5)) (AF (pv 6)) (Bp _)) (Pz (UB i (JW (Ah (AF (pv 5)) (Ah (AF (pv 6)) BI))) (AF (pv 2))) (Oi (UB i (JW (Ah (AF (pv 6)) (Ah (AF (pv 5)) BI))) (AF (pv 2))))))) (Aw (JU (Fq (AF (pv 2)) (JW (Ah (AF (pv 5)) (Ah (AF (pv 6)) BI)))))) CI))))))))
  (Aw (B6 (AF (pv 2))))))
theorem SG:B9 ["places", "pairs", "rows", "one", "other"] ["places", "pairs"] (BA KU):=Jz
theorem SM(T:Txt K mg W):D0 P w K mg base (CXG P w) 1 T.d__law_text.f T.d__law_text.fd ["places", "pairs"] (spM K 2 (Ki W)):=by
 refine DK (k:=0) T.d__law_text.F SG rfl λ_ _ _ _ _ _ i O j g l m=>?_
 exact(Ad (CD 2 g (Fp (JV (Ah (Az FK CT (Mr rfl T.b_str (AF (pv 0)))) BI))))
  (Ad (JT (Bv O).own rfl (Kg (NY rfl rfl T.b_sorted (Fp (Oj (own:=["pair"]) (N':=["pair", "·1", "·2", "·3", "·4", "·5"]) rfl (LB (by kernel_rfl)) (Kg (AF (pv 1))) (λ_ _ _ _ _ _=>(FO 0 (by decide +kernel:(["pair", "·1", "·2", "·3", "·4", "·5"]:List Str).Nodup))) (λ_ _ _ _ _ _=>Ii) (λ_ _ _ _ _ _=>(JW (Ah (eZ rfl rfl T.b_min (AF (pv 0))) (Ah (ee rfl rfl T.b_max (AF (pv 0))) BI)))))))) (Sb rfl (GN (FO 3 g) (GN (FO 4 g) Ol)))
  (Aw (JU (Fq (AF (pv 2)) (Az FK (Az FK (Az FK CT (Mr rfl T.b_str (AF (pv 3)))) CT) (Mr rfl T.b_str (AF (pv 4))))))))
  (Aw (B6 (AF (pv 2))))))
theorem Tf:B9 ["cell", "some", "odd"] ["cell"] (BA Lk):=Jz
theorem Nt(T:Txt K mg W):D0 P w K mg base (CXG P w) 1 T.d__law_odd.f T.d__law_odd.fd ["cell"] (spM K 1 (Jb W)):=by
 refine DK (k:=0) T.d__law_odd.F Tf rfl λ_ _ _ _ _ _ j O i g l m=>?_
 exact(Ad (CD 1 g CT)
  (Ad (CD 1 g (Az FK (AF (pv 1)) CT))
  (Ad (CD 1 g (Az FK (AF (pv 1)) CT))
  (Ad (CD 1 g (Az FK (AF (pv 1)) CT))
  (Ad (CD 1 g (Az FK (AF (pv 1)) CT))
  (Ad (CD 2 g (Fo (AF (pv 1)) CT))
  (Aw (B6 (Cn i (AF (pv 2)) (Az EN (AF (pv 0)) (JY rfl T.b_len (AF (pv 2)))))))))))))
theorem OF:B9 ["rows", "places", "cell", "at", "way", "one", "other"] ["rows", "places", "cell"] (BA HE):=Jz
theorem OL(T:Txt K mg W):D0 P w K mg base (CXG P w) 2 T.d__law_changed.f T.d__law_changed.fd ["rows", "places", "cell"] (spM K 3 (HP W)):=by
 refine DK (k:=1) T.d__law_changed.F OF rfl λ_ _ _ _ _ _ j O g i l o=>?_
 exact(Ad (CD 3 i (Az Dz ge_int (Az EN (Az D4 (AF (pv 2)) ge_int) (JY rfl T.b_len (AF (pv 0))))))
  (Ad (CD 4 i (Az EN (AF (pv 2)) ge_int))
  (Ad (CD 5 i (Az EN (Az D4 (AF (pv 2)) ge_int) ge_int))
  (Ad (CD 6 i (Az EN (Az D4 (AF (pv 2)) ge_int) ge_int))
  (Ad (EO (Bu (Hn g) (AF (pv 4)) ge_int (Bp _)) (Aw (B6 (Az Dz (Az Dz (C3 (AF (pv 0)) EX (DJ (AF (pv 3)))) (Fp (JV (Ah (CJ (Nt T) (Bv O).pass (j.mono (by decide)) rfl T.d__law_odd.m T.d__law_odd.kp T.d__law_odd.b (Ah (Az D4 (AF (pv 2)) ge_int) BI)) BI)))) (C3 (AF (pv 0)) (DJ (AF (pv 3))) EX)))) CI)
  (Ad (EO (Bu (Hn g) (AF (pv 4)) ge_int (Bp _)) (Aw (B6 (Az Dz (Fp (JV (Ah (CJ (Nt T) (Bv O).pass (j.mono (by decide)) rfl T.d__law_odd.m T.d__law_odd.kp T.d__law_odd.b (Ah (Az D4 (AF (pv 2)) ge_int) BI)) BI))) (C3 (AF (pv 0)) (DJ ge_int) EX)))) CI)
  (Ad (EO (Lu (GM (Bu (Hn g) (AF (pv 4)) ge_int (Bp _)) (HM (Bu (Hn g) (AF (pv 4)) ge_int (Bp _))))) (Aw (B6 (Az Dz (Az Dz (C3 (AF (pv 0)) EX (DJ (AF (pv 3)))) (Fp (JV (Ah (Az FK (Az FK (Az FK CT (Mr rfl T.b_str (AF (pv 5)))) CT) (Mr rfl T.b_str (AF (pv 6)))) BI)))) (C3 (AF (pv 0)) (DJ (AF (pv 3))) EX)))) CI)
  (Ad (EO (Lu (Pz (Bu (Hn g) (AF (pv 4)) ge_int (Bp _)) (Oi (Bu Wm (JY rfl T.b_len (AF (pv 0))) ge_int (Bp _))))) (Ad (CD 3 i (Az Dz ge_int (Az EN (Az D4 (AF (pv 2)) ge_int) (Az i5 (JY rfl T.b_len (AF (pv 0))) ge_int))))
  (Aw (B6 (Az Dz (Az Dz (C3 (AF (pv 0)) EX (DJ (AF (pv 3)))) (C3 (AF (pv 0)) (DJ (AF (pv 3))) (DJ (Az Dz (AF (pv 3)) ge_int)))) (C3 (AF (pv 0)) (DJ (AF (pv 3))) EX))))) CI)
  (Aw (B6 (Az Dz (C3 (AF (pv 0)) EX (DJ (AF (pv 3)))) (C3 (AF (pv 0)) (DJ (Az Dz (AF (pv 3)) ge_int)) EX))))))))))))
theorem PR:B9 ["word"] ["word"] (BA IG):=Jz
theorem FJ(T:Txt K mg W):D0 P w K mg base (CXG P w) 1 T.d__law_number.f T.d__law_number.fd ["word"] (spM K 1 (Dt W)):=by
 refine DK (k:=0) T.d__law_number.F PR rfl λ_ _ _ _ _ _ i O g j l m=>?_
 exact(Ad (EO (Lu (GM (Bu (Hn g) (AF (pv 0)) CT (Bp _)) (GM (Bu Wm (On rfl T.b_len (AF (pv 0))) ge_int (Bp _)) (HM (Lu (Pz (Bu (Hn g) (bJ aE (AF (pv 0)) ge_int) CT (Bp _)) (Oi (Bu Wm (On rfl T.b_len (AF (pv 0))) ge_int (Bp _))))))))) (Aw (B6 (Lv ge_int))) CI)
  (Ad (EO (II (Sa (bM rfl rfl T.b_all (Fp (Oj (own:=["sign"]) (N':=["sign", "·1"]) rfl (LB (by kernel_rfl)) (bE (AF (pv 0))) (λ_ _ _ _ _ _=>(FO 0 (by decide +kernel:(["sign", "·1"]:List Str).Nodup))) (λ_ _ _ _ _ _=>Ii) (λ_ _ _ _ _ _=>(NZ aF (AF (pv 0)) CT (by with_unfolding_all rfl)))))))) (Aw (B6 (Lv ge_int))) CI)
  (Aw (B6 (Ms rfl T.b_int (AF (pv 0)))))))
theorem Mb:B9 ["rows", "words", "places", "last", "k", "tie"] ["rows"] (BA Fj):=Jz
theorem Mg(T:Txt K mg W):D0 P w K mg base (CXG P w) 2 T.d__law_first_bad.f T.d__law_first_bad.fd ["rows"] (spM K 1 (Fs W)):=by
 refine DK (k:=1) T.d__law_first_bad.F Mb rfl λ_ _ _ _ _ _ j O g i l o=>?_
 exact(Ad (CD 1 i (Fo (Cn g (AF (pv 0)) ge_int) CT))
  (Ad (EO (Lu (GM (Bu (Pi g) (JY rfl T.b_len (AF (pv 1))) ge_int (Bp _)) (GM (Bu (Pi g) (Cn g (AF (pv 1)) ge_int) CT (Bp _)) (HM (II (Kf Nu Nu ge_int (CJ (FJ T) (Bv O).pass (j.mono (by decide)) rfl T.d__law_number.m T.d__law_number.kp T.d__law_number.b (Ah (Cn g (AF (pv 1)) ge_int) BI)) ge_int)))))) (Aw (B6 ge_int)) CI)
  (Ad (CD 2 i (CJ (FJ T) (Bv O).pass (j.mono (by decide)) rfl T.d__law_number.m T.d__law_number.kp T.d__law_number.b (Ah (Cn g (AF (pv 1)) ge_int) BI)))
  (Ad (CD 3 i (JW (Ah (Lv ge_int) (Ah (Lv ge_int) BI))))
  (Ad (JT (Bv O).own rfl (YG rfl T.b_range (Ah ge_int (Ah (JY rfl T.b_len (AF (pv 0))) BI))) (FO 4 i)
  (Ad (CD 1 i (Fo (Cn g (AF (pv 0)) (AF (pv 4))) CT))
  (Ad (EO (Lu (GM (Bu (Pi g) (JY rfl T.b_len (AF (pv 1))) ge_int (Bp _)) (HM (Bu (Pi g) (Cn g (AF (pv 1)) ge_int) CT (Bp _))))) (Aw (B6 (Az Dz (AF (pv 4)) ge_int))) CI)
  (Ad (CD 5 i (JW (Ah (CJ (FJ T) (Bv O).pass (j.mono (by decide)) rfl T.d__law_number.m T.d__law_number.kp T.d__law_number.b (Ah (Cn g (AF (pv 1)) ge_int) BI)) (Ah (CJ (FJ T) (Bv O).pass (j.mono (by decide)) rfl T.d__law_number.m T.d__law_number.kp T.d__law_number.b (Ah (Cn g (AF (pv 1)) ge_int) BI)) BI))))
  (Ad (EO (Lu (GM (Bu Tv (Cn g (AF (pv 5)) ge_int) ge_int (Bp _)) (GM (Bu aG (Cn g (AF (pv 5)) ge_int) (Cn g (AF (pv 5)) ge_int) (Bp _)) (GM (Bu aG (Cn g (AF (pv 5)) ge_int) (AF (pv 2)) (Bp _)) (HM (Bu (i8 g) (AF (pv 5)) (AF (pv 3)) (Bp _))))))) (Aw (B6 (Az Dz (AF (pv 4)) ge_int))) CI)
  (Aw (CD 3 i (AF (pv 5)))))))))
  (Aw (B6 ge_int)))))))
theorem Qa:B9 ["web", "rows", "ties", "row", "words"] ["web", "rows"] (BA JL):=Jz
theorem Qe(T:Txt K mg W):D0 P w K mg base (CXG P w) 1 T.d__law_alike.f T.d__law_alike.fd ["web", "rows"] (spM K 2 (Gz W)):=by
 refine DK (k:=0) T.d__law_alike.F Qa rfl λ_ _ _ _ _ _ j O g i l m=>?_
 exact(Ad (CD 2 i (Fp (JV BI)))
  (Ad (JT (Bv O).own rfl (Kg (C3 (AF (pv 1)) (DJ ge_int) EX)) (FO 3 i)
  (Ad (CD 4 i (Fo (AF (pv 3)) CT))
  (Aw (JU (Fq (AF (pv 2)) (JW (Ah (Ms rfl T.b_int (Cn g (AF (pv 4)) ge_int)) (Ah (Ms rfl T.b_int (Cn g (AF (pv 4)) ge_int)) BI))))))))
  (Aw (B6 (L2.P1 (NZ (Hn g) (Vq T.c_Web.cl T.n_Web_places (AF (pv 0)) rfl) (Ms rfl T.b_int (Cn g (Fo (Cn g (AF (pv 1)) ge_int) CT) ge_int)) (Bp _)) (Sd (NZ (Hn g) (Vq T.c_Web.cl T.n_Web_ties (AF (pv 0)) rfl) (Ij rfl T.b_tuple (AF (pv 2))) (Bp _))))))))
theorem iF:B9 ["script", "places", "rows", "k", "due", "error", "web", "e"] ["script"] (BA Wa):=Jz
theorem i4(T:Txt K mg W):D0 P w K mg base (CXG P w) 6 T.d_law.f T.d_law.fd ["script"] (spM K 1 (W3 W)):=by
 refine DK (k:=5) T.d_law.F iF rfl λ_ _ _ _ _ _ g O l j A o=>?_
 exact(Ad (CD 1 j (CJ (Pg T) (Bv O).pass (g.mono (by decide)) rfl T.d__law_places.m T.d__law_places.kp T.d__law_places.b (Ah (AF (pv 0)) BI)))
  (Ad (CD 2 j (CJ (SM T) (Bv O).pass (g.mono (by decide)) rfl T.d__law_text.m T.d__law_text.kp T.d__law_text.b (Ah (AF (pv 1)) (Ah (CJ (Qd T) (Bv O).pass (g.mono (by decide)) rfl T.d__law_pairs.m T.d__law_pairs.kp T.d__law_pairs.b (Ah (AF (pv 0)) (Ah (AF (pv 1)) BI))) BI))))
  (Ad (JT (Bv O).own rfl (NX rfl T.b_range (Ah (Az Dz ge_int (Az EN (CJ (Es T) (Bv O).pass (g.mono (by decide)) rfl T.d__law_cell_at.m T.d__law_cell_at.kp T.d__law_cell_at.b (Ah (AF (pv 0)) (Ah ge_int BI))) ge_int)) BI)) (FO 3 j)
  (Aw (CD 2 j (CJ (OL T) (Bv O).pass (g.mono (by decide)) rfl T.d__law_changed.m T.d__law_changed.kp T.d__law_changed.b (Ah (AF (pv 2)) (Ah (AF (pv 1)) (Ah (Az Dz (Az EN (Az i6 (Az EN (CJ (Es T) (Bv O).pass (g.mono (by decide)) rfl T.d__law_cell_at.m T.d__law_cell_at.kp T.d__law_cell_at.b (Ah (AF (pv 0)) (Ah (Az Dz ge_int (AF (pv 3))) BI))) ge_int) ge_int) ge_int) (AF (pv 3))) BI)))))))
  (Ad (EO (Bu (Hn l) (Az EN (Az D4 (CJ (Es T) (Bv O).pass (g.mono (by decide)) rfl T.d__law_cell_at.m T.d__law_cell_at.kp T.d__law_cell_at.b (Ah (AF (pv 0)) (Ah ge_int BI))) ge_int) ge_int) ge_int (Bp _)) (Aw (JU (Fq (AF (pv 2)) CT))) CI)
  (Ad (CD 4 j (CJ (Mg T) (Bv O).pass (g.mono (by decide)) rfl T.d__law_first_bad.m T.d__law_first_bad.kp T.d__law_first_bad.b (Ah (AF (pv 2)) BI)))
  (Ad (CD 5 j JX)
  (Ad (CD 6 j JX)
  (Ad (jY (i:=7) O j rfl rfl rfl T.xm_GuardError T.caught_GuardError (λs o=>(Aw (CD 6 j (CJ (X3 T) (Bv O).pass (g.mono (by decide)) rfl T.d_web_of.m T.d_web_of.kp T.d_web_of.b (Ah (bI CT (AF (pv 2))) BI))))) (λs B=>(Aw (CD 5 j (AF (pv 7))))))
  (Ad (EO (Bu (Hn l) (AF (pv 4)) ge_int (Bp _)) (Aw (B6 (L2.P1 (NZ Vb (AF (pv 5)) JX (Bp _)) (Sd (CJ (Qe T) (Bv O).pass (g.mono (by decide)) rfl T.d__law_alike.m T.d__law_alike.kp T.d__law_alike.b (Ah (AF (pv 6)) (Ah (AF (pv 2)) BI))))))) CI)
  (Ad (EO (Lu (GM (II (Sa (Wy (c:=.ref W.BadText) (cv:=.ref W.BadText) (λ_ r=>r) (jR (eR T.i_BadText.1 T.i_BadText.2)) T.is_BadText rfl T.b_isinstance (AF (pv 5)) (K0 rfl T.xm_BadText rfl)))) (HM (II (Sa (Wy (c:=.ty "ValueError") (cv:=.type "ValueError") (λ_ r=>r) jQ T.is_ValueError rfl T.b_isinstance (AF (pv 5)) (SI rfl T.b_ValueError PyProof.Rows.Boot.«ValueError» rfl))))))) (Aw (B6 fx)) CI)
  (Aw (B6 (L2.P1 (CJ (Qc T) (Bv O).pass (g.mono (by decide)) rfl T.d__law_whole.m T.d__law_whole.kp T.d__law_whole.b (Ah (bG T.xr T.xi (AF (pv 5))) BI)) (L2.P1 (NZ (Hn l) (bG T.xr T.xi (AF (pv 5))) (AF (pv 4)) (Bp _)) (Sd (bH (je (Cs:=[W.BadPlaces,W.BadTie,W.NoPlace]) T.isT_BadPlaces_BadTie_NoPlace (Nat.le_of_ble_eq_true rfl) rfl T.b_isinstance (AF (pv 5)) (il (c:=.ref W.BadPlaces) (K0 rfl T.xm_BadPlaces rfl) (il (c:=.ref W.BadTie) (K0 rfl T.xm_BadTie rfl) (il (c:=.ref W.NoPlace) (K0 rfl T.xm_NoPlace rfl) lO))))))))))))))))))))
end
open PySem L2
open Srt (ltL)
noncomputable def pairD(x:Int×Int):D:=.tup [.int x.1,.int x.2]
noncomputable def nrm(x:Int×Int):Int×Int:=(if x.2 < x.1 then x.2 else x.1,if x.2 > x.1 then x.2 else x.1)
noncomputable def PZ(x:Int×Int):ZLi:=[x.1,x.2]
noncomputable def Mn(x:Int×Int):List Key:=[.inl x.1,.inl x.2]
theorem T8{x y:Int×Int}(h:Mn x=Mn y):x=y:=by
 unfold Mn at h;simp at h;exact Qt h.1 h.2
theorem Ls:∀ns:ZLi,Ez (ns.map D.int)=some ns
 | []=>rfl
 | n :: ns=>by
  rw[Ao];unfold Ez;rw[Ls ns];rfl
theorem PX:∀g:List ZLi,(∀r∈g,r≠[])->LU (g.map LH)=some g
 | [],_=>rfl
 | [] :: g,h=>zX rfl (h [] Aa)
 | (n :: ns) :: g,h=>by
  rw[Ao];unfold LH LU;rw[Ls,show Qv (λr:ZLi=>D.tup (r.map D.int)) g=g.map LH from rfl,PX g λr i=>h r (AM _ i)]
theorem VQ(g:List ZLi)(h:∀r∈g,r≠[]):LS (g.map LH)=some ((KR g).map LH):=by
 unfold LS
 cases g with
 | nil=>simp[Ez,KR]
 | cons r g=>
  have:Ez ((r :: g).map LH)=none:=rfl;rw[this,PX _ h]
theorem VR(ns:ZLi):LS (ns.map D.int)=some ((KQ ns).map D.int):=by
 unfold LS;rw[Ls]
noncomputable def Kb(ps:List ZPi):List (List Key×D):=ps.map λx=>(Mn (nrm x),.bl true)
theorem aO(ps:List ZPi)(x:Int×Int):(IB (Kb ps) (Mn (nrm x))).isSome=decide (nrm x∈ps.map nrm):=by
 unfold IB Kb
 induction ps with
 | nil=>rfl
 | cons y ps g=>
  rw[Ao,Co]
  by_cases e:Mn (nrm y)=Mn (nrm x)
  ·rw[wX e]
   simp[T8 e]
  ·rw[wY e]
   have i:nrm x≠nrm y:=λz=>e (by rw[z])
   simp only[Ao,An,i,false_or];exact g
theorem aN(ps:List ZPi)(x:Int×Int)(h:nrm x∉ps.map nrm):Pc (Kb ps) (Mn (nrm x)) (.bl true)=Kb (ps++[x]):=by
 unfold Pc;rw[qY]
 ·simp[Kb]
 ·intro z
  obtain⟨y,g,e⟩:=cF.mp z;obtain⟨a,i,rfl⟩:=Be.mp g;exact h (by rw[<-T8 (of_decide_eq_true e)];exact List.mem_map_of_mem i)
theorem ly{S:Sto}{n:Nat}{g:List (List Key×D)}{x:Int×Int}(h:S[n]?=some (.dT g))(neg:Bool):inA neg (pairD x) (.ref n) S=.ok (.bl (if neg then !(IB g (Mn x)).isSome else(IB g (Mn x)).isSome)) S:=by
 show JP (inD neg (pairD x) (.ref n) S) (OP neg (pairD x) (.ref n) S)=_
 have e:inD neg (pairD x) (.ref n) S=.bad:=by
  unfold inD IE;dsimp only;rw[h]
 have i:YS (.ref n) (pairD x) S=some (IB g (Mn x)):=by
  unfold YS pairD;dsimp only;rw[h];rfl
 rw[e];show OP neg (pairD x) (.ref n) S=_;unfold OP;rw[i]
theorem bf{mo i mv:ME}{e:Lo}{S:Sto}{d:Nat}{g:List (List Key×D)}{x:Int×Int}{v:D}(j:mv e S=.ok v S)(ho:mo e S=.ok (.ref d) S)(hi:i e S=.ok (pairD x) S)(h:S[d]?=some (.dT g))(l:g.length < sizeLine) :
  PV mo i mv e S=.ok (.nx e) (S.set d (.dT (Pc g (Mn x) v))):=by
 unfold PV;rw[j];dsimp only[Res.lift];rw[ho];dsimp only[Res.lift];rw[hi];dsimp only[Res.lift]
 have:eo (.ref d) (pairD x) v S=some (S.set d (.dT (Pc g (Mn x) v))):=by
  unfold eo pairD;dsimp only;rw[h];show(if g.length < sizeLine then some (S.set d (.dT (Pc g (Mn x) v)))else none)=_;rw[qX l]
 rw[this]
theorem ix0(x:Int×Int)(S:Sto):ixA (pairD x) (.int 0) S=.ok (.int x.1) S:=rfl
theorem ix1(x:Int×Int)(S:Sto):ixA (pairD x) (.int 1) S=.ok (.int x.2) S:=rfl
noncomputable def Fit(p:Int)(x:Int×Int):Prop:=(nrm x).1≠(nrm x).2/\0<=(nrm x).1/\(nrm x).2 < p
noncomputable abbrev jw(W:Wd):MS:=BP (B5 5 (Kc (Am (mQ RD (Am (AQ 3) (Am (AQ 4) Bk))) (Am (mQ RE (Am (AQ 3) (Am (AQ 4) Bk))) Bk))))
  (BP (sIf (mB (m2 (eqD false) (m2 ixA (AQ 5) (mC (.int 0))) (m2 ixA (AQ 5) (mC (.int 1))))) Ti sNx)
  (BP (sIf (mOr (mB (m2 ltD (m2 ixA (AQ 5) (mC (.int 0))) (mC (.int 0)))) (mB (m2 geD (m2 ixA (AQ 5) (mC (.int 1))) (AQ 0)))) Ti sNx)
  (BP (sIf (mB (m2 (inA false) (AQ 5) (AQ 2))) Ti sNx)
  (PV (AQ 2) (AQ 5) (mC (.bl true))))))
theorem SR{t:MT}{a:MS}{e:Lo}{S:Sto}(h:t e S=.ok false S):sIf t a sNx e S=.ok (.nx e) S:=(Px (a:=a) (b:=sNx) h).trans rfl
theorem ZV{W:Wd}{p:Int}{t:D}{n:Nat}{S:Sto}{x:Int×Int}{z5:Option D}{ps:List ZPi}(g:S[n]?=some (.dT (Kb ps)))(l:ps.length<=100000)(m:Fit p x)(j:nrm x∉ps.map nrm) :
  jw W [sI p,some t,sR n,sI x.1,sI x.2,z5] S=oN [sI p,some t,sR n,sI x.1,sI x.2,some (pairD (nrm x))] (S.set n (.dT (Kb (ps++[x])))):=by
 have o:B5 5 (Kc (Am (mQ RD (Am (AQ 3) (Am (AQ 4) Bk))) (Am (mQ RE (Am (AQ 3) (Am (AQ 4) Bk))) Bk))) [sI p,some t,sR n,sI x.1,sI x.2,z5] S =
   oN [sI p,some t,sR n,sI x.1,sI x.2,some (pairD (nrm x))] S:=
  JI (i:=5) (ZU (ds:=[.int (nrm x).1,.int (nrm x).2]) (Dp (iM (ds:=[.int x.1,.int x.2]) (S1:=S) rfl rfl) (Dp (iM (ds:=[.int x.1,.int x.2]) (S1:=S) rfl rfl) rfl)) (by simp))
 obtain⟨s,A,B⟩:=m;refine(DX o).trans ((DX (SR (UT (D6 (D6 rfl rfl (ix0 _ _)) (D6 rfl rfl (ix1 _ _)) (jp (wY s)))))).trans ((DX (SR ((SJ (UT (D6 (D6 rfl rfl (ix0 _ _)) rfl (jF (wY (by omega)))))).trans (UT (D6 (D6 rfl rfl (ix1 _ _)) rfl (jg (wY (by omega)))))))).trans ((DX (SR (UT (D6 rfl rfl ?_)))).trans ?_)))
 ·rw[ly g,aO,wY j]
  rfl
 ·rw[bf (x:=nrm x) rfl rfl rfl g (by unfold Kb;rw[AL];exact Dx l (by decide)),aN _ _ j]
theorem YC{m:ME}{e:Lo}{S S1:Sto}{d:D}{xs:List D}(h:m e S=.ok d S1)(g:Jr d S1=some xs):JS m e S=.ok (Jr d) S1:=by
 unfold JS;rw[h];dsimp only[Res.bind];rw[g]
noncomputable def Cj(p:Int)(ps:List ZPi):Prop:=(∀x∈ps,Fit p x)/\(ps.map nrm).Nodup
theorem Cj.snoc{p:Int}{ps:List ZPi}{x:Int×Int}:Cj p (ps++[x])↔Cj p ps/\Fit p x/\nrm x∉ps.map nrm:=by
 unfold Cj;rw[DO,List.nodup_append]
 constructor
 ·rintro⟨i,j,m,l⟩
  exact⟨⟨λy g=>i y (by simp[g]),j⟩,i x (by simp),λz=>l _ z _ (by simp) rfl⟩
 ·rintro⟨⟨i,j⟩,m,l⟩
  refine⟨λy g=>?_,j,by simp,λa o b hb e=>?_⟩
  ·rcases Ax.mp g with g | g
   ·exact i y g
   ·rw[Ag.mp g];exact m
  ·simp at hb
   subst hb;subst e;exact l o
theorem Cj.take{p:Int}{ps:List ZPi}(h:Cj p ps)(i:Nat):Cj p (ps.take i):=by
 refine⟨λx g=>h.1 x (Gm g),?_⟩;rw[gX];exact h.2.sublist (Yz _ _)
theorem take_snoc{g:Type}{l:List g}{i:Nat}{x:g}(h:l[i]?=some x):l.take (i+1)=l.take i++[x]:=by
 rw[CL,h];rfl
theorem Sk(W:Wd){p:Int}{d:D}{S:Sto}{ps:List ZPi}(B:∀j,Keeps S j->Jr d j=some (ps.map pairD))(I:ps.length<=100000)(E:Cj p ps) :
  ∃l o z5,Ln (JS (AQ 1)) (KN 2 (Dm (tgN 3) (Dm (tgN 4) LR))) (jw W) [sI p,some d,sR S.length,none,none,none] (S++[.dT []])=oN [sI p,some d,sR S.length,l,o,z5] (S++[.dT (Kb ps)]):=by
 rw[Se (YC (m:=AQ 1) (d:=d) (S1:=S++[.dT []]) rfl (B _ (Keeps.app _ _)))]
 obtain⟨f,j,h,l,o,z5,rfl,rfl⟩:=bO (v:=Jr d) (g:=KN 2 (Dm (tgN 3) (Dm (tgN 4) LR))) (b:=jw W) (xs:=ps.map pairD) (e:=[sI p,some d,sR S.length,none,none,none]) (S:=S++[.dT []]) (λi e j=>(∃l o z5,e=[sI p,some d,sR S.length,l,o,z5])/\j=S++[.dT (Kb (ps.take i))]) (λf j=>∃l o z5,f=.nx [sI p,some d,sR S.length,l,o,z5]/\j=S++[.dT (Kb ps)]) ⟨⟨none,none,none,rfl⟩,by simp[Kb]⟩ (by rintro i e j ⟨_,rfl⟩;exact B _ (Keeps.app _ _))
  (by
   rintro i y e j s ⟨⟨l,o,z5,rfl⟩,rfl⟩;rw[At]at s
   cases A:ps[i]? with
   | none=>rw[A]at s;cases s
   | some x=>
    rw[A]at s;cases s;have J:=(AI.mp A).1;have C:=E.take (i+1);rw[take_snoc A]at C;obtain⟨_,G,H⟩:=Cj.snoc.mp C;refine⟨[sI p,some d,sR S.length,sI x.1,sI x.2,z5],_,rfl,_,_,ZV (W:=W) (p:=p) (t:=d) (z5:=z5) (x:=x) (Fv S (.dT (Kb (ps.take i)))) (by rw[Ba];omega) G H,⟨_,_,_,rfl⟩,?_⟩;rw[take_snoc A]
    simp)
  (by
   rintro e j ⟨⟨l,o,z5,rfl⟩,rfl⟩;rw[AL,C5]
   exact⟨_,_,_,rfl,rfl⟩)
 exact⟨l,o,z5,h⟩
noncomputable def IC(ps:List ZPi):List ZLi:=KR (ps.map λx=>PZ (nrm x))
theorem Sm(W:Wd){p:Int}{d:D}{S:Sto}{ps:List ZPi}(g:∀S',Keeps S S'->Jr d S'=some (ps.map pairD))(i:ps.length<=100000)(j:Cj p ps) :
  ∃S',FQ W [.int p,d] S=.ok (.tup ((IC ps).map LH)) S'/\Keeps S S':=by
 obtain⟨l,o,s,A⟩:=Sk W g i j
 ·have B:JR (.ref S.length) (S++[.dT (Kb ps)])=some ((ps.map λx=>PZ (nrm x)).map LH):=by
   unfold JR;dsimp only;rw[Fv];dsimp only;unfold Kb;rw[BZ,BZ];rfl
  have C:=NK (m:=AQ 2) (e:=[sI p,some d,sR S.length,l,o,s]) (S:=S++[.dT (Kb ps)]) rfl B (VQ _ (by intro r E;obtain⟨x,_,rfl⟩:=Be.mp E;simp[PZ]));refine⟨S++[.dT (Kb ps)]++[.lst ((IC ps).map LH)],L2.SH ?_,(Keeps.app S _).trans (Keeps.app _ _)⟩;refine KB (DX (e:=[sI p,some d,none,none,none,none]) (e1:=[sI p,some d,sR S.length,none,none,none]) (S:=S) (S1:=S++[.dT []]) rfl) ?_;refine KB (DX A) ?_;exact NP (MY C (Eo (Fv _ _)))
open PySem L2
noncomputable def Do(ts:List ZPi)(x:Nat):ZLi:=ts.flatMap λt=>(if t.1=(x:Int)then[t.2]else[])++(if t.2=(x:Int)then[t.1]else[])
theorem Tx(ts:List ZPi)(t:Int×Int)(x:Nat):Do (ts++[t]) x=Do ts x++((if t.1=(x:Int)then[t.2]else[])++(if t.2=(x:Int)then[t.1]else[])):=by
 unfold Do;rw[List.flatMap_append];simp
noncomputable def FC(p:Nat)(F:Nat->ZLi):Sto:=(Bd p).map λx=>Ob.lst ((F x).map D.int)
noncomputable def EL(k p:Nat):List D:=(Bd p).map λx=>D.ref (k+x)
noncomputable def stN(S:Sto)(p:Nat)(F:Nat->ZLi):Sto:=S++FC p F++[.lst (EL S.length p)]
theorem HH(p:Nat)(F:Nat->ZLi):(FC p F).length=p:=by simp[FC]
theorem R6(S:Sto)(p:Nat)(F:Nat->ZLi):(stN S p F).length=S.length+p+1:=by simp[stN,HH];lia
theorem NJ(S:Sto)(p:Nat)(F:Nat->ZLi):Keeps S (stN S p F):=(Keeps.app S _).trans (Keeps.app _ _)
theorem KO(S:Sto)(p:Nat)(F:Nat->ZLi):(stN S p F)[S.length+p]?=some (.lst (EL S.length p)):=by
 have:S.length+p=(S++FC p F).length:=by simp[HH]
 unfold stN;rw[this];exact Fv _ _
theorem JH(S:Sto){p a:Nat}(F:Nat->ZLi)(h:a < p):(stN S p F)[S.length+a]?=some (.lst ((F a).map D.int)):=by
 unfold stN;rw[BW,Au (by lia),Af (by rw[HH];lia),show S.length+a - S.length=a by lia];unfold FC;rw[At,Dh h];rfl
theorem WX(S:Sto){p a:Nat}(F:Nat->ZLi)(ys:ZLi)(h:a < p):(stN S p F).set (S.length+a) (.lst (ys.map D.int))=stN S p (λx=>if x=a then ys else F x):=by
 apply IU
 intro j
 by_cases e:S.length+a=j
 ·subst e
  rw[A4 (by rw[R6];lia),JH _ _ h,qX rfl]
 ·rw[BF e]
  by_cases g:j < S.length
  ·rw[(NJ S p F).2 j g,(NJ S p _).2 j g]
  by_cases i:j - S.length < p
  ·have l:j=S.length+(j - S.length):=by lia
   rw[l,JH S F i,JH S _ i,qY (by lia)]
  by_cases m:j=S.length+p
  ·subst m
   rw[KO,KO]
  ·rw[CV (by rw[R6];lia),CV (by rw[R6];lia)]
theorem Wr{S:Sto}{p a:Nat}(F:Nat->ZLi)(h:a < p):ixA (.ref (S.length+p)) (.int a) (stN S p F)=.ok (.ref (S.length+a)) (stN S p F):=by
 show JP (ixD _ _ _) _=_;have g:IE (.ref (S.length+p)) (stN S p F)=some (EL S.length p):=Eo (KO S p F)
 have i:atI (EL S.length p) (a:Int)=some (.ref (S.length+a)):=by
  unfold atI ixN;rw[show(EL S.length p).length=p by simp[EL],qX (by lia),qX (by lia)];simp only[Bw,Cp];unfold EL;rw[At,Dh h];rfl
 have:ixD (.ref (S.length+p)) (.int a) (stN S p F)=.ok (.ref (S.length+a)) (stN S p F):=by
  unfold ixD;rw[g];dsimp only;rw[i]
 rw[this];rfl
theorem Zb(S:Sto):∀p:Nat,S++FC (p+1) (λ_=>[])=S++FC p (λ_=>[])++[.lst []]:=λp=>by
 unfold FC;rw[QH,DO,BW];rfl
theorem Xq{p:Nat}(G:p<=60){mp:ME}{e:Lo}{S:Sto}(C:mp e S=.ok (.int p) S) :
  Ho 1 (iR1 (Am mp Bk)) (tgN 0) Ju (Ha (FM Bk)) e S=.ok (EL S.length p) (S++FC p λ_=>[]):=by
 have s:iR1 (Am mp Bk) e S=.ok (He (HI 0 p)) S:=by
  have:=a9 (ml:=Am mp Bk) (e:=e) (S:=S) (S1:=S) (j:=p) (Dp C rfl) (by lia) (by lia);simpa using this
 obtain⟨r,S1,A,o,⟨z,_⟩,rfl,rfl⟩:=XB (v:=He (HI 0 p)) (g:=tgN 0) (c:=Ju) (m:=Ha (FM Bk)) (xs:=HI 0 p) (e:=none :: e) (S:=S)
  (λi o B l=>(∃z,o=z :: e)/\B=S++FC i (λ_=>[])/\l=EL S.length i)
  ⟨⟨none,rfl⟩,by simp[FC],rfl⟩ (λ_ _ _ _ _=>rfl)
  (by
   rintro i d o B l E ⟨⟨z,rfl⟩,rfl,rfl⟩;obtain⟨s,rfl⟩:=Zm E;refine⟨by simp[EL];exact Dx (m:=60) (by lia) (by decide),some (.int (0+i)) :: e,_,rfl,true,_,rfl,.inl ⟨rfl,.ref (S++FC i λ_=>[]).length,_,rfl,⟨_,rfl⟩,(Zb S i).symm,?_⟩⟩;unfold EL;rw[QH,DO,AW,HH]
   rfl)
 rw[Xt]at A;exact(Si s).trans A
noncomputable abbrev XH:MS:=BP (Ic (NU (m2 ixA (AQ 2) (AQ 3)) (AQ 4))) (Ic (NU (m2 ixA (AQ 2) (AQ 4)) (AQ 3)))
noncomputable def In(p:Nat)(t:Int×Int):Prop:=0<=t.1/\t.1 < p/\0<=t.2/\t.2 < p/\t.1≠t.2
theorem Xp{p:Nat}{S:Sto}{F:Nat->ZLi}{t:Int×Int}{g d1:D}(i:In p t)(E:∀x,(F x).length < 200000) :
  XH [some g,some d1,sR (S.length+p),sI t.1,sI t.2] (stN S p F)=.ok (.nx [some g,some d1,sR (S.length+p),sI t.1,sI t.2])
   (stN S p λx=>F x++((if t.1=(x:Int)then[t.2]else[])++(if t.2=(x:Int)then[t.1]else[]))):=by
 obtain⟨a,l⟩:∃a:Nat,t.1=a:=⟨t.1.toNat,by have:=i.1;lia⟩
 obtain⟨b,hb⟩:∃b:Nat,t.2=b:=⟨t.2.toNat,by have:=i.2.2.1;lia⟩
 obtain⟨_,m,_,J,G⟩:=i
 have H:a≠b:=λe=>G (by rw[l,hb,e])
 rw[l,hb]
 have o:∀x,((F x).map D.int).length < sizeLine:=λx=>by rw[AL];exact kT (E x) (by decide)
 have s:=V0 (mo:=m2 ixA (AQ 2) (AQ 3)) (ma:=AQ 4) (e:=[some g,some d1,sR (S.length+p),sI a,sI b]) (S:=stN S p F) (S1:=stN S p F) (S2:=stN S p F) (n:=S.length+a) (y:=.int b) (D6 rfl rfl (Wr F (by lia))) (JH S F (by lia)) rfl (JH S F (by lia)) (o a);rw[show(F a).map D.int++[D.int b]=(F a++[(b:Int)]).map D.int by simp,WX S F _ (by lia)]at s
 have A:(stN S p λx=>if x=a then F a++[(b:Int)]else F x)[S.length+b]?=some (.lst ((F b).map D.int)):=by
  rw[JH S _ (by lia),qY (B8 H)]
 have B:=V0 (mo:=m2 ixA (AQ 2) (AQ 4)) (ma:=AQ 3) (e:=[some g,some d1,sR (S.length+p),sI a,sI b]) (S:=stN S p λx=>if x=a then F a++[(b:Int)]else F x) (S1:=stN S p λx=>if x=a then F a++[(b:Int)]else F x) (S2:=stN S p λx=>if x=a then F a++[(b:Int)]else F x) (n:=S.length+b) (y:=.int a) (D6 rfl rfl (Wr _ (by lia))) A rfl A (o b);rw[show(F b).map D.int++[D.int a]=(F b++[(a:Int)]).map D.int by simp,WX S _ _ (by lia)]at B;unfold XH;rw[DX (Sg s),Sg B]
 congr 2
 funext x
 by_cases j:x=b
 ·subst j
  have:¬((a:Int)=(x:Int)):=by lia
  simp[this]
 ·by_cases C:x=a
  ·subst C
   have:¬((b:Int)=(x:Int)):=by lia
   simp[j,this]
  ·have I:¬((a:Int)=(x:Int)):=by lia
   have m:¬((b:Int)=(x:Int)):=by lia
   simp[j,C,I,m]
theorem Ve(ts:List ZPi)(x:Nat):(Do ts x).length<=2 * ts.length:=by
 unfold Do
 induction ts with
 | nil=>simp
 | cons t ts g=>
  rw[List.flatMap_cons,AW,AU]
  have:((if t.1=(x:Int)then[t.2]else[])++(if t.2=(x:Int)then[t.1]else[])).length<=2:=by split <;> split <;> simp
  lia
noncomputable def R9(p:Nat)(ts:List ZPi):List D:=(Bd p).map λx=>.tup ((KQ (Do ts x)).map D.int)
theorem eD(W:Wd){p:Nat}(J:p<=60){ts:List ZPi}(L:∀t∈ts,In p t)(N:ts.length<=90000)(S:Sto) :
  ∃S',FP W [.int p,.tup (ts.map pairD)] S=.ok (.tup (R9 p ts)) S'/\Keeps S S':=by
 have G:=JI (i:=2) (Vd (Xq J (mp:=AQ 0) (e:=[sI p,some (.tup (ts.map pairD)),none,none,none]) (S:=S) rfl));have O:(S++FC p λ_=>[])++[.lst (EL S.length p)]=stN S p (Do []):=rfl
 have P:(S++FC p λ_=>[]).length=S.length+p:=by simp[HH]
 rw[O,P]at G
 obtain⟨f,S1,Q,⟨j,l,rfl⟩,rfl⟩:=bO (v:=He (ts.map pairD)) (g:=KN 2 (Dm (tgN 3) (Dm (tgN 4) LR))) (b:=XH) (xs:=ts.map pairD) (e:=[sI p,some (.tup (ts.map pairD)),sR (S.length+p),none,none]) (S:=stN S p (Do []))
  (λi e S'=>(∃j l,e=[sI p,some (.tup (ts.map pairD)),sR (S.length+p),j,l])/\S'=stN S p (Do (ts.take i)))
  (λf S'=>(∃j l,f=.nx [sI p,some (.tup (ts.map pairD)),sR (S.length+p),j,l])/\S'=stN S p (Do ts))
  ⟨⟨none,none,rfl⟩,rfl⟩ (λ_ _ _ _=>rfl)
  (by
   rintro i y e S' s ⟨⟨j,l,rfl⟩,rfl⟩;rw[At]at s
   cases A:ts[i]? with
   | none=>rw[A]at s;cases s
   | some t=>
    rw[A]at s;cases s;refine⟨[sI p,some (.tup (ts.map pairD)),sR (S.length+p),sI t.1,sI t.2],_,rfl,_,_,Xp (L t (CB A)) (λx=>?_),⟨_,_,rfl⟩,?_⟩
    ·have:=Ve (ts.take i) x
     rw[Ba]at this;exact Dx (Ae this (Nat.mul_le_mul_left 2 (Ae (cP _ _) N))) (by decide)
    ·rw[take_snoc A,show Do (ts.take i++[t])=_ from funext λx=>Tx _ _ x])
  (by
   rintro e S' ⟨⟨j,l,rfl⟩,rfl⟩;rw[AL,C5]
   exact⟨⟨_,_,rfl⟩,rfl⟩)
 have R:=(Se (g:=KN 2 (Dm (tgN 3) (Dm (tgN 4) LR))) (b:=XH) (az (m:=AQ 1) (e:=[sI p,some (.tup (ts.map pairD)),sR (S.length+p),none,none]) (S:=stN S p (Do [])) (S1:=stN S p (Do [])) (xs:=ts.map pairD) rfl)).trans Q
 obtain⟨r,T,U,B,⟨z,_⟩,K,rfl⟩:=XB (v:=Jr (.ref (S.length+p))) (g:=tgN 0) (c:=Ju) (m:=Gj (Gw (AQ 0))) (xs:=EL S.length p) (e:=[none,sI p,some (.tup (ts.map pairD)),sR (S.length+p),j,l]) (S:=stN S p (Do ts))
  (λi B S' o=>(∃z,B=[z,sI p,some (.tup (ts.map pairD)),sR (S.length+p),j,l])/\Keeps (stN S p (Do ts)) S'/\o=(Bd i).map λx=>.tup ((KQ (Do ts x)).map D.int))
  ⟨⟨none,rfl⟩,.refl _,rfl⟩ (λi B S' o h=>IX (h.2.1.at (KO S p _)))
  (by
   rintro i d B S' o C ⟨⟨z,rfl⟩,K,rfl⟩
   have H:i < p:=by
    have:=(AI.mp C).1;simpa[EL]using this
   unfold EL at C;rw[At,Dh H]at C;cases C;have E:JR (.ref (S.length+i)) S'=some ((Do ts i).map D.int):=Pw (K.at (JH S _ H));have X:=NK (m:=AQ 0) (e:=[sR (S.length+i),sI p,some (.tup (ts.map pairD)),sR (S.length+p),j,l]) (S:=S') (S1:=S') rfl E (VR _);refine⟨by simp;exact Dx (m:=60) (by lia) (by decide),[sR (S.length+i),sI p,some (.tup (ts.map pairD)),sR (S.length+p),j,l],_,rfl,true,_,rfl,.inl ⟨rfl,_,_,MY X (Eo (Fv _ _)),⟨_,rfl⟩,K.trans (Keeps.app _ _),?_⟩⟩;rw[QH,DO]
   rfl)
 have I:=(Si (n:=1) (g:=tgN 0) (c:=Ju) (m:=Gj (Gw (AQ 0))) (Py (m:=AQ 2) (e:=[sI p,some (.tup (ts.map pairD)),sR (S.length+p),j,l]) (S:=stN S p (Do ts)) (S1:=stN S p (Do ts)) rfl (KO S p _))).trans U;rw[show(EL S.length p).length=p by simp[EL]]at I;refine⟨T++[.lst (R9 p ts)],L2.SH ?_,((NJ S p _).trans K).trans (Keeps.app _ _)⟩;unfold Kq;refine KB (DX G) ?_;refine KB (DX R) ?_;exact NP (MY (Vd I) (Eo (Fv _ _)))
open PySem L2
open Srt (ltL)
noncomputable def toP(r:ZLi):Int×Int:=(r.getD 0 0,r.getD 1 0)
noncomputable def E3(ps:List ZPi):List ZPi:=(IC ps).map toP
theorem PM{ps:List ZPi}{r:ZLi}(h:r∈IC ps):∃x∈ps,r=PZ (nrm x):=by
 have:=(Fh _).mem_iff.mp h;obtain⟨x,g,rfl⟩:=Be.mp this;exact⟨x,g,rfl⟩
theorem Q4(ps:List ZPi):(E3 ps).map PZ=IC ps:=by
 unfold E3;rw[BZ]
 conv=>rhs;rw[<-WG (IC ps)]
 refine Cu λr g=>?_
 obtain⟨x,_,rfl⟩:=PM g;rfl
theorem U8(ps:List ZPi):(IC ps).map LH=(E3 ps).map pairD:=by
 rw[<-Q4,BZ];rfl
theorem TX{ps:List ZPi}{t:Int×Int}(h:t∈E3 ps):∃x∈ps,t=nrm x:=by
 obtain⟨r,g,rfl⟩:=Be.mp h;obtain⟨x,i,rfl⟩:=PM g;exact⟨x,i,rfl⟩
theorem Ib(ps:List ZPi):(E3 ps).Perm (ps.map nrm):=by
 unfold E3 IC;have:=(Fh (ps.map λx=>PZ (nrm x))).map toP;refine this.trans ?_;rw[BZ];exact WI rfl
theorem jA(x:Int×Int):(nrm x).1<=(nrm x).2:=by
 unfold nrm;dsimp only
 split <;> split <;> lia
theorem Fit.in{p:Nat}{x:Int×Int}(h:Fit p x):In p (nrm x):=by
 obtain⟨g,i,j⟩:=h;have:=jA x;exact⟨i,by lia,by lia,j,g⟩
theorem lc:¬(("places" : Str) = "ties"):=by decide +kernel
theorem lf:¬(("places" : Str) = "near_sets"):=by decide +kernel
theorem lb:¬(("ties" : Str) = "near_sets"):=by decide +kernel
theorem put2(a b:D):OI "ties" b [(("places" : Str),a)]=([("places",a),("ties",b)]:List (Str×D)):=by
 show(if ("places" : Str) = "ties" then _ else _)=_;rw[qY lc];rfl
theorem put3(a b c:D):OI "near_sets" c [(("places" : Str),a),("ties",b)]=([("places",a),("ties",b),("near_sets",c)]:List (Str×D)):=by
 show(if ("places" : Str) = "near_sets" then _ else _)=_;rw[qY lf]
 have:OI "near_sets" c [(("ties" : Str),b)]=([("ties",b),("near_sets",c)]:List (Str×D)):=by
  show(if ("ties" : Str) = "near_sets" then _ else _)=_;rw[qY lb];rfl
 rw[this]
theorem lp(a b c:D):([("places",a),("ties",b),("near_sets",c)]:List (Str×D)).lookup ("places" : Str)=some a:=by
 rw[BM,show(("places" : Str)=="places")=true by decide +kernel]
theorem ln(a b c:D):([("places",a),("ties",b),("near_sets",c)]:List (Str×D)).lookup ("ties" : Str)=some b:=by
 rw[BM,show(("ties" : Str)=="places")=false by decide +kernel];dsimp only;rw[BM,show(("ties" : Str)=="ties")=true by decide +kernel]
theorem jG(a b:D):([("places",a),("ties",b)]:List (Str×D)).lookup ("ties" : Str)=some b:=by
 rw[BM,show(("ties" : Str)=="places")=false by decide +kernel];dsimp only;rw[BM,show(("ties" : Str)=="ties")=true by decide +kernel]
open PySem L2 L4
noncomputable def Pj(W:Wd)(w:Nat×List ZPi):Ob:=.ins W.Web [("places",.int w.1),("ties",.tup (w.2.map pairD)),("near_sets",.tup (R9 w.1 w.2))]
open Classical in
noncomputable def cZ(x:Int)(l:List ZPi):Option (Nat×List ZPi):=if 1<=x/\x<=60/\Cj x l/\l.length<=90000 then some (x.toNat,E3 l)else none
section
variable{W:Wd}{A:List Sl}{a b m:ME}{p:Option (Nat×List ZPi)}
theorem WS{i:Type}{f:Str}{enc:i->D}{g:Nat×List ZPi->i}(h:VE A m (rO (Pj W)) p)(j:∀w,([("places",D.int w.1),("ties",.tup (w.2.map pairD)),("near_sets",.tup (R9 w.1 w.2))]:List (Str×D)).lookup f=some (enc (g w))):VE A (Qi W.Web f m) (rV enc) (p.bind λw=>some (g w)):=λv l o e F S s=>by
 obtain⟨w,B,C⟩:=Ap l;cases C;obtain⟨d,E,G,H,n,rfl,I⟩:=h w B o e F S s;exact⟨_,E,bQ G I (j w),H,rfl⟩
theorem Xd(h:VE A m (rO (Pj W)) p):VE A (Qi W.Web "places" m) (rV D.int) (p.bind λw=>some (w.1:Int)):=WS h λw=>lp _ _ _
theorem cm(h:VE A m (rO (Pj W)) p):VE A (Qi W.Web "ties" m) (rV (eT (eP D.int D.int))) (p.bind λw=>some w.2):=WS h λw=>ln _ _ _
theorem gi(W:Wd){p:Nat}(h1:1<=p)(P:p<=60){d:D}{S:Sto}{ps:List ZPi}(Q:∀g,Keeps S g->Jr d g=some (ps.map pairD))(I:ps.length<=90000)(J:Cj p ps){e:Lo}{ml:ML}{S0:Sto}(R:ml e S0=.ok [.int p,d] S) :
  ∃g,RG W.Web 3 (Jc W) ml e S0=.ok (.ref S.length) g/\Keeps S g/\g[S.length]?=some (Pj W (p,E3 ps)):=by
 have T:Kd (mB (m3 leD leD (mC (.int 1)) (AQ 1) (mC (.int 60)))) [sR S.length,sI p,some d] (S++[.ins W.Web []])=.ok false (S++[.ins W.Web []]):=
  aJ (b:=true) (UT (fq (S3:=S++[.ins W.Web []]) rfl rfl (ag (wX (by omega))) rfl (ag (wX (by omega)))))
 have U:(S++[Ob.ins W.Web []])[S.length]?=some (.ins W.Web []):=Fv _ _;have e1:=SA (C:=W.Web) (f:="places") (mo:=AQ 0) (mv:=AQ 1) (e:=[sR S.length,sI p,some d]) (S:=S++[.ins W.Web []]) (v:=.int p) rfl rfl U (by decide);have i:Keeps S ((S++[Ob.ins W.Web []]).set S.length (.ins W.Web (OI "places" (.int p) []))):=(Keeps.app S _).set (AN _) _;generalize j:(S++[Ob.ins W.Web []]).set S.length (.ins W.Web (OI "places" (.int p) []))=S1 at e1 i
 have L:S1[S.length]?=some (.ins W.Web [("places",.int p)]):=by rw[<-j];exact A4 (by simp)
 obtain⟨l,N,o⟩:=Sm W (p:=p) (d:=d) (S:=S1) (ps:=ps) (λg k=>Q g (i.trans k)) (Ae I (by decide)) J;rw[U8]at N;have s:=SA (C:=W.Web) (f:="ties") (mo:=AQ 0) (mv:=CM 2 (FQ W) (Am (AQ 1) (Am (AQ 2) Bk))) (e:=[sR S.length,sI p,some d]) (S:=S1) ((Mt rfl rfl).trans N) rfl (o.at L) (by simp);have B:Keeps S (l.set S.length (.ins W.Web (OI "ties" (.tup ((E3 ps).map pairD)) [("places",.int p)]))):=(i.trans o).set (AN _) _;rw[put2]at s B;have X:S.length < l.length:=(AI.mp (o.at L)).1;generalize E:l.set S.length (.ins W.Web [("places",.int p),("ties",.tup ((E3 ps).map pairD))])=S3 at s B
 have G:S3[S.length]?=some (.ins W.Web [("places",.int p),("ties",.tup ((E3 ps).map pairD))]):=by rw[<-E];exact A4 X
 obtain⟨Y,Z,H⟩:=eD W P (ts:=E3 ps) (λt ht=>by
  obtain⟨x,hx,rfl⟩:=TX ht
  exact(J.1 x hx).in) (by rw[(Ib ps).length_eq,AL];exact I) S3
 have O:=SA (C:=W.Web) (f:="near_sets") (mo:=AQ 0) (mv:=CM 2 (FP W) (Am (AQ 1) (Am (Qi W.Web "ties" (AQ 0)) Bk))) (e:=[sR S.length,sI p,some d]) (S:=S3)
  ((Mt (Dp (S1:=S3) rfl (Dp (bQ rfl G (jG _ _)) rfl)) rfl).trans Z) rfl (H.at G) (by simp)
 have wj:S.length < Y.length:=(AI.mp (H.at G)).1;rw[put3]at O;refine⟨_,eK R rfl (L2.iI (e:=[sR S.length,sI p,some d]) ?_),(B.trans H).set (AN _) _,A4 wj⟩;unfold QD;refine KB (DX (e:=[sR S.length,sI p,some d]) (e1:=[sR S.length,sI p,some d]) (S1:=S++[.ins W.Web []]) (KB (Px T) rfl)) ?_;rw[DX e1,DX s];exact O
theorem gq{o:Option Int}{pl:Option (List ZPi)}(E:VE A a (rV D.int) o)(hb:VE A b (rO (oL (eP D.int D.int))) pl):VE A (RG W.Web 3 (Jc W) (Am a (Am b Bk))) (rN (Pj W)) (o.bind λx=>pl.bind λl=>cZ x l):=λv i S0 e F S s=>by
 obtain⟨x,G,i⟩:=Ap i;obtain⟨l,H,g⟩:=Ap i;obtain⟨d1,I,J,j,rfl⟩:=E x G S0 e F S s;obtain⟨d2,L,N,B,n,rfl,O⟩:=hb l H S0 e _ I (s.grow j);unfold cZ at g;split at g
 ·rename_i P
  cases g;obtain⟨Z,c2,Q,R⟩:=P;have C:((x.toNat:Nat):Int)=x:=B2 (by omega);obtain⟨T,U,X,Y⟩:=gi W (p:=x.toNat) (d:=.ref n) (S:=L) (ps:=l) (by omega) (by omega) (λS' k=>IX (k.at O)) R (by rw[C];exact Q) (ml:=Am a (Am b Bk)) (e:=e) (S0:=S) (by rw[C];exact Dp J (Dp N rfl));exact⟨_,T,U,(j.trans B).trans X,_,rfl,(j.trans B).1,Y⟩
 ·cases g
end
noncomputable def Hj(g:Str):Option (Fw (Option Int) Unit):=
 A2 (((((some (1:Int)).bind λl=>((some g).bind Ps).bind λi=>if decide (l<=i)=true then(some (2:Int)).bind λm=>some (decide (i<=m))else some false).bind λo=>some (!o)).bind λs=>if s=true then some true else((((some g).bind Lj).bind λA=>Hr A (λj=>some true) (λj=>(some j).bind λB=>(some ("0123456789" : Str)).bind λC=>some (Dw C B))).bind λE=>some (E.all id)).bind λG=>some (!G)).bind λH=>if H=true then(some none).bind λI=>some (.rt I)else some (.nx ())) λ_=>A2 (((((some g).bind Ps).bind λJ=>(some (1:Int)).bind λL=>some (decide (L < J))).bind λN=>if N=true then((some g).bind λO=>(some (0:Int)).bind λP=>X9 O P).bind λQ=>(some ("0" : Str)).bind λR=>some (decide (Q=R))else some false).bind λS=>if S=true then(some none).bind λT=>some (.rt T)else some (.nx ())) λ_=>(((some g).bind Hq).bind λU=>some (some U)).bind λX=>some (.rt X)
noncomputable def EM(g:Str):Option (Option Int):=FI (Hj g)
theorem TQ(W:Wd)(g:Str):VF (Kh W) [.v (D.str g)] (rV (eO D.int)) (EM g):=by
 refine IY (n:=1) (b:=Kp W) (p:=Hj g) (B:=λ_=>[]) ?_;show VS [.v (D.str g)] _ _ _ _;unfold Kp Hj;exact(BD (FY (B:=(λ(_:Unit)=>[.v (D.str g)])) (Hi (JE (Dl (MV RS RS (BB rfl) (OX (Ab rfl)) (BB rfl)))) (JE (Dl (ZN (WO (EI (Gh (MQ (VI.k (ZC (Ab rfl))) (λi=>OY) (λi=>(ZL (Ab rfl) (BB rfl))))))))))) (Dy Rx) (FX (.refl _))) (λ_=>(BD (FY (B:=(λ(_:Unit)=>[.v (D.str g)])) (PF (Dl (WR (OX (Ab rfl)) (BB rfl))) (Dl (Hg K9 NT (ZJ (Ab rfl) (BB rfl)) (BB rfl)))) (Dy Rx) (FX (.refl _))) (λ_=>(Dy (cn (MU (Ab rfl))))))))
noncomputable def D3(l:Str)(m:Str)(o:Int):Option (Fw (Option (List (Option Int))) Unit):=
 A2 (((some l).bind λs=>(some (" " : Str)).bind λA=>EK s A).bind λB=>some (.nx B)) λi=>A2 ((((some i).bind λC=>((some (1:Int)).bind λE=>some (some E)).bind λG=>(some none).bind λH=>some (DQ C G H)).bind λI=>Hr I (λj=>some true) (λj=>((some j).bind λJ=>(some ()).bind λL=>some (J,L)).bind λN=>EM N.1)).bind λO=>some (.nx O)) λg=>A2 (((((some i).bind λP=>(some (0:Int)).bind λQ=>atI P Q).bind λR=>(some m).bind λS=>some (!decide (R=S))).bind λT=>if T=true then some true else(((some g).bind λU=>some (U.length:Int)).bind λX=>(some o).bind λY=>some (!decide (X=Y))).bind λZ=>if Z=true then some true else(some none).bind λpA=>(some g).bind λoF=>some (inG pA oF)).bind λoS=>if oS=true then some (.rt none)else some (.nx ())) λ_=>some (.rt (some g))
noncomputable def FH(g:Str)(i:Str)(j:Int):Option (Option (List (Option Int))):=FI (D3 g i j)
theorem MX(W:Wd)(g:Str)(i:Str)(j:Int):VF (Db W) [.v (D.str g),.v (D.str i),.v (D.int j)] (rOL (oL (eO D.int))) (FH g i j):=by
 refine IY (n:=5) (b:=Ft W) (p:=D3 g i j) (B:=λ_=>[]) ?_;show VS [.v (D.str g),.v (D.str i),.v (D.int j),.u,.u] _ _ _ _;unfold Ft D3;exact(BD (JA (Ff (Ab rfl) (BB rfl))) (λl=>(BD (JA (Gh (MQ (VI.k (Rw (D2 (B0 rfl) (DH (BB rfl)) ES))) (λm=>OY) (λm=>(Ci (E9 (Ab rfl) DP) (λo=>TQ W o.1) (λ_=>rfl) HJ))))) (λs=>(BD (FY (B:=(λ(_:Unit)=>[.v (D.str g),.v (D.str i),.v (D.int j),.y ((oL D.str) l),.y ((oL (eO D.int)) s)])) (Hi (Dl (PB K9 NT (DD (B0 rfl) (BB rfl)) (Ab rfl))) (Hi (Dl (PB CZ FL (Hf (B0 rfl)) (Ab rfl))) (Dl (gz bX Rx (B0 rfl))))) Y9 (FX (.refl _))) (λ_=>(ZA rfl)))))))
noncomputable def CS(i first:Str)(g:Int):Option (Option ZLi):=(FH i first g).bind gD
theorem Ia(W:Wd)(i first:Str)(g:Int):VF (Db W) [.v (D.str i),.v (D.str first),.v (D.int g)] (rOL (oL D.int)) (CS i first g):=(MX W i first g).all
end M
namespace L4
open PySem L2
section
variable{S0 S S':Sto}{A:List Sl}{e:Lo}{F:Fz}{α β γ ρ σ τ:Type}{a b m me:ME}{C:AJ}
theorem gv{i j:Option ZPi}(s:VE A a (rV (eP D.int D.int)) i)(hb:VE A b (rV (eP D.int D.int)) j):VE A (m2 leT a b) (rV D.bl) (i.bind λx=>j.bind λy=>some (!Srt.ltL [y.1,y.2] [x.1,x.2])):=λv g S0 e F S l=>by
 obtain⟨x,B,g⟩:=Ap g;obtain⟨y,E,G⟩:=Ap g;cases G;obtain⟨d1,H,I,o,rfl⟩:=s x B S0 e F S l;obtain⟨d2,J,L,N,rfl⟩:=hb y E S0 e _ H (l.grow o);exact⟨_,J,D6 I L (d:=.bl (!Srt.ltL [y.1,y.2] [x.1,x.2])) rfl,o.trans N,rfl⟩
noncomputable def VGX(C:AJ)(S0:Sto)(F:Fz)(S':Sto)(R:Rk ρ)(B:σ->List Sl)(g:Fl):Fw (Int ⊕ ρ) σ->Prop
 | .nx s=>∃i j,g=.nx i/\Vs S0 (B s) i j S'/\Fle F j
 | .ct s=>∃i j,g=.ct i/\Vs S0 (B s) i j S'/\Fle F j
 | .bk s=>∃i j,g=.bk i/\Vs S0 (B s) i j S'/\Fle F j
 | .rt (.inl n)=>∃i,g=.ex (GH C n) i/\Keeps S0 S'
 | .rt (.inr r)=>∃d,g=.rt d/\R r S0 d S'/\Keeps S0 S'
noncomputable def VX(C:AJ)(A:List Sl)(b:MS)(R:Rk ρ)(p:Option (Fw (Int ⊕ ρ) σ))(B:σ->List Sl):Prop:=∀f,p=some f->∀S0 e F S,Vs S0 A e F S->∃g S',b e S=.ok g S'/\VGX C S0 F S' R B g f
noncomputable abbrev rNo:Rk α:=λ_ _ _ _=>False
theorem VGX.up{F H:Fz}{R:Rk ρ}{B:σ->List Sl}{g:Fl}{f:Fw (Int ⊕ ρ) σ}(l:Fle F H)(h:VGX C S0 H S' R B g f):VGX C S0 F S' R B g f:=by
 cases f with
 | rt r=>cases r <;> exact h
 | nx s=>obtain⟨i,j,o,E,G⟩:=h;exact⟨i,j,o,E,l.trans G⟩
 | bk s=>obtain⟨i,j,o,E,G⟩:=h;exact⟨i,j,o,E,l.trans G⟩
 | ct s=>obtain⟨i,j,o,E,G⟩:=h;exact⟨i,j,o,E,l.trans G⟩
theorem Y8{b:MS}{R:Rk ρ}{p:Option (Fw (Int ⊕ ρ) σ)}{B:σ->List Sl}(h:VS A b rNo p B):VX C A b R p B:=λf o S0 e F S E=>by
 obtain⟨g,j,l,i⟩:=h f o S0 e F S E
 cases f with
 | rt r=>obtain⟨_,_,z,_⟩:=i;exact z.elim
 | nx s=>exact⟨g,j,l,i⟩
 | bk s=>exact⟨g,j,l,i⟩
 | ct s=>exact⟨g,j,l,i⟩
theorem U2{a b:MS}{R:Rk ρ}{p:Option (Fw (Int ⊕ ρ) σ)}{q:σ->Option (Fw (Int ⊕ ρ) τ)}{B:σ->List Sl}{C':τ->List Sl}(G:VX C A a R p B)(hb:∀s,VX C (B s) b R (q s) C'):VX C A (BP a b) R (A2 p q) C':=λf j S0 e F S H=>by
 cases p with
 | none=>cases j
 | some w=>
  obtain⟨g,l,o,i⟩:=G _ rfl S0 e F S H
  cases w with
  | nx s=>
   obtain⟨I,J,rfl,i,E⟩:=i;obtain⟨L,N,O,P⟩:=hb s f j S0 I J l i;exact⟨L,N,(DX o).trans O,P.up E⟩
  | rt r=>
   cases j
   cases r with
   | inl n=>
    obtain⟨d,rfl,i⟩:=i;exact⟨_,l,VV o,d,rfl,i⟩
   | inr r=>
    obtain⟨d,rfl,i,E⟩:=i;exact⟨_,l,Zi o,d,rfl,i,E⟩
  | bk s=>cases j
  | ct s=>cases j
theorem gj{b:MS}{R:Rk ρ}{p:Option ρ}{B:σ->List Sl}(h:VS A b R (p.bind λv=>some (.rt v)) B):VX C A b R (p.bind λv=>some (.rt (.inr v))) B:=λf g S0 e F S i=>by
 obtain⟨v,j,l⟩:=Ap g;cases l;exact h (.rt v) (by rw[j];rfl) S0 e F S i
theorem cf{enc:α->D}{g:MG}{t:α->List Sl->List Sl}{b:MS}{R:Rk ρ}{q:σ->α->Option (Fw (Int ⊕ ρ) σ)}{B:σ->List Sl}(hg:VT g enc t)(hb:∀s x,VX C (t x (B s)) b R (q s x) B){w:Nd}{S0:Sto}{Y:Fz}{i:List α}
  (hw:∀Z pq,Fle Y Z->(∀n o,Z n=.fz o->pq[n]?=some o)->w pq=some (i.map enc)):∀(l:List α) (k:Nat),i.drop k=l->∀(s:σ) (f:Fw (Int ⊕ ρ) σ),Gx l s q=some f->∀e F S,Vs S0 (B s) e F S->Fle Y F->∃h S',Gk w g b (l.length) k e S=.ok h S'/\VGX C S0 Y S' R B h f:=by
 intro l
 induction l with
 | nil=>
  intro k U s f E e F S P N;cases E
  have:i.length<=k:=by
   have:=congrArg Ec U;rw[CC,B7]at this
   lia
  refine⟨_,S,?_,e,F,rfl,P,N⟩;unfold Gk;rw[hw F S N P.fz];dsimp only;rw[CV (by rw[AL];exact this)]
 | cons x l ih=>
  intro k U s f E e F S P N
  have hx:i[k]?=some x:=by
   have:=congrArg (λz=>z[0]?) U;rw[E4]at this;simpa using this
  have pe:i.drop (k+1)=l:=by
   have J:i.drop (k+1)=(i.drop k).drop 1:=by rw[LO]
   exact J.trans (congrArg (cE 1) U)
  obtain⟨J,g1,Q⟩:=hg x S0 _ e F S P
  have run:∀h S',b J S=.ok h S'->Gk w g b ((x :: l).length) k e S=(match h with
    | .nx j=>Gk w g b l.length (k+1) j S'
    | .ct j=>Gk w g b l.length (k+1) j S'
    | .bk j=>.ok (.nx j) S'
    | .rt d=>.ok (.rt d) S'
    | .ex c j=>.ok (.ex c j) S'):=λh S' oP=>by
   show Gk w g b (l.length+1) k e S=_
   conv=>lhs;unfold Gk
   rw[hw F S N P.fz];dsimp only;rw[At,hx];dsimp only[QG];rw[g1];dsimp only[Res.bind];rw[oP]
   all_goals (cases h <;> rfl)
  unfold Gx at E;split at E
  ·rename_i X L
   obtain⟨h,G,H,j,T,rfl,I,O⟩:=hb s x _ L S0 J F S Q;rw[run _ _ H];exact ih (k+1) pe X f E j T G I (N.trans O)
  ·rename_i X L
   obtain⟨h,G,H,j,T,rfl,I,O⟩:=hb s x _ L S0 J F S Q;rw[run _ _ H];exact ih (k+1) pe X f E j T G I (N.trans O)
  ·rename_i X L
   cases E;obtain⟨h,G,H,j,T,rfl,I,O⟩:=hb s x _ L S0 J F S Q;rw[run _ _ H];exact⟨_,G,rfl,j,T,rfl,I,N.trans O⟩
  ·rename_i r L
   cases E
   cases r with
   | inl n=>
    obtain⟨h,G,H,d,rfl,I⟩:=hb s x _ L S0 J F S Q;rw[run _ _ H];exact⟨_,G,rfl,d,rfl,I⟩
   | inr r=>
    obtain⟨h,G,H,d,rfl,I,O⟩:=hb s x _ L S0 J F S Q;rw[run _ _ H];exact⟨_,G,rfl,d,rfl,I,O⟩
  ·cases E
theorem gk{enc:α->D}{o:MI}{g:MG}{t:α->List Sl->List Sl}{b:MS}{R:Rk ρ}{p:Option (List α)}{q:σ->α->Option (Fw (Int ⊕ ρ) σ)}{B:σ->List Sl}{s0:σ}(hi:VI A o enc p)(H:VT g enc t)(w0:Wk A (B s0))(hb:∀s x,VX C (t x (B s)) b R (q s x) B) :
  VX C A (Ln o g b) R (p.bind λl=>Gx l s0 q) B:=λf I S0 e F S j=>by
 obtain⟨l,J,L⟩:=Ap I;obtain⟨w,i,N,O,E⟩:=hi l J S0 e F S j;have G:=j.grow O
 have P:Cg w i=l.length:=by unfold Cg;rw[E _ i (Fle.refl _) G.fz];exact AL _
 obtain⟨h,Q,T,U⟩:=cf H hb E l 0 rfl s0 f L e _ i (G.weak w0) (Fle.refl _);refine⟨h,Q,?_,U.up (j.fle i)⟩;rw[Se N,P];exact T
noncomputable def C1(p:Option Int):Option (Fw (Int ⊕ ρ) σ):=p.bind λn=>if Nq n then some (.rt (.inl n))else none
theorem TL{R:Rk ρ}{p:Option Int}{B:σ->List Sl}(h:VE A me (rV D.int) p):VX C A (Kz C (Am me Bk)) R (C1 p) B:=λf l S0 e F S i=>by
 obtain⟨n,o,g⟩:=Ap l;split at g
 ·rename_i s
  cases g;obtain⟨d,j,E,G,rfl⟩:=h n o S0 e F S i;refine⟨.ex (GH C n) e,j,?_,e,rfl,i.kp.trans G⟩;unfold Kz Am;rw[E];show(if Nq n then Res.ok (Fl.ex (GH C n) e) j else .bad)=_;rw[qX s]
 ·cases g
noncomputable def io(o:Option β)(n:γ)(s:β->γ):γ:=match o with
 | none=>n
 | some l=>s l
noncomputable def dA(o:α ⊕ β)(n:α->γ)(s:β->γ):γ:=match o with
 | .inl k=>n k
 | .inr l=>s l
theorem WK{B:σ->List Sl}{R:Rk ρ}{L:β->Ob}{t:MT}{H:MS}{p:Option (Option β)}{i:Nat}{qt:β->Option Bool}{q:β->Option (Fw (Int ⊕ ρ) σ)}{pn:Option Int}(hk:A[i]?=some .u)(h:VE A m (rOL L) p)(ht:∀l,VB (A.set i (.y (L l))) t (qt l))
  (hn:VE A me (rV D.int) pn) (rY:∀d,VE (A.set i d) me (rV D.int) pn) (hr:∀l,VX C (A.set i (.y (L l))) H R (q l) B) :
  VX C A (BP (B5 i m) (BP (sIf (mOr (mB (m2 (Ql false) (AQ i) (mC .non))) t) (Kz C (Am me Bk)) sNx) H)) R (p.bind λo=>io o (C1 pn) λl=>(qt l).bind λb=>if b=true then C1 pn else q l) B:=λf hf S0 e F S I=>by
 obtain⟨o,h1,j⟩:=Ap hf;obtain⟨xk,ek,_⟩:=I.sl i _ hk;have vj:=(AI.mp ek).1
 cases o with
 | none=>
  obtain⟨d,S',T,U,rfl⟩:=h _ h1 S0 e F S I;have g:=I.grow U;have P:B5 i m e S=.ok (.nx (e.set i (some .non))) S':=JI T
  have X:(e.set i (some D.non))[i]?=some (some .non):=by rw[A4 vj]
  have Q:mB (m2 (Ql false) (AQ i) (mC .non)) (e.set i (some .non)) S'=.ok true S':=UT (D6 (Lh X) rfl rfl);have J:=g.set (a:=.v .non) (x:=some .non) i rfl;obtain⟨Y,N,O,G⟩:=TL (C:=C) (R:=R) (B:=B) (rY (.v .non)) f j S0 _ _ S' J
  cases f with
  | rt r=>
   cases r with
   | inl n=>
    obtain⟨Z,rfl,G⟩:=G;exact⟨_,N,(DX P).trans (VV ((Px (Z9 Q)).trans ((qX rfl).trans O))),Z,rfl,G⟩
   | inr r=>unfold C1 at j;obtain⟨_,_,j⟩:=Ap j;split at j <;> cases j
  | nx s=>unfold C1 at j;obtain⟨_,_,j⟩:=Ap j;split at j <;> cases j
  | bk s=>unfold C1 at j;obtain⟨_,_,j⟩:=Ap j;split at j <;> cases j
  | ct s=>unfold C1 at j;obtain⟨_,_,j⟩:=Ap j;split at j <;> cases j
 | some l=>
  obtain⟨b,h4,E⟩:=Ap j;obtain⟨d,S',T,U,n,rfl,oE,hb⟩:=h _ h1 S0 e F S I;have g:=I.grow U;have P:B5 i m e S=.ok (.nx (e.set i (some (.ref n)))) S':=JI T
  have X:(e.set i (some (D.ref n)))[i]?=some (some (.ref n)):=by rw[A4 vj]
  have Q:mB (m2 (Ql false) (AQ i) (mC .non)) (e.set i (some (.ref n))) S'=.ok false S':=UT (D6 (Lh X) rfl rfl);have J:=g.set (a:=.y (L l)) (x:=some (.ref n)) i ⟨n,rfl,Kk oE hb,Ae I.kp.1 oE⟩;obtain⟨S2,c2,k2⟩:=ht l b h4 S0 _ _ S' J
  cases b with
  | true=>
   rw[qX rfl]at E;obtain⟨Y,N,O,G⟩:=TL (C:=C) (R:=R) (B:=B) (rY (.y (L l))) f E S0 _ _ S2 (J.grow k2)
   cases f with
   | rt r=>
    cases r with
    | inl n=>
     obtain⟨Z,rfl,G⟩:=G;exact⟨_,N,(DX P).trans (VV ((Px ((SJ Q).trans c2)).trans ((qX rfl).trans O))),Z,rfl,G⟩
    | inr r=>unfold C1 at E;obtain⟨_,_,j⟩:=Ap E;split at j <;> cases j
   | nx s=>unfold C1 at E;obtain⟨_,_,j⟩:=Ap E;split at j <;> cases j
   | bk s=>unfold C1 at E;obtain⟨_,_,j⟩:=Ap E;split at j <;> cases j
   | ct s=>unfold C1 at E;obtain⟨_,_,j⟩:=Ap E;split at j <;> cases j
  | false=>
   rw[qY Ac]at E;obtain⟨Y,N,O,G⟩:=hr l f E S0 _ _ S2 (J.grow k2);exact⟨Y,N,(DX P).trans ((DX (e1:=e.set i (some (.ref n))) ((Px ((SJ Q).trans c2)).trans ((qY Ac).trans rfl))).trans O),G.up ((I.fle S').trans (J.fle S2))⟩
noncomputable def outX(p:Option (Fw (Int ⊕ ρ) σ)):Option (Int ⊕ ρ):=match p with
 | some (.rt r)=>some r
 | _=>none
noncomputable def VFX(C:AJ)(f:List D->Sto->Res D)(as:List Ar)(R:Rk ρ)(p:Option (Int ⊕ ρ)):Prop:=∀v,p=some v->∀S g,Ks S as g->match v with
 | .inl n=>∃S',f g S=.err (GH C n) S'/\Keeps S S'
 | .inr r=>∃d S',f g S=.ok d S'/\Keeps S S'/\R r S d S'
theorem gm{n:Nat}{b:MS}{as:List Ar}{R:Rk ρ}{p:Option (Fw (Int ⊕ ρ) σ)}{B:σ->List Sl}(h:VX C (as.map Ar.sl++A7 (n - as.length) .u) b R p B):VFX C (FT n b) as R (outX p):=λv j S G o=>by
 cases p with
 | none=>cases j
 | some x=>
  obtain⟨g,S',l,i⟩:=h _ rfl S _ _ S (Vs.start o)
  cases x with
  | rt r=>
   cases j
   cases v with
   | inl n=>obtain⟨H,rfl,i⟩:=i;exact⟨S',L2.iK l,i⟩
   | inr r=>obtain⟨d,rfl,i,E⟩:=i;exact⟨d,S',L2.SH l,E,i⟩
  | nx s=>cases j
  | bk s=>cases j
  | ct s=>cases j
end
end L4
namespace M
open PySem L2 L4
noncomputable def FE(g:ZLi)(i:Int):Option (Fw Int Unit):=
 A2 (((some i).bind λj=>((some g).bind λl=>some (l.length:Int)).bind λm=>some (decide (j < m))).bind λo=>if o=true then((some g).bind λs=>(some i).bind λA=>atI s A).bind λB=>some (.rt B)else some (.nx ())) λ_=>(some (0:Int)).bind λC=>some (.rt C)
noncomputable def C2(g:ZLi)(i:Int):Option Int:=FI (FE g i)
theorem FA(W:Wd)(g:ZLi)(i:Int):VF (Dc W) [.v (eF g),.v (D.int i)] (rV D.int) (C2 g i):=by
 refine IY (n:=2) (b:=HS W) (p:=FE g i) (B:=λ_=>[]) ?_;show VS [.v (eF g),.v (D.int i)] _ _ _ _;unfold HS FE;exact(BD (FY (B:=(λ(_:Unit)=>[.v (eF g),.v (D.int i)])) (Dl (fV (Ab rfl) (cu (Ab rfl)))) (Dy (gw (Ab rfl) (Ab rfl))) (FX (.refl _))) (λ_=>(Dy (BB rfl))))
noncomputable def F6(j:ZLi):Option (Fw Int Unit):=
 A2 ((((some j).bind λl=>((some (0:Int)).bind λm=>(some ()).bind λo=>some (m,o)).bind λs=>some (l,s)).bind λi=>C2 i.1 i.2.1).bind λA=>some (.nx A)) λg=>((some (1:Int)).bind λB=>((((((some g).bind λC=>some (C / 4)).bind λE=>some (E % 7)).bind λG=>((((some g).bind λH=>some (H / 4)).bind λI=>some (I % 9)).bind λJ=>((((some g).bind λL=>some (L / 4)).bind λN=>some (N % 20)).bind λO=>((((some g).bind λP=>some (P / 4)).bind λQ=>some (Q % 60)).bind λR=>(some []).bind λS=>some (R :: S)).bind λT=>some (O :: T)).bind λU=>some (J :: U)).bind λX=>some (G :: X)).bind JZ).bind λY=>((some g).bind λZ=>some (Z % 4)).bind λpU=>atI Y pU).bind λoS=>some (B+oS)).bind λqJ=>some (.rt qJ)
noncomputable def F8(g:ZLi):Option Int:=FI (F6 g)
theorem QV(W:Wd)(g:ZLi):VF (IJ W) [.v (eF g)] (rV D.int) (F8 g):=by
 refine IY (n:=2) (b:=IM W) (p:=F6 g) (B:=λ_=>[]) ?_;show VS [.v (eF g),.u] _ _ _ _;unfold IM F6;exact(BD (DC (Ci (E9 (Ab rfl) (E9 (BB rfl) DP)) (λi=>FA W i.1 i.2.1) (λ_=>rfl) HJ)) (λj=>(Dy (Hz (BB rfl) (DD (EI (Gh (GF (E7 (Er rfl (EJ rfl (Ab rfl))) (E7 (Er rfl (EJ rfl (Ab rfl))) (E7 (Er rfl (EJ rfl (Ab rfl))) (E7 (Er rfl (EJ rfl (Ab rfl))) JC))))))) (Er rfl (Ab rfl)))))))
noncomputable def Gs(m:ZLi)(i:Int):Option (Fw (List ZPi) Unit):=
 A2 (((some []).bind JZ).bind λo=>some (.nx o)) λs=>A2 (((some m).bind λA=>((some (1:Int)).bind λB=>some (some B)).bind λC=>((some (63:Int)).bind λE=>some (some E)).bind λG=>some (DQ A C G)).bind λH=>Gx H s λ(I:(List ZPi)) J=>Pm (λL=>L.2) (((some (2:Int)).bind Xu).bind λN=>Gx N (J,I) λ(g:Int×(List ZPi)) oO=>A2 (((some g.1).bind λO=>(some i).bind λP=>OM O P).bind λQ=>some (.nx Q)) λj=>A2 ((((some g.1).bind λR=>(some i).bind λS=>RP R S).bind λT=>(some i).bind λU=>OM T U).bind λX=>some (.nx X)) λl=>A2 ((((some g.1).bind λY=>(some i).bind λZ=>RP Y Z).bind λpz=>(some i).bind λpU=>RP pz pU).bind λoG=>some (.nx oG)) λwx=>Pm (λzm=>(wx,zm)) ((((some j).bind λoS=>(some l).bind λqJ=>some (!decide (oS=qJ))).bind λpQ=>if pQ=true then(((some j).bind λql=>(some l).bind λpI=>some (ql,pI)).bind λsk=>(some g.2).bind λsr=>some (!inG sk sr)).bind λqo=>if qo=true then((some l).bind λsv=>(some j).bind λqp=>some (sv,qp)).bind λuv=>(some g.2).bind λsx=>some (!inG uv sx)else some false else some false).bind λsy=>if sy=true then Pm (λzo=>zo) (((some j).bind λsC=>(some l).bind λqK=>some (sC,qK)).bind λqq=>(UO g.2 qq).bind λϗ=>some (.nx ϗ))else some (.nx g.2)))) λzp=>some (.rt zp)
noncomputable def Gv(g:ZLi)(i:Int):Option (List ZPi):=FI (Gs g i)
theorem R0(W:Wd)(g:ZLi)(i:Int):VF (Ja W) [.v (eF g),.v (D.int i)] (rN (oL (eP D.int D.int))) (Gv g i):=by
 refine IY (n:=7) (b:=Ji W) (p:=Gs g i) (B:=λ_=>[]) ?_;show VS [.v (eF g),.v (D.int i),.u,.u,.u,.u,.u] _ _ _ _;unfold Ji Gs;exact(BD (Kv (Gh (GF JC))) (λl=>(BD (NF (s0:=l) (B:=(λ(m:(List ZPi))=>[.v (eF g),.v (D.int i),.w 2 ((oL (eP D.int D.int)) m),.u,.u,.u,.u])) (Rw (cy (Ab rfl) (DH (BB rfl)) (DH (BB rfl)))) MP (.refl _) (λo s=>(JB (NF (s0:=(s,o)) (B:=(λ(j:Int×(List ZPi))=>[.v (eF g),.v (D.int i),.w 2 ((oL (eP D.int D.int)) j.2),.v (D.int j.1),.u,.u,.u])) (Qz (BB rfl)) MP (.refl _) (λI A=>(BD (DC (PD (Ab rfl) (Ab rfl))) (λC=>(BD (DC (PD (Ry (Ab rfl) (Ab rfl)) (Ab rfl))) (λE=>(BD (DC (Ry (Ry (Ab rfl) (Ab rfl)) (Ab rfl))) (λG=>(JB (FY (B:=(λ(H:(List ZPi))=>[.v (eF g),.v (D.int i),.w 2 ((oL (eP D.int D.int)) H),.v (D.int G),.v (D.int A),.v (D.int C),.v (D.int E)])) (PF (Dl (PB CZ FL (Ab rfl) (Ab rfl))) (PF (Dl (WQ (P6 CZ CZ) (JD (Ab rfl) (Ab rfl)) (Gr rfl))) (Dl (WQ (P6 CZ CZ) (JD (Ab rfl) (Ab rfl)) (Gr rfl))))) (JB (O5 rfl (JD (Ab rfl) (Ab rfl)) rfl) (λJ=>(.refl _))) (FX (.refl _))) (λL=>(.same (.same (.same (.same (.drop (.drop (.drop .nil))))))))))))))))) (λN=>(.same (.same (.same (.drop (.same (.same (.same .nil))))))))))) (λO=>(WM rfl)))))
noncomputable def Hk(m:Int)(o:(List ZPi)):Option (Fw (List Str) Unit):=
 A2 (((((some ("places " : Str)).bind λs=>((some m).bind HB).bind λA=>C9 s A).bind λB=>(some []).bind λC=>some (B :: C)).bind JZ).bind λE=>some (.nx E)) λG=>A2 ((((some o).bind λH=>Hr H (λg=>some true) (λg=>(((some g).bind λi=>some [i.1,i.2]).bind aL).bind λI=>(((some g).bind λj=>some [j.1,j.2]).bind aQ).bind λJ=>some (I,J))).bind λL=>some (No L)).bind λN=>Gx N G λ(O:(List Str)) l=>Pm (λP=>P) (((((some ("tie " : Str)).bind λQ=>((some l.1).bind HB).bind λR=>C9 Q R).bind λS=>(some (" " : Str)).bind λT=>C9 S T).bind λU=>((some l.2).bind HB).bind λX=>C9 U X).bind λY=>(UO O Y).bind λZ=>some (.nx Z))) λsD=>some (.rt sD)
noncomputable def Hl(g:Int)(i:(List ZPi)):Option (List Str):=FI (Hk g i)
theorem TR(W:Wd)(g:Int)(i:(List ZPi)):VF (Ki W) [.v (D.int g),.z ((oL (eP D.int D.int)) i)] (rN (oL D.str)) (Hl g i):=by
 refine IY (n:=5) (b:=Kr W) (p:=Hk g i) (B:=λ_=>[]) ?_;show VS [.v (D.int g),.z ((oL (eP D.int D.int)) i),.u,.u,.u] _ _ _ _;unfold Kr Hk;exact(BD (Kv (Gh (GF (E7 (E8 (BB rfl) (MR (Ab rfl))) JC)))) (λj=>(BD (NF (s0:=j) (B:=(λ(l:(List Str))=>[.v (D.int g),.z ((oL (eP D.int D.int)) i),.w 2 ((oL D.str) l),.u,.u])) (Rw (ZE (EI (Gh (MQ (VI.k (gl rfl)) (λm=>OY) (λm=>(JD (cq (WN (Ab rfl))) (cr (WN (Ab rfl)))))))))) WL (.refl _) (λo s=>(JB (O5 rfl (E8 (E8 (E8 (BB rfl) (MR (Ab rfl))) (BB rfl)) (MR (Ab rfl))) rfl) (λA=>(.same (.same (.same (.drop (.drop .nil))))))))) (λC=>(WM rfl)))))
noncomputable def Lp(j:Int):Option (Fw Str Unit):=
 A2 ((some ("|tie|tie 1|tie 0 1 2|tie  0 1| tie 0 1|tie 0 1 |Tie 0 1|tie 00 1|tie 0 01" : Str)).bind λl=>some (.nx l)) λm=>A2 (((some m).bind λo=>(some ("|tie 0 1_0|tie +0 1|tie 0 -1|tie a b|tie 0,1|tie 0 1.|places 3|places" : Str)).bind λs=>C9 o s).bind λA=>some (.nx A)) λB=>A2 (((some B).bind λC=>(some ("|edge 0 1|tie 0 100|tie 100 101|0 1|tie tie 0 1|tie0 1|places 0|places 61" : Str)).bind λE=>C9 C E).bind λG=>some (.nx G)) λH=>A2 (((some H).bind λI=>(some ("|places 07|places +3|places 3 3|places  3| places 3|places 3 |Places 3" : Str)).bind λJ=>C9 I J).bind λL=>some (.nx L)) λg=>A2 (((some g).bind λN=>(some ("|places x|places -3|places 3_0|places 100|places 3.0| |ties 0 1|tie 0 1 #" : Str)).bind λO=>C9 N O).bind λP=>some (.nx P)) λQ=>A2 (((some Q).bind λR=>(some ("|" : Str)).bind λS=>EK R S).bind λT=>some (.nx T)) λi=>((some i).bind λU=>((some j).bind λX=>((some i).bind λY=>some (Y.length:Int)).bind λZ=>OM X Z).bind λoG=>atI U oG).bind λoS=>some (.rt oS)
noncomputable def JN(g:Int):Option Str:=FI (Lp g)
theorem PK(W:Wd)(g:Int):VF (Jb W) [.v (D.int g)] (rV D.str) (JN g):=by
 refine IY (n:=3) (b:=Lx W) (p:=Lp g) (B:=λ_=>[]) ?_;show VS [.v (D.int g),.u,.u] _ _ _ _;unfold Lx Lp;exact(BD (DC (BB rfl)) (λj=>(BD (DC (E8 (Ab rfl) (BB rfl))) (λl=>(BD (DC (E8 (Ab rfl) (BB rfl))) (λm=>(BD (DC (E8 (Ab rfl) (BB rfl))) (λi=>(BD (DC (E8 (Ab rfl) (BB rfl))) (λo=>(BD (JA (Ff (Ab rfl) (BB rfl))) (λs=>(Dy (DD (B0 rfl) (PD (Ab rfl) (Hf (B0 rfl)))))))))))))))))
noncomputable def FD(g:(List Str))(A6:Int)(i:Int):Option (Fw (List Str) Unit):=
 A2 (((some (1:Int)).bind λo=>(((some i).bind λs=>some (s / 12)).bind λA=>((some g).bind λB=>some (B.length:Int)).bind λC=>OM A C).bind λE=>some (o+E)).bind λG=>some (.nx G)) λj=>A2 (((some i).bind λH=>some (H % 6)).bind λI=>some (.nx I)) λl=>A2 ((((some i).bind λJ=>some (J / 5000)).bind λL=>some (L % 70)).bind λN=>some (.nx N)) λO=>A2 ((((some i).bind λP=>some (P / 350000)).bind λQ=>some (Q % 70)).bind λR=>some (.nx R)) λS=>A2 (((some l).bind λT=>(some (0:Int)).bind λU=>some (decide (T=U))).bind λX=>if X=true then((((some g).bind λY=>(some none).bind λZ=>((some j).bind λog=>some (some og)).bind λpz=>some (DQ Y Z pz)).bind λql=>((((((some i).bind λpU=>some (pU / 997)).bind λoG=>(some ()).bind λoS=>some (oG,oS)).bind λwB=>JN wB.1).bind λsk=>(some []).bind λwC=>some (sk :: wC)).bind JZ).bind λpI=>Lw ql pI).bind λqo=>((some g).bind λϛ=>((some j).bind λuv=>some (some uv)).bind λsv=>(some none).bind λqp=>some (DQ ϛ sv qp)).bind λpQ=>Lw qo pQ).bind λqr=>some (.rt qr)else some (.nx ())) λ_=>A2 (((some l).bind λqK=>(some (1:Int)).bind λsy=>some (decide (qK=sy))).bind λqu=>if qu=true then(((((((some i).bind λqz=>some (qz / 997)).bind λwD=>(some ()).bind λwF=>some (wD,wF)).bind λwG=>JN wG.1).bind λϜ=>(some []).bind λwu=>some (Ϝ :: wu)).bind JZ).bind λqL=>((some g).bind λϝ=>((some (1:Int)).bind λuw=>some (some uw)).bind λux=>(some none).bind λsE=>some (DQ ϝ ux sE)).bind λrk=>Lw qL rk).bind λwH=>some (.rt wH)else some (.nx ())) λ_=>A2 ((((some l).bind λsG=>(some (2:Int)).bind λwI=>some (decide (sG=wI))).bind λsH=>if sH=true then some true else(some l).bind λx64=>(some (3:Int)).bind λsJ=>some (decide (x64=sJ))).bind λwJ=>if wJ=true then((((some g).bind λwK=>(some none).bind λuy=>((some j).bind λwL=>some (some wL)).bind λuz=>some (DQ wK uy uz)).bind λsL=>((((((some ("tie " : Str)).bind λqM=>((some O).bind HB).bind λsM=>C9 qM sM).bind λuA=>(some (" " : Str)).bind λsN=>C9 uA sN).bind λqN=>((some S).bind HB).bind λsO=>C9 qN sO).bind λsP=>(some []).bind λwM=>some (sP :: wM)).bind JZ).bind λsQ=>Lw sL sQ).bind λuB=>((some g).bind λwN=>((some j).bind λsS=>some (some sS)).bind λuC=>(some none).bind λuD=>some (DQ wN uC uD)).bind λuE=>Lw uB uE).bind λuF=>some (.rt uF)else some (.nx ())) λ_=>A2 ((((some l).bind λwO=>(some (4:Int)).bind λvn=>some (decide (wO=vn))).bind λwQ=>if wQ=true then((some g).bind λwR=>some (wR.length:Int)).bind λvq=>(some (1:Int)).bind λwU=>some (decide (wU < vq))else some false).bind λwV=>if wV=true then A2 (((some (1:Int)).bind λsT=>(((some i).bind λwW=>some (wW / 12)).bind λwZ=>(((some g).bind λxa=>some (xa.length:Int)).bind λsU=>(some (1:Int)).bind λxb=>some (sU - xb)).bind λxf=>OM wZ xf).bind λxg=>some (sT+xg)).bind λxh=>some (.nx xh)) λm=>((((some g).bind λxj=>(some none).bind λxl=>((some m).bind λxm=>some (some xm)).bind λxn=>some (DQ xj xl xn)).bind λxp=>((some g).bind λxq=>((some m).bind λxt=>some (some xt)).bind λxu=>(((some m).bind λxw=>(some (1:Int)).bind λxx=>some (xw+xx)).bind λxy=>some (some xy)).bind λxA=>some (DQ xq xu xA)).bind λxB=>Lw xp xB).bind λxC=>((some g).bind λxD=>((some m).bind λxE=>some (some xE)).bind λxF=>(some none).bind λxG=>some (DQ xD xF xG)).bind λxH=>Lw xC xH).bind λxI=>some (.rt xI)else some (.nx ())) λ_=>(((some g).bind λxJ=>(some none).bind λxK=>((some j).bind λxM=>some (some xM)).bind λxN=>some (DQ xJ xK xN)).bind λxO=>((some g).bind λxP=>(((some j).bind λxQ=>(some (1:Int)).bind λxR=>some (xQ+xR)).bind λxS=>some (some xS)).bind λxT=>(some none).bind λxU=>some (DQ xP xT xU)).bind λxV=>Lw xO xV).bind λxW=>some (.rt xW)
noncomputable def FF(g:(List Str))(i:Int)(j:Int):Option (List Str):=FI (FD g i j)
theorem PL(W:Wd)(g:(List Str))(i:Int)(j:Int):VF (HP W) [.z ((oL D.str) g),.v (D.int i),.v (D.int j)] (rN (oL D.str)) (FF g i j):=by
 refine IY (n:=7) (b:=HR W) (p:=FD g i j) (B:=λ_=>[]) ?_;show VS [.z ((oL D.str) g),.v (D.int i),.v (D.int j),.u,.u,.u,.u] _ _ _ _;unfold HR FD;exact(BD (DC (Hz (BB rfl) (PD (EJ rfl (Ab rfl)) (Hf (Ch rfl))))) (λl=>(BD (DC (Er rfl (Ab rfl))) (λm=>(BD (DC (Er rfl (EJ rfl (Ab rfl)))) (λo=>(BD (DC (Er rfl (EJ rfl (Ab rfl)))) (λs=>(BD (FY (B:=(λ(_:Unit)=>[.z ((oL D.str) g),.v (D.int i),.v (D.int j),.v (D.int l),.v (D.int m),.v (D.int o),.v (D.int s)])) (Dl (Hg CZ FL (Ab rfl) (BB rfl))) (Kw (Hh (EI (Hh (EI (D2 (Ch rfl) ES (DH (Ab rfl)))) (EI (Gh (GF (E7 (Ci (E9 (EJ rfl (Ab rfl)) DP) (λA=>PK W A.1) (λ_=>rfl) HJ) JC)))))) (EI (D2 (Ch rfl) (DH (Ab rfl)) ES)))) (FX (.refl _))) (λ_=>(BD (FY (B:=(λ(_:Unit)=>[.z ((oL D.str) g),.v (D.int i),.v (D.int j),.v (D.int l),.v (D.int m),.v (D.int o),.v (D.int s)])) (Dl (Hg CZ FL (Ab rfl) (BB rfl))) (Kw (Hh (EI (Gh (GF (E7 (Ci (E9 (EJ rfl (Ab rfl)) DP) (λC=>PK W C.1) (λ_=>rfl) HJ) JC)))) (EI (D2 (Ch rfl) (DH (BB rfl)) ES)))) (FX (.refl _))) (λ_=>(BD (FY (B:=(λ(_:Unit)=>[.z ((oL D.str) g),.v (D.int i),.v (D.int j),.v (D.int l),.v (D.int m),.v (D.int o),.v (D.int s)])) (Hi (Dl (Hg CZ FL (Ab rfl) (BB rfl))) (Dl (Hg CZ FL (Ab rfl) (BB rfl)))) (Kw (Hh (EI (Hh (EI (D2 (Ch rfl) ES (DH (Ab rfl)))) (EI (Gh (GF (E7 (E8 (E8 (E8 (BB rfl) (MR (Ab rfl))) (BB rfl)) (MR (Ab rfl))) JC)))))) (EI (D2 (Ch rfl) (DH (Ab rfl)) ES)))) (FX (.refl _))) (λ_=>(BD (FY (B:=(λ(_:Unit)=>[.z ((oL D.str) g),.v (D.int i),.v (D.int j),.v (D.int l),.v (D.int m),.v (D.int o),.v (D.int s)])) (PF (Dl (Hg CZ FL (Ab rfl) (BB rfl))) (Dl (WR (Hf (Ch rfl)) (BB rfl)))) (BD (DC (Hz (BB rfl) (PD (EJ rfl (Ab rfl)) (gs (Hf (Ch rfl)) (BB rfl))))) (λE=>(Kw (Hh (EI (Hh (EI (D2 (Ch rfl) ES (DH (Ab rfl)))) (EI (D2 (Ch rfl) (DH (Ab rfl)) (DH (Hz (Ab rfl) (BB rfl))))))) (EI (D2 (Ch rfl) (DH (Ab rfl)) ES)))))) (FX (.refl _))) (λ_=>(Kw (Hh (EI (D2 (Ch rfl) ES (DH (Ab rfl)))) (EI (D2 (Ch rfl) (DH (Hz (Ab rfl) (BB rfl))) ES))))))))))))))))))))
noncomputable def F7(g:Str):Option (Fw Int Unit):=
 A2 ((((some g).bind λj=>(some ("" : Str)).bind λl=>some (decide (j=l))).bind λm=>if m=true then some true else(((some g).bind Ps).bind λo=>(some (2:Int)).bind λs=>some (decide (s < o))).bind λA=>if A=true then some true else(((some g).bind λB=>(some (0:Int)).bind λC=>X9 B C).bind λE=>(some ("0" : Str)).bind λG=>some (decide (E=G))).bind λH=>if H=true then((some g).bind Ps).bind λI=>(some (1:Int)).bind λJ=>some (decide (J < I))else some false).bind λL=>if L=true then((some (1:Int)).bind λN=>some (-N)).bind λO=>some (.rt O)else some (.nx ())) λ_=>A2 ((((((some g).bind Lj).bind λP=>Hr P (λi=>some true) (λi=>(some i).bind λQ=>(some ("0123456789" : Str)).bind λR=>some (Dw R Q))).bind λS=>some (S.all id)).bind λT=>some (!T)).bind λU=>if U=true then((some (1:Int)).bind λX=>some (-X)).bind λY=>some (.rt Y)else some (.nx ())) λ_=>((some g).bind Hq).bind λZ=>some (.rt Z)
noncomputable def Cv(g:Str):Option Int:=FI (F7 g)
theorem F4(W:Wd)(g:Str):VF (Dt W) [.v (D.str g)] (rV D.int) (Cv g):=by
 refine IY (n:=1) (b:=IN W) (p:=F7 g) (B:=λ_=>[]) ?_;show VS [.v (D.str g)] _ _ _ _;unfold IN F7;exact(BD (FY (B:=(λ(_:Unit)=>[.v (D.str g)])) (Hi (Dl (Hg K9 NT (Ab rfl) (BB rfl))) (Hi (Dl (WR (OX (Ab rfl)) (BB rfl))) (PF (Dl (Hg K9 NT (ZJ (Ab rfl) (BB rfl)) (BB rfl))) (Dl (WR (OX (Ab rfl)) (BB rfl)))))) (Dy (Lg (BB rfl))) (FX (.refl _))) (λ_=>(BD (FY (B:=(λ(_:Unit)=>[.v (D.str g)])) (JE (Dl (ZN (WO (EI (Gh (MQ (VI.k (ZC (Ab rfl))) (λi=>OY) (λi=>(ZL (Ab rfl) (BB rfl)))))))))) (Dy (Lg (BB rfl))) (FX (.refl _))) (λ_=>(Dy (MU (Ab rfl)))))))
noncomputable def EU(l:(List Str)):Option (Fw Int Unit):=
 A2 ((((some l).bind λB=>(some (0:Int)).bind λC=>atI B C).bind λE=>(some (" " : Str)).bind λG=>EK E G).bind λH=>some (.nx H)) λi=>A2 (((((some i).bind λI=>some (I.length:Int)).bind λJ=>(some (2:Int)).bind λL=>some (!decide (J=L))).bind λN=>if N=true then some true else(((some i).bind λO=>(some (0:Int)).bind λP=>atI O P).bind λQ=>(some ("places" : Str)).bind λR=>some (!decide (Q=R))).bind λS=>if S=true then some true else((some (1:Int)).bind λT=>((((some i).bind λU=>(some (1:Int)).bind λX=>atI U X).bind λY=>(some ()).bind λZ=>some (Y,Z)).bind λxY=>Cv xY.1).bind λo=>if decide (T<=o)=true then(some (60:Int)).bind λoh=>some (decide (o<=oh))else some false).bind λog=>some (!og)).bind λpU=>if pU=true then(some (1:Int)).bind λpz=>some (.rt pz)else some (.nx ())) λ_=>A2 (((((some i).bind λxZ=>(some (1:Int)).bind λsr=>atI xZ sr).bind λql=>(some ()).bind λpI=>some (ql,pI)).bind λy0=>Cv y0.1).bind λsx=>some (.nx sx)) λuH=>A2 ((((some (1:Int)).bind λqp=>some (-qp)).bind λpQ=>((some (1:Int)).bind λqo=>some (-qo)).bind λqr=>some (pQ,qr)).bind λqq=>some (.nx qq)) λy3=>A2 (((some (1:Int)).bind λsC=>((some l).bind λuI=>some (uI.length:Int)).bind λqK=>dL sC qK).bind λy7=>Gx y7 (i,y3) λ(vt:(List Str)×ZPi) m=>A2 ((((some l).bind λqy=>(some m).bind λuJ=>atI qy uJ).bind λy8=>(some (" " : Str)).bind λy9=>EK y8 y9).bind λuw=>some (.nx uw)) λj=>A2 (((((some j).bind λsE=>some (sE.length:Int)).bind λuK=>(some (3:Int)).bind λux=>some (!decide (uK=ux))).bind λsV=>if sV=true then some true else((some j).bind λϞ=>(some (0:Int)).bind λqu=>atI Ϟ qu).bind λqL=>(some ("tie" : Str)).bind λrk=>some (!decide (qL=rk))).bind λsJ=>if sJ=true then((some m).bind λsG=>(some (1:Int)).bind λwI=>some (sG+wI)).bind λx64=>some (.rt x64)else some (.nx ())) λ_=>A2 ((((((some j).bind λya=>(some (1:Int)).bind λuz=>atI ya uz).bind λqM=>(some ()).bind λsM=>some (qM,sM)).bind λyb=>Cv yb.1).bind λsL=>((((some j).bind λϟ=>(some (2:Int)).bind λqN=>atI ϟ qN).bind λsO=>(some ()).bind λsP=>some (sO,sP)).bind λyc=>Cv yc.1).bind λsQ=>some (sL,sQ)).bind λsS=>some (.nx sS)) λg=>A2 (((((some g).bind λuD=>some uD.1).bind λϠ=>(some (0:Int)).bind λuC=>some (decide (Ϡ < uC))).bind λwQ=>if wQ=true then some true else(((some g).bind λuF=>some uF.1).bind λuB=>((some g).bind λwJ=>some wJ.2).bind λuE=>some (decide (uE<=uB))).bind λwR=>if wR=true then some true else(((some g).bind λwO=>some wO.2).bind λϡ=>(some uH).bind λϢ=>some (decide (Ϣ<=ϡ))).bind λwU=>if wU=true then some true else(some g).bind λs=>(some vt.2).bind λA=>some (!Srt.ltL [A.1,A.2] [s.1,s.2])).bind λsU=>if sU=true then((some m).bind λwW=>(some (1:Int)).bind λxa=>some (wW+xa)).bind λyd=>some (.rt yd)else some (.nx ())) λ_=>Pm (λuL=>(j,uL)) ((some g).bind λsT=>some (.nx sT))) λye=>(some (0:Int)).bind λyf=>some (.rt yf)
noncomputable def DY(g:(List Str)):Option Int:=FI (EU g)
theorem NH(W:Wd)(g:(List Str)):VF (Fs W) [.z ((oL D.str) g)] (rV D.int) (DY g):=by
 refine IY (n:=6) (b:=Fu W) (p:=EU g) (B:=λ_=>[]) ?_;show VS [.z ((oL D.str) g),.u,.u,.u,.u,.u] _ _ _ _;unfold Fu EU;exact(BD (JA (Ff (DD (Ch rfl) (BB rfl)) (BB rfl))) (λj=>(BD (FY (B:=(λ(_:Unit)=>[.z ((oL D.str) g),.y ((oL D.str) j),.u,.u,.u,.u])) (Hi (Dl (PB CZ FL (Hf (B0 rfl)) (BB rfl))) (Hi (Dl (PB K9 NT (DD (B0 rfl) (BB rfl)) (BB rfl))) (JE (Dl (MV RS RS (BB rfl) (Ci (E9 (DD (B0 rfl) (BB rfl)) DP) (λA=>F4 W A.1) (λ_=>rfl) HJ) (BB rfl)))))) (Dy (BB rfl)) (FX (.refl _))) (λ_=>(BD (DC (Ci (E9 (DD (B0 rfl) (BB rfl)) DP) (λC=>F4 W C.1) (λ_=>rfl) HJ)) (λi=>(BD (DC (JD (Lg (BB rfl)) (Lg (BB rfl)))) (λE=>(BD (NF (s0:=(j,E)) (B:=(λ(l:(List Str)×ZPi)=>[.z ((oL D.str) g),.y ((oL D.str) l.1),.v (D.int i),.v ((eP D.int D.int) l.2),.u,.u])) (Xc (BB rfl) (Hf (Ch rfl))) MP (.refl _) (λm o=>(BD (JA (Ff (DD (Ch rfl) (Ab rfl)) (BB rfl))) (λs=>(BD (FY (B:=(λ(_:Unit)=>[.z ((oL D.str) g),.y ((oL D.str) s),.v (D.int i),.v ((eP D.int D.int) m.2),.v (D.int o),.u])) (Hi (Dl (PB CZ FL (Hf (B0 rfl)) (BB rfl))) (Dl (PB K9 NT (DD (B0 rfl) (BB rfl)) (BB rfl)))) (Dy (Hz (Ab rfl) (BB rfl))) (FX (.refl _))) (λ_=>(BD (DC (JD (Ci (E9 (DD (B0 rfl) (BB rfl)) DP) (λG=>F4 W G.1) (λ_=>rfl) HJ) (Ci (E9 (DD (B0 rfl) (BB rfl)) DP) (λH=>F4 W H.1) (λ_=>rfl) HJ))) (λI=>(BD (FY (B:=(λ(_:Unit)=>[.z ((oL D.str) g),.y ((oL D.str) s),.v (D.int i),.v ((eP D.int D.int) m.2),.v (D.int o),.v ((eP D.int D.int) I)])) (Hi (Dl (fV (ZM (Ab rfl)) (BB rfl))) (Hi (Dl (fX (ZM (Ab rfl)) (ZF (Ab rfl)))) (Hi (Dl (fX (ZF (Ab rfl)) (Ab rfl))) (Dl (gv (Ab rfl) (Ab rfl)))))) (Dy (Hz (Ab rfl) (BB rfl))) (FX (.refl _))) (λ_=>(JB (DC (Ab rfl)) (λJ=>(.same (.same (.same (.same (.drop (.drop .nil)))))))))))))))))) (λL=>(Dy (BB rfl))))))))))))
noncomputable def Gu(g:(Nat×List ZPi))(i:(List Str)):Option (Fw Bool Unit):=
 A2 (((some []).bind JZ).bind λl=>some (.nx l)) λm=>A2 (((some i).bind λo=>((some (1:Int)).bind λs=>some (some s)).bind λA=>(some none).bind λB=>some (DQ o A B)).bind λC=>Gx C m λ(E:(List ZPi)) G=>A2 (((some G).bind λϣ=>(some (" " : Str)).bind λH=>EK ϣ H).bind λI=>some (.nx I)) λj=>Pm (λJ=>J) (((((some j).bind λϤ=>(some (1:Int)).bind λL=>atI Ϥ L).bind Hq).bind λN=>(((some j).bind λO=>(some (2:Int)).bind λP=>atI O P).bind Hq).bind λQ=>some (N,Q)).bind λR=>(UO E R).bind λS=>some (.nx S))) λT=>((((some g).bind λU=>some (U.1:Int)).bind λX=>(((((some i).bind λY=>(some (0:Int)).bind λZ=>atI Y Z).bind λϥ=>(some (" " : Str)).bind λpI=>EK ϥ pI).bind λyg=>(some (1:Int)).bind λsx=>atI yg sx).bind Hq).bind λoS=>some (decide (X=oS))).bind λqr=>if qr=true then((some g).bind λpQ=>some pQ.2).bind λqp=>(some T).bind λqo=>some (decide (qp=qo))else some false).bind λqq=>some (.rt qq)
noncomputable def FG(g:(Nat×List ZPi))(i:(List Str)):Option Bool:=FI (Gu g i)
theorem R1(W:Wd)(g:(Nat×List ZPi))(i:(List Str)):VF (Gz W) [.z ((Pj W) g),.z ((oL D.str) i)] (rV D.bl) (FG g i):=by
 refine IY (n:=5) (b:=Jj W) (p:=Gu g i) (B:=λ_=>[]) ?_;show VS [.z ((Pj W) g),.z ((oL D.str) i),.u,.u,.u] _ _ _ _;unfold Jj Gu;exact(BD (Kv (Gh (GF JC))) (λj=>(BD (NF (s0:=j) (B:=(λ(l:(List ZPi))=>[.z ((Pj W) g),.z ((oL D.str) i),.w 2 ((oL (eP D.int D.int)) l),.u,.u])) (Rw (D2 (Ch rfl) (DH (BB rfl)) ES)) MP (.refl _) (λm o=>(BD (JA (Ff (Ab rfl) (BB rfl))) (λs=>(JB (O5 rfl (JD (MU (DD (B0 rfl) (BB rfl))) (MU (DD (B0 rfl) (BB rfl)))) rfl) (λA=>(.same (.same (.same (.drop (.drop .nil))))))))))) (λC=>(Dy (MW (Hg CZ FL (Xd (Ch rfl)) (MU (DD (EI (Ff (DD (Ch rfl) (BB rfl)) (BB rfl))) (BB rfl)))) (Hg (ej (P6 CZ CZ)) jC (cm (Ch rfl)) (NG (Gr rfl)))))))))
noncomputable def JM(g:Int):Option (Fw Bool Unit):=
 (((some g).bind λm=>some true).bind λi=>if i=true then((some g).bind λo=>some false).bind λj=>some (!j)else some false).bind λl=>some (.rt l)
noncomputable def Mf(g:Int):Option Bool:=FI (JM g)
theorem Rz(W:Wd)(g:Int):VF (Gy W) [.v (D.int g)] (rV D.bl) (Mf g):=by
 refine IY (n:=1) (b:=Jh W) (p:=JM g) (B:=λ_=>[]) ?_;show VS [.v (D.int g)] _ _ _ _;unfold Jh JM;exact(Dy (MW (fW (T:="int") (Ab rfl) (λ_ _=>rfl) (by decide +kernel)) (WP (fW (T:="int") (Ab rfl) (λ_ _=>rfl) (by decide +kernel)))))
end M
namespace L4
open PySem L2
section
variable{S0 S:Sto}{A:List Sl}{e:Lo}{F:Fz}{β γ ρ σ:Type}{C c:AJ}{i:Nat}
theorem U3{R:Rk ρ}{b:MS}{B:σ->List Sl}:VS A b R none B:=λ_ g=>nomatch g
theorem ZK{g:String->Option Bool}{tabC:AJ->Option Bool}{r:Bool}(j:A[i]?=some (.v (.exc c)))(l:tabC (c % M64)=some r):VE A (L2.mIs g tabC (AQ i)) (rV D.bl) (some r):=λv m S0 e F S o=>by
 cases m;obtain⟨x,s,B⟩:=o.sl i _ j;cases B;refine⟨.bl r,S,?_,Keeps.refl S,rfl⟩;unfold L2.mIs;rw[Lh s];dsimp only[Res.bind];rw[l]
theorem cw{tabC:AJ->Option Bool}{r:Bool}(g:A[i]?=some (.v (.exc c)))(j:tabC (c % M64)=some r):VE A (aT tabC (AQ i)) (rV D.bl) (some r):=λv l S0 e F S m=>by
 cases l;obtain⟨x,o,s⟩:=m.sl i _ g;cases s;refine⟨.bl r,S,?_,Keeps.refl S,rfl⟩;unfold aT;rw[Lh o];dsimp only[Res.bind];rw[j]
theorem gt{k:Int}(g:A[i]?=some (.v (.exc c)))(j:M64<=c/\c % M64=C)(l:((c / M64 - 1:Nat):Int)=k):VE A (T4 C (AQ i)) (rV D.int) (some k):=λv m S0 e F S o=>by
 cases m;obtain⟨x,s,B⟩:=o.sl i _ g;cases B;refine⟨.int k,S,?_,Keeps.refl S,rfl⟩;unfold T4;rw[Lh s];dsimp only[Res.bind];rw[qX j,l]
theorem cg{R:Rk ρ}{B:σ->List Sl}{ml:ML}{f:List D->Sto->Res D}{p:Option γ}{H:γ->List Ar}{n w l:Nat}{E:List AJ}{j:MS}{I:β->Ob}{pf:γ->Option (Int ⊕ β)}{q1:Int->Option (Fw ρ σ)}{q2:β->Option (Fw ρ σ)}
  (ha:VA A ml p H) (hl:∀z,(H z).length=n) (hf:∀z,VFX C f (H z) (rN I) (pf z)) (hC:C < M64) (t7:C∈E) (hi:i < A.length) (hA:∀X,(((A.set i .u).set l X).set i .u)=A.set l X)
  (h1:∀k,VS (A.set l (.v (.exc (GH C k)))) j R (q1 k) B) (h2:∀z,VS (A.set w (.y (I z))) j R (q2 z) B) :
  VS A (BP (VW E i (B5 w (CM n f ml)) (B5 l (AQ i))) j) R ((p.bind pf).bind λo=>dA o q1 q2) B:=λg hg S0 e F S s=>by
 obtain⟨o,hp,hq⟩:=Ap hg;obtain⟨z,hz,zu⟩:=Ap hp;obtain⟨J,S1,c1,L,N⟩:=ha z hz S0 e F S s
 have m:J.length=n:=by rw[<-hl z];exact N.len
 cases o with
 | inl k=>
  obtain⟨S2,O,P⟩:=hf z _ zu S1 J N;have Q:CM n f ml e S=.err (GH C k) S2:=(Mt c1 m).trans O;have q:=PY (n:=k) hC
  have nH:i < e.length:=by
   obtain⟨x,h,_⟩:=s.sl i (A[i]) (by simp[hi]);exact(AI.mp h).1
  have T:VW E i (B5 w (CM n f ml)) (B5 l (AQ i)) e S=.ok (.nx (((e.set i (some (.exc (GH C k)))).set l (some (.exc (GH C k)))).set i none)) S2:=by
   unfold VW;rw[show B5 w (CM n f ml) e S=.ok (.ex (GH C k) e) S2 by unfold B5 iH;rw[Q];rfl];dsimp only[Res.bind];rw[q.1,qX t7,JI (d:=.exc (GH C k)) (Lh (by rw[A4 nH]))]
  have G:=(((s.grow (L.trans P)).set (a:=.u) (x:=some (.exc (GH C k))) i trivial).set (a:=.v (.exc (GH C k))) (x:=some (.exc (GH C k))) l rfl).set (a:=.u) (x:=none) i trivial;rw[hA]at G;obtain⟨U,Y,Z,g3⟩:=h1 k g hq S0 _ _ S2 G;exact⟨U,Y,(DX T).trans Z,g3.up (s.fle S2)⟩
 | inr z'=>
  obtain⟨d,S2,O,P,n',rfl,hn,hb⟩:=hf z _ zu S1 J N;have Q:CM n f ml e S=.ok (.ref n') S2:=(Mt c1 m).trans O
  have T:VW E i (B5 w (CM n f ml)) (B5 l (AQ i)) e S=.ok (.nx (e.set w (some (.ref n')))) S2:=by
   unfold VW;rw[JI Q];rfl
  have oK:S.length<=n':=Ae L.1 hn;have G:=(s.grow (L.trans P)).set (a:=.y (I z')) (x:=some (.ref n')) w ⟨n',rfl,Kk oK hb,Ae s.kp.1 oK⟩;obtain⟨U,Y,Z,g3⟩:=h2 z' g hq S0 _ _ S2 G;exact⟨U,Y,(DX T).trans Z,g3.up (s.fle S2)⟩
end
end L4
namespace M
open PySem L2 L4
noncomputable def Md(C:Str):Option (Fw (Int ⊕ (Nat×List ZPi)) Unit):=
 A2 (((some C).bind λE=>(some ("\n" : Str)).bind λG=>EK E G).bind λH=>some (.nx H)) λo=>((((some o).bind λI=>(some (0:Int)).bind λJ=>atI I J).bind λL=>((some ("places" : Str)).bind λN=>((some (1:Int)).bind λO=>(some ()).bind λP=>some (O,P)).bind λQ=>some (N,Q)).bind λR=>some (L,R)).bind λi=>CS i.1 i.2.1 i.2.2.1).bind λS=>io S (C1 (some (1:Int))) λj=>(((some (1:Int)).bind λT=>((some j).bind λU=>(some (0:Int)).bind λX=>atI U X).bind λs=>if decide (T<=s)=true then(some (60:Int)).bind λY=>some (decide (s<=Y))else some false).bind λZ=>some (!Z)).bind λoU=>if oU=true then C1 (some (1:Int))else A2 (((((((some (1:Int)).bind λoF=>some (-oF)).bind λoS=>(((some (1:Int)).bind λpz=>some (-pz)).bind λpU=>(some []).bind λϦ=>some (pU :: Ϧ)).bind λϧ=>some (oS :: ϧ)).bind JZ).bind λsk=>(some []).bind λwC=>some (sk :: wC)).bind JZ).bind λql=>some (.nx ql)) λyh=>A2 ((((some o).bind λyg=>((some (1:Int)).bind λpI=>some (some pI)).bind λsx=>(some none).bind λsv=>some (DQ yg sx sv)).bind λqp=>some (Je qp)).bind λϨ=>Gx Ϩ yh λ(A:(List ZLi)) l=>(((some l.2).bind λqr=>((some ("tie" : Str)).bind λqq=>((some (2:Int)).bind λuI=>(some ()).bind λsC=>some (uI,sC)).bind λqK=>some (qq,qK)).bind λsy=>some (qr,sy)).bind λm=>CS m.1 m.2.1 m.2.2.1).bind λwD=>io wD (C1 (some l.1)) λg=>(((((some g).bind λy8=>(some (0:Int)).bind λy9=>atI y8 y9).bind λqL=>((some g).bind λϩ=>(some (1:Int)).bind λuK=>atI ϩ uK).bind λB=>if decide (qL < B)=true then((some j).bind λϪ=>(some (0:Int)).bind λsE=>atI Ϫ sE).bind λwH=>some (decide (B < wH))else some false).bind λqu=>some (!qu)).bind λsH=>if sH=true then some true else(((some A).bind λyj=>((some (1:Int)).bind λsG=>some (-sG)).bind λx64=>atI yj x64).bind λsV=>(some g).bind λϫ=>some (HT.lexLt sV ϫ)).bind λsJ=>some (!sJ)).bind λuJ=>if uJ=true then C1 (some l.1)else Pm (λrp=>rp) ((some g).bind λyk=>(UO A yk).bind λya=>some (.nx ya))) λzv=>(((some j).bind λϬ=>(some (0:Int)).bind λsN=>atI Ϭ sN).bind λsL=>(((some zv).bind λϭ=>((some (1:Int)).bind λqN=>some (some qN)).bind λsP=>(some none).bind λϮ=>some (DQ ϭ sP Ϯ)).bind KZ).bind λsQ=>cZ sL sQ).bind λsS=>some (.rt (.inr sS))
noncomputable def Ka(g:Str):Option (Int ⊕ (Nat×List ZPi)):=outX (Md g)
theorem ZP(W:Wd)(g:Str):VFX W.BadText (P3 W) [.v (D.str g)] (rN (Pj W)) (Ka g):=by
 refine gm (n:=7) (b:=QB W) (p:=Md g) (B:=λ_=>[]) ?_;show VX W.BadText [.v (D.str g),.u,.u,.u,.u,.u,.u] _ _ _ _;unfold QB Md;exact(U2 (Y8 (JA (Ff (Ab rfl) (BB rfl)))) (λo=>(WK (i:=2) rfl (Ci (E9 (DD (B0 rfl) (BB rfl)) (E9 (BB rfl) (E9 (BB rfl) DP))) (λj=>Ia W j.1 j.2.1 j.2.2.1) (λ_=>rfl) Zq) (λm=>(JE (Dl (MV RS RS (BB rfl) (DD (B0 rfl) (BB rfl)) (BB rfl))))) (BB rfl) (λ_=>BB rfl) (λm=>(U2 (Y8 (Kv (Gh (GF (E7 (gr (E7 (Lg (BB rfl)) (E7 (Lg (BB rfl)) JC))) JC))))) (λs=>(U2 (gk (s0:=s) (B:=(λ(ϯ:(List ZLi))=>[.v (D.str g),.y ((oL D.str) o),.y ((oL D.int) m),.w 3 ((oL (eT D.int)) ϯ),.u,.u,.u])) (ZD (D2 (B0 rfl) (DH (BB rfl)) ES)) WL (.refl _) (λC E=>(WK (i:=6) rfl (Ci (E9 (Ab rfl) (E9 (BB rfl) (E9 (BB rfl) DP))) (λl=>Ia W l.1 l.2.1 l.2.2.1) (λ_=>rfl) Zq) (λA=>(Hi (JE (Dl (MV gB gB (DD (B0 rfl) (BB rfl)) (DD (B0 rfl) (BB rfl)) (DD (B0 rfl) (BB rfl))))) (JE (Dl (gu (DD (Gr rfl) (Lg (BB rfl))) (NG (B0 rfl))))))) (Ab rfl) (λ_=>Ab rfl) (λA=>(Y8 (JB (O5 rfl (NG (B0 rfl)) rfl) (λG=>by exact(.same (.same (.same (.same (.drop (.drop (.drop .nil)))))))))))))) (λH=>(gj (Kw (gq (DD (B0 rfl) (BB rfl)) (ZG (EI (D2 (Gr rfl) (DH (BB rfl)) ES))))))))))))))
noncomputable def Lr(g k:Int):Option (Fw Bool Unit):=if g=0∨k < 0 then none else some (.rt (decide (k=g)))
noncomputable def Lq(i:Int)(g:List Str)(w:Nat×List ZPi):Option (Fw Bool Unit):=if i=0 then(FG w g).bind λv=>some (.rt v)else none
noncomputable abbrev gC(W:Wd):MS:=(BP (sIf (mB (m2 (eqD false) (AQ 4) (mC (.int 0)))) (DU (Jt (m2 (Ql false) (AQ 5) (mC .non)) (CM 2 (Gz W) (Am (AQ 6) (Am (AQ 2) Bk))))) sNx)
  (BP (sIf (mOr (Kd (mB (L2.mIs isN (JG W) (AQ 5)))) (Kd (mB (L2.mIs isV (F5 W) (AQ 5))))) (DU (mC (.bl false))) sNx)
  (DU (Jt (CM 1 (Gy W) (Am (T4 W.BadText (AQ 5)) Bk)) (Jt (m2 (eqD false) (T4 W.BadText (AQ 5)) (AQ 4)) (RF (aT (Bm W) (AQ 5))))))))
theorem cY(x:Int):Mf x=some true:=rfl
theorem lC(W:Wd)(o:W.BadText < M64)(g k:Int)(a b i:Sl):VS [a,b,i,.u,.v (D.int g),.v (.exc (GH W.BadText k)),.v (eU ()),.u] (gC W) (rV D.bl) (Lr g k) (λ_:Unit=>[]):=λf j=>by
 unfold Lr at j;split at j
 ·cases j
 ·rename_i l
  have A:g≠0:=λz=>l (.inl z)
  have C:0<=k:=Rp.mp λz=>l (.inr z)
  have q:=PY (n:=k) o
  have E:JG W (GH W.BadText k % M64)=some true:=by rw[q.1];exact qX (Ag.mpr rfl)
  have G:F5 W (GH W.BadText k % M64)=some true:=by rw[q.1];exact qX (Ag.mpr rfl)
  have H:Bm W (GH W.BadText k % M64)=some false:=by rw[q.1];unfold Bm;rw[qY (by simp)];exact qX (Ag.mpr rfl)
  have I:((GH W.BadText k / M64 - 1:Nat):Int)=k:=by rw[q.2.2,B2 C]
  generalize GH W.BadText k=c at *
  have m:VE [a,b,i,.u,.v (D.int g),.v (.exc c),.v (eU ()),.u] (T4 W.BadText (AQ 5)) (rV D.int) (some k):=gt rfl ⟨q.2.1,q.1⟩ I
  refine(BD (FY (B:=λ_:Unit=>[a,b,i,.u,.v (D.int g),.v (.exc c),.v (eU ()),.u]) (Dl (Hg CZ FL (Ab rfl) (BB rfl))) U3 (FX (s:=()) (.refl _))) (λ_=>BD (FY (B:=λ_:Unit=>[a,b,i,.u,.v (D.int g),.v (.exc c),.v (eU ()),.u]) (Hi (JE (Dl (ZK rfl E))) (JE (Dl (ZK rfl G)))) U3 (FX (s:=()) (.refl _)))
   (λ_=>Dy (MW (Ci (E9 m DP) (λz:Int×Unit=>Rz W z.1) (λ_=>rfl) HJ) (MW (Hg CZ FL m (Ab rfl)) (WP (cw rfl H))))))) f ?_
  rw[<-j];simp[A2,A,cY]
  by_cases q:k=g <;> simp[q]
theorem lB(W:Wd)(j:Int)(g:List Str)(w:Nat×List ZPi)(a b:Sl):VS [a,b,.w 2 (oL D.str g),.u,.v (D.int j),.v (eU ()),.y (Pj W w),.u] (gC W) (rV D.bl) (Lq j g w) (λ_:Unit=>[]):=λf i=>by
 unfold Lq at i;split at i
 ·rename_i l
  refine(BD (FY (B:=λ_:Unit=>[a,b,.w 2 (oL D.str g),.u,.v (D.int j),.v (eU ()),.y (Pj W w),.u]) (Dl (Hg CZ FL (Ab rfl) (BB rfl))) (Dy (MW (gy (enc:=D.int) jB (Ab (enc:=eO D.int) (v:=none) rfl)) (Ci (ZO (B0 rfl) (ZO (Gr rfl) DP)) (λz=>R1 W z.1 z.2.1) (λ_=>rfl) HJ))) (FX (s:=()) (.refl _))) (λ_=>U3)) f ?_;rw[<-i,l];simp[A2]
  cases FG w g <;> rfl
 ·cases i
noncomputable def Wh(g:ZLi):Option (Fw Bool Unit):=
 A2 ((((some g).bind λJ=>(some ()).bind λL=>some (J,L)).bind λN=>F8 N.1).bind λO=>some (.nx O)) λi=>A2 ((((some i).bind λP=>((((some g).bind λQ=>((some i).bind λR=>(some ()).bind λS=>some (R,S)).bind λT=>some (Q,T)).bind λs=>Gv s.1 s.2.1).bind λU=>(some ()).bind λX=>some (U,X)).bind λj=>some (P,j)).bind λA=>Hl A.1 A.2.1).bind λY=>some (.nx Y)) λZ=>A2 ((((some (1:Int)).bind λoF=>((((some g).bind λpx=>((some (1:Int)).bind λpH=>(some ()).bind λoW=>some (pH,oW)).bind λoh=>some (px,oh)).bind λB=>C2 B.1 B.2.1).bind λpA=>some (pA % 2)).bind λpz=>some (oF+pz)).bind Xu).bind λϰ=>Gx ϰ Z λ(sD:(List Str)) C=>Pm (λzx=>zx) ((((some sD).bind λqq=>((some i).bind λuI=>((((((((some g).bind λsr=>(((some (2:Int)).bind λqJ=>(some C).bind λsk=>some (qJ+sk)).bind λql=>(some ()).bind λpI=>some (ql,pI)).bind λuv=>some (sr,uv)).bind λE=>C2 E.1 E.2.1).bind λsv=>some (sv % 2147483647)).bind λqp=>some (qp * 48271)).bind λqo=>some (qo % 2147483629)).bind λpQ=>(some C).bind λqr=>some (pQ+qr)).bind λsC=>(some ()).bind λqK=>some (sC,qK)).bind λsy=>some (uI,sy)).bind λqz=>some (qq,qz)).bind λl=>FF l.1 l.2.1 l.2.2.1).bind λwF=>some (.nx wF))) λG=>A2 (((((((some g).bind λux=>((some (1:Int)).bind λsE=>(some ()).bind λqL=>some (sE,qL)).bind λrk=>some (ux,rk)).bind λH=>C2 H.1 H.2.1).bind λqu=>some (qu / 2)).bind λsV=>some (sV % 8)).bind λuw=>(some (1:Int)).bind λuK=>some (decide (uw=uK))).bind λx64=>if x64=true then Pm (λzy=>zy) ((some ("" : Str)).bind λsG=>(UO G sG).bind λyj=>some (.nx yj))else some (.nx G)) λm=>A2 ((((some m).bind λyk=>(some ()).bind λuy=>some (yk,uy)).bind λym=>DY ym.1).bind λqM=>some (.nx qM)) λI=>A2 ((some ()).bind λx=>some (.nx x)) λ_=>A2 ((some ()).bind λx=>some (.nx x)) λ_=>((((some ("\n" : Str)).bind λsj=>(some m).bind λj=>RK sj j).bind λoU=>(some ()).bind λu=>some (oU,u)).bind λz=>Ka z.1).bind λo=>dA o (Lr I) (Lq I m)
noncomputable def Z8(g:ZLi):Option Bool:=FI (Wh g)
theorem kg(W:Wd)(l:W.BadText < M64)(g:ZLi):VF (W3 W) [.v (eF g)] (rV D.bl) (Z8 g):=by
 refine IY (n:=8) (b:=br W) (p:=Wh g) (B:=λ_=>[]) ?_;show VS [.v (eF g),.u,.u,.u,.u,.u,.u,.u] _ _ _ _;unfold br Wh;exact(BD (DC (Ci (E9 (Ab rfl) DP) (λI=>QV W I.1) (λ_=>rfl) HJ)) (λm=>(BD (Kv (Ci (E9 (Ab rfl) (ZO (EI (Ci (E9 (Ab rfl) (E9 (Ab rfl) DP)) (λo=>R0 W o.1 o.2.1) (λ_=>rfl) Zr)) DP)) (λs=>TR W s.1 s.2.1) (λ_=>rfl) Zr)) (λJ=>(BD (NF (s0:=J) (B:=(λ(ϱ:(List Str))=>[.v (eF g),.v (D.int m),.w 2 ((oL D.str) ϱ),.u,.u,.u,.u,.u])) (Qz (Hz (BB rfl) (Er rfl (Ci (E9 (Ab rfl) (E9 (BB rfl) DP)) (λA=>FA W A.1 A.2.1) (λ_=>rfl) HJ)))) MP (.refl _) (λO P=>(JB (Kv (Ci (ZO (Gr rfl) (E9 (Ab rfl) (E9 (Hz (Er rfl (cp rfl (Er rfl (Ci (E9 (Ab rfl) (E9 (Hz (BB rfl) (Ab rfl)) DP)) (λE=>FA W E.1 E.2.1) (λ_=>rfl) HJ)))) (Ab rfl)) DP))) (λi=>PL W i.1 i.2.1 i.2.2.1) (λ_=>rfl) Zr)) (λQ=>(.same (.same (.same (.drop (.same (.same (.same (.same .nil)))))))))))) (λR=>(BD (FY (B:=(λ(j:(List Str))=>[.v (eF g),.v (D.int m),.w 2 ((oL D.str) j),.u,.u,.u,.u,.u])) (Dl (Hg CZ FL (Er rfl (EJ rfl (Ci (E9 (Ab rfl) (E9 (BB rfl) DP)) (λG=>FA W G.1 G.2.1) (λ_=>rfl) HJ))) (BB rfl))) (JB (O5 rfl (BB rfl) rfl) (λS=>(.refl _))) (FX (.refl _))) (λL=>(BD (DC (Ci (ZO (Gr rfl) DP) (λN=>NH W N.1) (λ_=>rfl) HJ)) (λH=>BD (DC (enc:=eU) (BB rfl)) λ_=>BD (DC (enc:=eU) (BB rfl)) λ_=>cg (C:=W.BadText) (E9 (ZI (BB rfl) (Gr rfl)) DP) (λ_=>rfl) (λz=>ZP W z.1) l (Ag.mpr rfl) (AN 8) (λ_=>rfl) (λk=>lC W l H k _ _ _) (λw=>lB W H L w _ _)))))))))))
noncomputable def jn(c:Nat):List (List Nat)->List Nat
 | []=>[]
 | [x]=>x
 | x :: r=>x++c :: jn c r
theorem XJ{c:Nat}:∀{x y a b:List Nat},c∉x->c∉y->x++c :: a=y++c :: b->x=y/\a=b
 | [],[],a,b,_,_,h=>⟨rfl,(DG h).2⟩
 | [],y :: j,a,b,_,g,h=>zX (by rw[(DG h).1];exact Aa) g
 | x :: l,[],a,b,i,_,h=>zX (by rw[<-(DG h).1];exact Aa) i
 | x :: l,y :: j,a,b,i,g,h=>by
  obtain⟨m,o⟩:=DG h;obtain⟨s,A⟩:=XJ (λz=>i (AM _ z)) (λz=>g (AM _ z)) o;exact⟨by rw[m,s],A⟩
theorem ap{c:Nat}:∀{xs ys:List (List Nat)},xs≠[]->ys≠[]->(∀x∈xs,c∉x)->(∀y∈ys,c∉y)->jn c xs=jn c ys->xs=ys
 | [],_,h,_,_,_,_=>zX rfl h
 | _,[],_,h,_,_,_=>zX rfl h
 | [x],[y],_,_,_,_,h=>by rw[show x=y from h]
 | [x],y :: l :: r,_,_,g,_,h=>by
  have h:x=y++c :: jn c (l :: r):=h;exact zX (by rw[h];simp) (g x Aa)
 | x :: m :: r,[y],_,_,_,i,h=>by
  have h:x++c :: jn c (m :: r)=y:=h;exact zX (by rw[<-h];simp) (i y Aa)
 | x :: m :: r,y :: l :: s,_,_,g,i,h=>by
  obtain⟨o,A⟩:=XJ (g x Aa) (i y Aa) h;rw[o,ap (by simp) (by simp) (λz j=>g z (AM _ j)) (λz j=>i z (AM _ j)) A]
theorem Ig(c:Nat):∀ps:List Str,(B3 ⟨#[c]⟩ ps).cps.toList=jn c (ps.map (·.cps.toList))
 | []=>rfl
 | [x]=>rfl
 | x :: y :: r=>by
  show((x++⟨#[c]⟩++B3 ⟨#[c]⟩ (y :: r)).cps).toList=_;rw[Ef,Ef,Ak,Ak,Ig c (y :: r)];show x.cps.toList++[c]++_=x.cps.toList++c :: _;simp
theorem VN{c:Nat}{ps:List Str}(o:ps≠[])(h:∀p∈ps,c∉p.cps.toList):Dk (B3 ⟨#[c]⟩ ps) ⟨#[c]⟩=ps:=by
 have l:=Uq (B3 ⟨#[c]⟩ ps) ⟨#[c]⟩;have m:=StrLaws.split_free (B3 ⟨#[c]⟩ ps) c;have g:=OU (B3 ⟨#[c]⟩ ps) ⟨#[c]⟩;generalize Dk (B3 ⟨#[c]⟩ ps) ⟨#[c]⟩=s at l m g
 have A:jn c (s.map (·.cps.toList))=jn c (ps.map (·.cps.toList)):=by rw[<-Ig,<-Ig,l]
 have B:=ap (by simp;intro e;rw[e]at g;simp at g) (by simpa using o) (λx i=>by
  obtain⟨q,j,rfl⟩:=Be.mp i
  exact m q j) (λx i=>by
  obtain⟨q,j,rfl⟩:=Be.mp i
  exact h q j) A
 have inj:∀{as bs:List Str},as.map (λx:Str=>x.cps.toList)=bs.map (λx:Str=>x.cps.toList)->as=bs:=λ{as}=>by
  induction as with
  | nil=>intro bs e;cases bs with
   | nil=>rfl
   | cons _ _=>cases e
  | cons a as C=>
   intro bs e
   cases bs with
   | nil=>cases e
   | cons b bs=>
    obtain⟨E,G⟩:=DG e;rw[C G,Str.ext' (Y6.mp E)]
 exact inj B
theorem Nn{c:Nat}{ps:List Str}(g:ps≠[])(h:∀p∈ps,c∉p.cps.toList)(i:(B3 ⟨#[c]⟩ ps).length<=100000):EK (B3 ⟨#[c]⟩ ps) ⟨#[c]⟩=some ps:=by
 have j:=Ov (B3 ⟨#[c]⟩ ps) ⟨#[c]⟩;have l:=Sx (B3 ⟨#[c]⟩ ps) ⟨#[c]⟩ 0 (B3 ⟨#[c]⟩ ps).length ((B3 ⟨#[c]⟩ ps).length+1);unfold EK Ky;rw[qX,VN g h];rw[Ld];simp only[Bl,EF,decide_eq_true_eq];exact⟨⟨⟨rfl,by omega⟩,by omega⟩,by omega⟩
theorem Mo(g:Str)(k:Nat):∀ps:List Str,(∀p∈ps,p.length<=k)->(B3 g ps).length<=ps.length * (k+g.length)
 | [],_=>Eg _
 | [x],h=>by
  have:=h x Aa;show x.length<=1 * _;omega
 | x :: y :: r,h=>by
  have j:=h x Aa
  have l:=Mo g k (y :: r) λp i=>h p (AM _ i)
  show(x++g++B3 g (y :: r)).length<=_;rw[N7,N7,AU,mq];omega
theorem joinOk_of{g:Str}{k:Nat}{ps:List Str}(h:∀p∈ps,p.length<=k)(m:ps.length * (k+g.length)<=100000):RK g ps=some (B3 g ps):=by
 have i:∀(ps:List Str) (a:Nat),(∀p∈ps,p.length<=k)->ps.foldl (λa p=>a+p.length+g.length) a<=a+ps.length * (k+g.length):=by
  intro ps
  induction ps with
  | nil=>intro a _;simp
  | cons x r j=>
   intro a h;have o:=h x Aa
   have s:=j (a+x.length+g.length) λp l=>h p (AM _ l)
   rw[List.foldl_cons,AU,mq];omega
 unfold RK;rw[qX,show XV g ps=B3 g ps from StrLaws.glued_eq_join g ps];unfold JoinOk Builtin.Str.tooLong;have:=i ps 0 h;rw[List.foldl_toArray];simp only[EF,decide_eq_false_iff_not]
 have A:100000<=sizeLine:=by decide
 omega
noncomputable abbrev tS(n:Nat):Str:=Fd (toString (n:Int))
noncomputable def dg(m:Nat):List Nat:=(Nat.toDigits 10 m).map Char.toNat
theorem mM:∀m∈Bd 61,(1<=(dg m).length/\(dg m).length<=2)/\(∀c∈dg m,48<=c/\c<=57)/\(1 < (dg m).length->(dg m)[0]?≠some 48):=by decide +kernel
theorem R5(m:Nat):(tS m).cps.toList=dg m:=PySem.W.KIN.signs_num m
theorem VC(m:Nat):(tS m).length=(dg m).length:=by
 rw[<-R5,BK];rfl
theorem Oc{m:Nat}(h:m < 61):1<=(tS m).length/\(tS m).length<=2:=by rw[VC];exact(mM m (Ea.mpr h)).1
theorem i9{m c:Nat}(h:m < 61)(g:c < 48):c∉(tS m).cps.toList:=by
 rw[R5];intro hm;have:=(mM m (Ea.mpr h)).2.1 c hm;omega
theorem figs:(("0123456789" : Str)).cps.toList=[48,49,50,51,52,53,54,55,56,57]:=by decide +kernel
theorem gf:("0" : Str)=⟨#[48]⟩:=by decide +kernel
theorem k9:(" " : Str)=⟨#[32]⟩:=by decide +kernel
theorem lZ:("\n" : Str)=⟨#[10]⟩:=by decide +kernel
theorem Jg{g:Type}(l:List g){k:Int}(i:0<=k):DQ l (some k) none=l.drop k.toNat:=by
 unfold DQ;rw[show(k:Int)=((k.toNat:Nat):Int) by omega,HT.Oa,HT.Th,Cp]
 by_cases c:k.toNat<=l.length
 ·rw[QP c,Bx (by simp)]
 ·rw[cQ (by omega),Ua (AN _),Ua (by omega)]
  simp
noncomputable def Xs(first:Str)(ns:List Nat):Str:=B3 ⟨#[32]⟩ (first :: ns.map tS)
theorem Tn{first:Str}{ns:List Nat}(j:first.length<=6)(i:ns.length<=2)(h:∀n∈ns,n < 61):(Xs first ns).length<=21:=by
 have:=Mo ⟨#[32]⟩ 6 (first :: ns.map tS) λp g=>by
  rcases An.mp g with rfl | g
  ·exact j
  ·obtain⟨n,i,rfl⟩:=Be.mp g
   have:=(Oc (h n i)).2;omega
 rw[AU,AL]at this;have l:(⟨#[32]⟩:Str).length=1:=rfl;rw[l]at this;unfold Xs
 have:(ns.length+1) * 7<=21:=by omega
 omega
noncomputable def Tz(p:Int)(ts:List ZPi):Prop:=(∀t∈ts,0<=t.1/\t.1 < t.2/\t.2 < p)/\ts.Nodup
theorem SO{x:Int×Int}(h:x.1 < x.2):nrm x=x:=by
 unfold nrm;rw[qY (by omega),qX (by omega)]
theorem Tz.nrm{p:Int}{ts:List ZPi}(h:Tz p ts):ts.map M.nrm=ts:=by
 conv=>rhs;rw[<-WG ts]
 exact Cu λt g=>SO (h.1 t g).2.1
theorem Tz.fit{p:Nat}{ts:List ZPi}(h:Tz p ts):Cj p ts:=by
 refine⟨λt g=>?_,by rw[h.nrm];exact h.2⟩;have:=h.1 t g;unfold Fit;rw[SO this.2.1];omega
theorem Tz.perm{p:Int}{ts us:List ZPi}(h:Tz p ts)(g:us.Perm ts):Tz p us:=⟨λt i=>h.1 t (g.mem_iff.mp i),g.nodup_iff.mpr h.2⟩
theorem WU{p:Nat}{ps:List ZPi}(h:Cj p ps):Tz p (E3 ps):=by
 have g:=Ib ps;refine⟨λt i=>?_,g.nodup_iff.mpr h.2⟩;obtain⟨x,j,rfl⟩:=TX i;have:=h.1 x j;unfold Fit at this
 have:(nrm x).1<=(nrm x).2:=by
  unfold nrm;dsimp only
  split <;> split <;> omega
 omega
theorem Xg{ps qs:List ZPi}(h:(ps.map nrm).Perm (qs.map nrm)):E3 ps=E3 qs:=by
 unfold E3 IC
 have:(ps.map λx=>PZ (nrm x)).Perm (qs.map λx=>PZ (nrm x)):=by
  have:=h.map PZ;rwa [BZ,BZ]at this
 rw[Q7 ((Fh _).trans (this.trans (Fh _).symm)) (MZ _) (MZ _)]
theorem Zf{p:Int}{ts:List ZPi}(h:Tz p ts):No ts=E3 ts:=by
 unfold No E3 IC;rw[show(ts.map λx=>PZ (nrm x))=ts.map λx=>[x.1,x.2]from Cu λt g=>by rw[SO (h.1 t g).2.1];rfl];rfl
theorem Vw(ns:ZLi){k:Int}(g:0<=k):Ok (C2 ns k) (λ_=>True):=by
 unfold C2 FE;simp only[Bw]
 by_cases c:k < ns.length
 ·obtain⟨x,i,_⟩:=bu g c
  rw[wX c,qX rfl,i];exact⟨x,rfl,trivial⟩
 ·rw[wY c,qY Ac]
  exact⟨0,rfl,trivial⟩
theorem Zx(ns:ZLi):Ok (F8 ns) (λp=>1<=p/\p<=60):=by
 obtain⟨v,e,_⟩:=Vw ns (k:=0) (DT _);unfold F8 F6;simp only[Bw];rw[e];simp only[Bw,Mu,few4];have j:=Bj v (show(4:Int)≠0 by decide);have s:=Bf v (show(0:Int) < 4 by decide);obtain⟨x,m,o⟩:=bu (l:=[v / 4 % 7,v / 4 % 9,v / 4 % 20,v / 4 % 60]) (i:=v % 4) j (by simp;omega);rw[m];refine⟨1+x,rfl,?_⟩;have g:=CB o;have A:=Bj (v / 4) (show(7:Int)≠0 by decide);have B:=Bf (v / 4) (show(0:Int) < 7 by decide);have C:=Bj (v / 4) (show(9:Int)≠0 by decide);have E:=Bf (v / 4) (show(0:Int) < 9 by decide);have G:=Bj (v / 4) (show(20:Int)≠0 by decide);have H:=Bf (v / 4) (show(0:Int) < 20 by decide);have I:=Bj (v / 4) (show(60:Int)≠0 by decide);have J:=Bf (v / 4) (show(0:Int) < 60 by decide);simp only[An,Di,or_false]at g
 rcases g with rfl | rfl | rfl | rfl <;> omega
theorem eC{x y:Int×Int}(h:nrm x=nrm y):x=y∨x=(y.2,y.1):=by
 unfold nrm at h;have g:=congrArg Prod.fst h;have i:=congrArg Prod.snd h;dsimp only at g i
 by_cases c:x.1=y.1/\x.2=y.2
 ·exact .inl (Qt c.1 c.2)
 ·refine .inr (Qt ?_ ?_) <;> dsimp only <;> split at g <;> split at g <;> split at i <;> split at i <;> omega
theorem jk{p:Int}{a b:Int}(g:0<=a)(i:a < p)(j:0<=b)(l:b < p)(m:a≠b):Fit p (a,b):=by
 unfold Fit nrm;dsimp only
 refine⟨?_,?_,?_⟩ <;> split <;> (try split) <;> omega
theorem dm{p:Nat}(P:1<=p)(Y:p<=60){ns:ZLi}(Z:ns.length<=63):Ok (Gv ns p) (λps=>Cj p ps/\ps.length<=1000):=by
 have l:(0:Int) < p:=by omega
 unfold Gv Gs;simp only[Bw,few0,Mu];rw[dM (by decide) (by decide)];simp only[Bw];have C:=bh ns (some 1) (some 63);refine OkF.out (OkF.seq (OkF.for (λ(g:ZLi) (s:List ZPi)=>Cj p s/\s.length<=2 * g.length) ⟨⟨by simp,fR⟩,by simp⟩ (λg x s hx Q E=>?_)) λs j=>OkF.rt ⟨j.1,by omega⟩);have R:=Q.length_le;rw[AW,A1]at R;rw[AW,A1]
 refine OkF.map (N:=λs:Int×List ZPi=>Cj p s.2/\s.2.length<=2 * (g.length+1)) ?_ λs j=>j
 refine(OkF.for (λ(o:ZLi) (i:Int×List ZPi)=>Cj p i.2/\i.2.length<=2 * g.length+o.length) ⟨E.1,by simpa using E.2⟩ (λo y i hy S A=>?_)).imp (λs j=>⟨j.1,by have:=j.2;rw[KW]at this;have:(2:Int).toNat=2:=rfl;omega⟩) λ_ h=>h
 have G:∀c:Int,RP c p=some (c / p):=λc=>qX ⟨l,by omega⟩
 rw[Wn l,G];simp only[Bw,Mu];rw[Wn l,G];simp only[Bw,Mu];have H:=Bj i.1 (show(p:Int)≠0 by omega);have I:=Bf i.1 l;have J:=Bj (i.1 / p) (show(p:Int)≠0 by omega);have L:=Bf (i.1 / p) l;generalize i.1 % (p:Int)=a at H I;generalize i.1 / p % (p:Int)=b at J L;rw[AW,A1]
 refine OkF.map (N:=λs:List ZPi=>Cj p s/\s.length<=2 * g.length+(o.length+1)) ?_ λs j=>j
 obtain⟨m,i2⟩:=A
 by_cases B:a=b
 ·rw[wX B]
  exact OkF.nx ⟨m,by omega⟩
 ·rw[wY B]
  simp only[Qx,if_true]
  cases T:inG (a,b) i.2 with
  | true=>exact OkF.nx ⟨m,by omega⟩
  | false=>
   simp only[Qx,if_true]
   cases U:inG (b,a) i.2 with
   | true=>exact OkF.nx ⟨m,by omega⟩
   | false=>
    simp only[Qx,Bw,if_true];have X:=S.length_le;rw[AW,A1,KW]at X;have h2:(2:Int).toNat=2:=rfl;rw[Mw (by omega)];refine OkF.nx ⟨Cj.snoc.mpr ⟨m,jk H I J L B,λhm=>?_⟩,by rw[AW,A1];omega⟩;obtain⟨z,O,e⟩:=Be.mp hm
    rcases eC e with rfl | rfl
    ·have:=Wt.mpr O
     rw[T]at this;cases this
    ·have:=Wt.mpr O
     rw[U]at this;cases this
theorem aZ(ps:List ZPi):(E3 ps).length=ps.length:=by
 have:=(Ib ps).length_eq;rwa [AL]at this
open PySem L2 L4
open Srt (ltL)
theorem UN{g:Type}{l:List g}{x:g}:atI (l++[x]) (-1)=some x:=by
 unfold atI ixN;simp;rw[qX (by omega),show(-1+((l.length:Int)+1)).toNat=l.length by omega];simp
noncomputable def rowH(p:Nat):Str:=Xs "places" [p]
noncomputable def dI(t:Int×Int):Str:=Xs "tie" [t.1.toNat,t.2.toNat]
noncomputable def Np(p:Nat)(ts:List ZPi):List Str:=rowH p :: ts.map dI
theorem fm{c d:Nat}(g:c≠d):∀{xs:List (List Nat)},(∀x∈xs,c∉x)->c∉jn d xs
 | [],_=>Di
 | [x],h=>h x Aa
 | x :: y :: r,h=>by
  show c∉x++d :: jn d (y :: r);intro hm
  rcases Ax.mp hm with hm | hm
  ·exact h x Aa hm
  ·rcases An.mp hm with hm | hm
   ·exact g hm
   ·exact fm g (λz i=>h z (AM _ i)) hm
theorem Wc{first:Str}{ns:List Nat}(i:10∉first.cps.toList)(h:∀n∈ns,n < 61):10∉(Xs first ns).cps.toList:=by
 unfold Xs;rw[Ig]
 refine fm (by decide) λx j=>?_
 obtain⟨p,g,rfl⟩:=Be.mp j
 rcases An.mp g with rfl | g
 ·exact i
 ·obtain⟨n,l,rfl⟩:=Be.mp g
  exact i9 (h n l) (by decide)
section
variable{p:Nat}{ts:List ZPi}
theorem hV(j:p<=60)(tz:Tz p ts){t:Int×Int}(i:t∈ts):∀n∈[t.1.toNat,t.2.toNat],n < 61:=λn g=>by
 have:=tz.1 t i;simp only[An,Di,or_false]at g
 rcases g with rfl | rfl <;> omega
theorem iL(i:p<=60)(tz:Tz p ts){r:Str}(g:r∈Np p ts):r.length<=21/\10∉r.cps.toList:=by
 unfold Np at g
 rcases An.mp g with rfl | g
 ·have h:∀n∈[p],n < 61:=λn j=>by rw[Ag.mp j];omega
  exact⟨Tn (by decide +kernel) (by simp) h,Wc (by decide +kernel) h⟩
 ·obtain⟨t,l,rfl⟩:=Be.mp g
  have h:=hV i tz l;exact⟨Tn (by decide +kernel) (by simp) h,Wc (by decide +kernel) h⟩
theorem Zk:(Np p ts).length=ts.length+1:=by unfold Np;simp
theorem RA:∀l:List ZPi,KZ (l.map λt=>[t.1,t.2])=some l
 | []=>rfl
 | t :: l=>by
  show(KZ (l.map λt=>[t.1,t.2])).map ((t.1,t.2) :: ·)=_;rw[RA l];rfl
end
theorem VH{n:Int}(h:0<=n):(Fd (toString n))=tS n.toNat:=by
 unfold tS;rw[B2 h]
theorem pl_s:("places " : Str)=("places" : Str)++⟨#[32]⟩:=by decide +kernel
theorem ti_s:("tie " : Str)=("tie" : Str)++⟨#[32]⟩:=by decide +kernel
theorem We(p:Nat):rowH p=("places " : Str)++tS p:=by
 rw[pl_s];rfl
theorem Wb(t:Int×Int):dI t=("tie " : Str)++tS t.1.toNat++(" " : Str)++tS t.2.toNat:=by
 rw[ti_s,k9];show("tie" : Str)++⟨#[32]⟩++(tS t.1.toNat++⟨#[32]⟩++tS t.2.toNat)=_;rw[Gb,Gb,Gb,Gb,Gb]
theorem big:1000<=sizeLine:=by decide
section
theorem VJ{n:Int}(h:0<=n)(g:n < 61):HB n=some (tS n.toNat):=by
 unfold HB;rw[qX (by rw[qY (by omega)];omega),VH h]
theorem Jx(a b:Str):(a++b).length=a.length+b.length:=N7 a b
theorem jE(ps:List ZPi)(j:ps.length<=1000):Hr ps (λ_=>some true) (λx=>(aL [x.1,x.2]).bind λa=>(aQ [x.1,x.2]).bind λb=>some (a,b))=some (ps.map nrm):=by
 refine Nb (by omega) λx _=>?_
 have g:aL [x.1,x.2]=some (nrm x).1:=by
  unfold aL N3 ltZ nrm;simp
 have i:aQ [x.1,x.2]=some (nrm x).2:=by
  unfold aQ N3 gtZ nrm;simp
 rw[g,i];rfl
end
theorem ZS{p:Nat}{ps:List ZPi}(h:Cj p ps):Tz p (ps.map nrm):=(WU h).perm (Ib ps).symm
theorem dC{p:Nat}{ps:List ZPi}(h:Cj p ps):No (ps.map nrm)=E3 ps:=by
 rw[Zf (ZS h)];exact Xg (by rw[(ZS h).nrm])
theorem kh{p:Nat}{ps:List ZPi}(h:Cj p ps):(E3 ps).Pairwise λa b=>ltL [a.1,a.2] [b.1,b.2]=true:=by
 have g:((E3 ps).map PZ).Pairwise λa b=>ltL b a=false:=by
  rw[Q4];exact MZ _
 rw[ED]at g;have i:=(WU h).2
 refine(g.and i).imp λ{a b} ⟨j,l⟩=>?_
 cases c:ltL [a.1,a.2] [b.1,b.2]with
 | true=>rfl
 | false=>
  have:=Srt.SU _ _ c j;exact zX (Qt (DG this).1 (DG (DG this).2).1) l
theorem bsP{g i:Type}(x:g)(f:g->Option i):(some x).bind f=f x:=KB rfl (Eq.refl _)
theorem bnP{i g j:Type}(s:g)(q:g->Option (Fw i j)):A2 (some (.nx s)) q=q s:=KB rfl (Eq.refl _)
theorem Vk{p:Nat}(l:1<=p)(I:p<=60){ps:List ZPi}(h:Cj p ps)(i:ps.length<=1000):Hl p ps=some (Np p (E3 ps)):=by
 have hb:=big;have o:=VJ (n:=(p:Int)) (by omega) (by omega);have J:=(Oc (m:=p) (by omega)).2
 have L:("places " : Str).length=7:=by decide +kernel
 unfold Hl Hk;simp only[bsP];rw[o];simp only[bsP];rw[Cp,show C9 ("places " : Str) (tS p)=some (rowH p) by unfold C9;rw[qX (by omega),We]];simp only[bsP,bT,bnP];rw[jE ps i];simp only[bsP];rw[dC h];have tz:=WU h
 have N:(E3 ps).length<=1000:=by rw[aZ];exact i
 refine Ok.is (OkF.out (OkF.seq (OkF.for (λ(g:List ZPi) (s:List Str)=>s=rowH p :: g.map dI) rfl (λg t s A B j=>?_)) λs C=>OkF.rt C));have O:=tz.1 t A;have E:=VJ (n:=t.1) (by omega) (by omega);have G:=VJ (n:=t.2) (by omega) (by omega);have P:=(Oc (m:=t.1.toNat) (by omega)).2;have Q:=(Oc (m:=t.2.toNat) (by omega)).2
 have R:("tie " : Str).length=4:=by decide +kernel
 have S:(" " : Str).length=1:=by decide +kernel
 rw[E,G];simp only[bsP];rw[show C9 ("tie " : Str) (tS t.1.toNat)=some (("tie " : Str)++tS t.1.toNat)from qX (by omega)];simp only[bsP];rw[show C9 (("tie " : Str)++tS t.1.toNat) (" " : Str)=some (("tie " : Str)++tS t.1.toNat++(" " : Str))from qX (by rw[Jx];omega)];simp only[bsP];rw[show C9 (("tie " : Str)++tS t.1.toNat++(" " : Str)) (tS t.2.toNat)=some (dI t) by unfold C9;rw[qX (by rw[Jx,Jx];omega),Wb]];simp only[bsP];have H:=B.length_le;rw[AW]at H;rw[Mw (by rw[j];simp;omega)];refine OkF.nx ?_;rw[j,DO];rfl
noncomputable def okS(r:Str):Prop:=r.length<=60/\∀c∈r.cps.toList,c < 128/\c≠10
theorem Of(r:Str):r.length=r.cps.toList.length:=by rw[BK];rfl
theorem aP{c x:Nat}:∀{ps:List (List Nat)} {p:List Nat},p∈ps->x∈p->x∈jn c ps
 | [a],p,g,i=>by rw[Ag.mp g]at i;exact i
 | a :: b :: r,p,g,i=>by
  show x∈a++c :: jn c (b :: r)
  rcases An.mp g with rfl | g
  ·exact Eb _ i
  ·exact A8 _ (AM _ (aP g i))
theorem ae{c:Nat}:∀{ps:List (List Nat)} {p:List Nat},p∈ps->p.length<=(jn c ps).length
 | [a],p,g=>by rw[Ag.mp g];exact AN _
 | a :: b :: r,p,g=>by
  show _<=(a++c :: jn c (b :: r)).length;rw[AW,AU]
  rcases An.mp g with rfl | g
  ·omega
  ·have:=ae (c:=c) g
   omega
theorem Wq{c:Nat}:∀{ps:List (List Nat)},ps.length<=(jn c ps).length+1
 | []=>by simp
 | [a]=>by simp
 | a :: b :: r=>by
  show _<=(a++c :: jn c (b :: r)).length+1;have:=Wq (c:=c) (ps:=b :: r);rw[AW,AU];simp only[AU]at this ⊢;omega
noncomputable def ws(r:Str):List Str:=Dk r ⟨#[32]⟩
theorem Rt(r:Str):jn 32 ((ws r).map (·.cps.toList))=r.cps.toList:=by
 rw[<-Ig];exact congrArg (λs:Str=>s.cps.toList) (Uq r ⟨#[32]⟩)
theorem Qy{r:Str}(h:okS r):∀w∈ws r,okS w:=λw hw=>by
 have hm:w.cps.toList∈(ws r).map (·.cps.toList):=Be.mpr ⟨w,hw,rfl⟩;refine⟨?_,λc g=>h.2 c ?_⟩
 ·have:=ae (c:=32) hm
  rw[Rt,<-Of,<-Of]at this;exact Ae this h.1
 ·rw[<-Rt]
  exact aP hm g
theorem Rs(r:Str):ws r≠[]:=λe=>by
 have:=OU r ⟨#[32]⟩;rw[show Dk r ⟨#[32]⟩=[]from e]at this;simp at this
theorem gh{r:Str}(h:okS r):(ws r).length<=61:=by
 have:=Wq (c:=32) (ps:=(ws r).map (·.cps.toList));rw[Rt,<-Of,AL]at this;have:=h.1;omega
theorem KP{r:Str}(h:okS r):EK r (" " : Str)=some (ws r):=by
 rw[k9];have g:=h.1;have i:=Ov r ⟨#[32]⟩;have j:=Sx r ⟨#[32]⟩ 0 r.length (r.length+1);unfold EK Ky;rw[qX]
 ·rfl
 rw[Ld];simp only[Bl,EF,decide_eq_true_eq];exact⟨⟨⟨rfl,by omega⟩,by omega⟩,by omega⟩
noncomputable abbrev bR:List Nat:=[48,49,50,51,52,53,54,55,56,57]
theorem int1:(bR.all λc=>(Hq ⟨#[c]⟩).any λn=>decide (0<=n/\n<=99))=true:=by decide +kernel
theorem int2:(bR.all λc=>bR.all λd=>(Hq ⟨#[c,d]⟩).any λn=>decide (0<=n/\n<=99))=true:=by decide +kernel
theorem any_some{o:Option Int}(h:(o.any λn=>decide (0<=n/\n<=99))=true):∃n,o=some n/\0<=n/\n<=99:=by
 cases o with
 | none=>cases h
 | some n=>exact⟨n,rfl,of_decide_eq_true h⟩
theorem em:("" : Str)=⟨#[]⟩:=by decide +kernel
theorem szl:60<=sizeLine:=by decide
noncomputable def fg(c:Nat):Bool:=decide (c∈bR)
theorem bS{c:Nat}(h:fg c=true):c∈bR:=of_decide_eq_true h
theorem Zg{w:Str}(h:okS w):((some w).bind Lj).bind (λl=>Hr l (λ_=>some true) (λg=>(some g).bind λi=>(some ("0123456789" : Str)).bind λj=>some (Dw j i)))=some (w.cps.toList.map fg):=by
 have o:Lj w=some (w.cps.toList.map λc=>⟨#[c]⟩):=by
  unfold Lj;rw[qX,signs];rw[<-Array.all_toList,By]
  exact λc m=>wX (h.2 c m).1
 rw[bsP,o,bsP]
 have s:Hr (w.cps.toList.map λc=>(⟨#[c]⟩:Str)) (λ_=>some true) (λg=>(some g).bind λi=>(some ("0123456789" : Str)).bind λj=>some (Dw j i))=some ((w.cps.toList.map λc=>(⟨#[c]⟩:Str)).map λx=>Dw ("0123456789" : Str) x):=
  Nb (by rw[AL,<-Of];have:=h.1;omega) λx A=>rfl
 rw[s,BZ];refine congrArg some (Cu λc m=>?_);show Dw ("0123456789" : Str) ⟨#[c]⟩=_;unfold Dw;rw[StrLaws.found_one,figs];rfl
theorem aH{w:Str}(h:okS w):∃o:Option Int,EM w=some o/\Cv w=some (o.getD (-1))/\∀n,o=some n->0<=n/\n<=99/\Hq w=some n:=by
 have C:=szl;have G:Ps w=some (w.length:Int):=qX (Ae h.1 C);have A:=Zg h;have H:=h.1;unfold EM Hj Cv F7;rw[A];simp only[bsP];rw[G,em,gf];simp only[bsP]
 have E:∀c l,w=⟨⟨c :: l⟩⟩->X9 w 0=some ⟨#[c]⟩:=λc l e=>by
  subst e;unfold X9;rw[qX (Ae h.1 C),Dd (DT _) (x:=c) rfl];rfl
 obtain⟨⟨l⟩⟩:=w
 rcases l with _ | ⟨c,_ | ⟨d,_ | ⟨x,l⟩⟩⟩
 ·exact⟨none,rfl,rfl,λn I=>by cases I⟩
 ·have B:=E c [] rfl
  rw[B]
  cases q:fg c with
  | true=>
   obtain⟨n,g,i⟩:=any_some (By.mp int1 c (bS q));refine⟨some n,?_,?_,λm hm=>by cases hm;exact⟨i.1,i.2,g⟩⟩
   ·simp[q,g,A2,FI,DA]
   ·simp[q,g,A2,FI,DA]
  | false=>
   refine⟨none,?_,?_,λm hm=>by cases hm⟩
   ·simp[q,A2,FI,DA]
   ·simp[q,A2,FI,DA]
 ·have B:=E c [d] rfl
  rw[B]
  cases q:fg c&&fg d with
  | true=>
   obtain⟨j,s⟩:=LQ.mp q;obtain⟨n,g,i⟩:=any_some (By.mp (By.mp int2 c (bS j)) d (bS s))
   by_cases z:c=48
   ·refine⟨none,?_,?_,λm hm=>by cases hm⟩
    ·subst z;simp[j,s,A2,FI,DA]
    ·subst z;simp[j,s,A2,FI,DA]
   ·refine⟨some n,?_,?_,λm hm=>by cases hm;exact⟨i.1,i.2,g⟩⟩
    ·simp[j,s,z,g,A2,FI,DA]
    ·simp[j,s,z,g,A2,FI,DA]
  | false=>
   refine⟨none,?_,?_,λm hm=>by cases hm⟩
   ·simp[q,A2,FI,DA]
   ·by_cases z:c=48 <;> simp[q,z,A2,FI,DA]
 ·refine⟨none,?_,?_,λm hm=>by cases hm⟩
  ·have J:(1:Int)<=(l.length:Int)+1+1+1:=by omega
   have L:¬((l.length:Int)+1+1+1<=2):=by omega
   simp[J,L,A2,FI,DA]
  ·have N:(2:Int) < (l.length:Int)+1+1+1:=by omega
   simp[N,A2,FI,DA]
noncomputable def num(w:Str):Option Int:=(EM w).getD none
theorem Mi{w:Str}(h:okS w):EM w=some (num w)/\Cv w=some ((num w).getD (-1))/\∀n,num w=some n->0<=n/\n<=99/\Hq w=some n:=by
 obtain⟨o,g,i,j⟩:=aH h
 have e:num w=o:=by unfold num;rw[g];rfl
 rw[e];exact⟨g,i,j⟩
theorem lh{r:Str}(h:okS r)(first:Str)(g:Int){a:Str}{l:List Str}(e:ws r=a :: l) :
  CS r first g=if a=first/\(l.length:Int)=g/\inG none (l.map num)=false then(Qo (l.map num)).map some else some none:=by
 have m:=Qy h;have o:=gh h;rw[e]at m o;rw[AU]at o
 have s:Hr l (λ_=>some true) (λx=>EM x)=some (l.map num):=
  Nb (by omega) λx A=>(Mi (m x (AM _ A))).1
 unfold CS FH D3;simp only[bsP];rw[KP h,e];simp only[bsP,bnP];rw[Jg _ (by decide),show(1:Int).toNat=1 from rfl,G8,FW,s];simp only[bsP,bnP];rw[Dd (x:=a) (DT _) rfl];simp only[bsP];rw[AL]
 by_cases i:a=first
 ·rw[wX i]
  simp only[Cd,Ay,if_false]
  by_cases j:(l.length:Int)=g
  ·rw[wX j]
   simp only[Cd,Ay,if_false,bsP]
   cases B:inG none (l.map num)with
   | true=>
    rw[qX rfl,qY (by simp)];rfl
   | false=>
    rw[qY Ac,qX ⟨i,j,rfl⟩];rfl
  ·rw[wY j,qY (c:=a=first/\(l.length:Int)=g/\inG none (l.map num)=false) (λz=>j z.2.1)]
   rfl
 ·rw[wY i,qY (c:=a=first/\(l.length:Int)=g/\inG none (l.map num)=false) (λz=>i z.1)]
  rfl
noncomputable def hdO(r:Str):Option Int:=match ws r with
 | [a,v]=>if a=("places" : Str)then num v else none
 | _=>none
noncomputable def tiO(r:Str):Option ZPi:=match ws r with
 | [a,v,w]=>if a=("tie" : Str)then(num v).bind λx=>(num w).bind λy=>some (x,y)else none
 | _=>none
theorem eE{r:Str}(h:okS r):CS r ("places" : Str) 1=some ((hdO r).map λn=>[n]):=by
 cases e:ws r with
 | nil=>exact zX e (Rs r)
 | cons a l=>
  rw[lh h _ _ e];unfold hdO;rw[e]
  rcases l with _ | ⟨v,_ | ⟨w,l⟩⟩
  ·rw[qY (λz=>by have:=z.2.1;simp at this)]
   rfl
  ·by_cases c:a=("places" : Str)
   ·dsimp only
    rw[qX c]
    cases q:num v with
    | none=>simp[q,inG]
    | some n=>simp[q,c,inG,Qo]
   ·dsimp only
    rw[qY c,qY (λz=>c z.1)];rfl
  ·rw[qY (λz=>by have:=z.2.1;simp only[AU]at this;omega)]
   rfl
theorem jD{r:Str}(h:okS r):CS r ("tie" : Str) 2=some ((tiO r).map λt=>[t.1,t.2]):=by
 cases e:ws r with
 | nil=>exact zX e (Rs r)
 | cons a l=>
  rw[lh h _ _ e];unfold tiO;rw[e]
  rcases l with _ | ⟨v,_ | ⟨w,_ | ⟨x,l⟩⟩⟩
  ·rw[qY (λz=>by have:=z.2.1;simp at this)]
   rfl
  ·rw[qY (λz=>by have:=z.2.1;simp at this)]
   rfl
  ·by_cases c:a=("tie" : Str)
   ·dsimp only
    rw[qX c]
    cases q:num v with
    | none=>simp[q,inG]
    | some n=>
     cases g:num w with
     | none=>simp[q,g,inG]
     | some m=>simp[q,g,c,inG,Qo]
   ·dsimp only
    rw[qY c,qY (λz=>c z.1)];rfl
  ·rw[qY (λz=>by have:=z.2.1;simp only[AU]at this;omega)]
   rfl
noncomputable def lst(g:List ZPi):Int×Int:=g.getLast?.getD (-1,-1)
noncomputable def tr(P:Int)(z:Int×Int)(r:Str):Option ZPi:=(tiO r).bind λt=>if t.1 < t.2/\t.2 < P/\ltL [z.1,z.2] [t.1,t.2]=true then some t else none
noncomputable def stp(P:Int)(o:Option (List ZPi))(r:Str):Option (List ZPi):=o.bind λg=>(tr P (lst g) r).map λt=>g++[t]
noncomputable def upTo(P:Int)(g:List Str):Option (List ZPi):=g.foldl (stp P) (some [])
theorem Kx(P:Int)(g:List Str)(r:Str):upTo P (g++[r])=stp P (upTo P g) r:=by unfold upTo;rw[Ni];rfl
theorem RO(P:Int):∀g:List Str,g.foldl (stp P) none=none
 | []=>rfl
 | r :: g=>RO P g
theorem Q3{P:Int}{xs ys:List Str}(h:upTo P xs=none):upTo P (xs++ys)=none:=by
 unfold upTo at h ⊢;rw[Ni,h];exact RO P ys
noncomputable def Bad(P:Int)(j:List Str)(i:Nat):Prop:=∃g r,upTo P (j.take i)=some g/\j[i]?=some r/\tr P (lst g) r=none
theorem Bad.next{P:Int}{g:List Str}{i:Nat}(h:Bad P g i):upTo P (g.take (i+1))=none:=by
 obtain⟨j,r,l,m,o⟩:=h;rw[CL,m];show upTo P (g.take i++[r])=none;rw[Kx,l];show(tr P (lst j) r).map _=none;rw[o];rfl
theorem Bad.all{P:Int}{g:List Str}{i:Nat}(h:Bad P g i):upTo P g=none:=by
 have:=Q3 (ys:=g.drop (i+1)) h.next;rwa [CU]at this
theorem Bad.le{P:Int}{l:List Str}{i j:Nat}(h:Bad P l i)(g:Bad P l j):j<=i:=by
 refine Hx.mp λz=>?_
 obtain⟨m,r,o,_⟩:=g;have:=Q3 (ys:=(l.take j).drop (i+1)) (show upTo P ((l.take j).take (i+1))=none by rw[fQ,QP z];exact h.next);rw[CU,o]at this;cases this
theorem T5(g:List ZPi)(t:Int×Int):lst (g++[t])=t:=by unfold lst;simp
theorem Xr:∀m∈Bd 2100,(dg m).length<=4/\((m:Nat):Int).natAbs.log2 < 1920:=by decide +kernel
theorem dH{n:Int}(h:0<=n)(j:n < 2100):Nq n:=by
 have hb:=big;obtain⟨i,g⟩:=Xr n.toNat (Ea.mpr (by omega));rw[B2 h]at g
 have l:(MC++("row " : Str)).length=4:=by decide +kernel
 have m:((" is wrong" : Str)).length=9:=by decide +kernel
 have o:((toString n:String):Str).length<=4:=by
  rw[show((toString n:String):Str)=tS n.toNat from VH h,VC];exact i
 refine⟨h,g,by omega,?_,?_⟩
 ·rw[Jx]
  omega
 ·rw[Jx,Jx]
  omega
theorem Pb{g i:Type}{n:Int}(h:0<=n)(j:n < 2100):(C1 (some n):Option (Fw (Int ⊕ g) i))=some (.rt (.inl n)):=by
 unfold C1;rw[bsP,qX (dH h j)]
noncomputable def jW(r:Str):Prop:=∀P,hdO r=some P->¬(1<=P/\P<=60)
theorem bC{r a v:Str}(e:ws r=[a,v]):hdO r=if a=("places" : Str)then num v else none:=by unfold hdO;rw[e]
theorem jV{r:Str}(h:∀a v,ws r≠[a,v]):hdO r=none:=by
 unfold hdO;split
 ·rename_i e;exact zX e (h _ _)
 ·rfl
theorem ZW{r a v w:Str}(e:ws r=[a,v,w]):tiO r=if a=("tie" : Str)then(num v).bind λx=>(num w).bind λy=>some (x,y)else none:=by unfold tiO;rw[e]
theorem hW{r:Str}(h:∀a v w,ws r≠[a,v,w]):tiO r=none:=by
 unfold tiO;split
 ·rename_i e;exact zX e (h _ _ _)
 ·rfl
noncomputable def Out(j:Str)(l:List Str)(A:Int->Prop)(B:Int->List ZPi->Prop):Prop:=
 (jW j/\A 1)∨∃P,hdO j=some P/\1<=P/\P<=60/\((∃g,upTo P l=some g/\B P g)∨∃i,Bad P l i/\A ((i:Int)+2))
theorem fb_p{r0:Str}{B:List Str}(hr:∀r∈r0 :: B,okS r)(hl:B.length<=2000):Ok (DY (r0 :: B)) (λnO=>Out r0 B (λk=>nO=k) (λ_ _=>nO=0)):=by
 have h0:=hr r0 Aa;unfold DY EU;simp only[bsP];rw[Dd (x:=r0) (DT _) rfl];simp only[bsP];rw[KP h0];simp only[bsP,bnP];have uT:=Qy h0
 by_cases N:∃a v,ws r0=[a,v]/\a=("places" : Str)
 ·obtain⟨a,v,e,ea⟩:=N
  rw[e]at uT ⊢;have hv:=Mi (uT v (by simp))
  have O:hdO r0=num v:=by rw[bC e,qX ea]
  rw[Dd (x:=a) (DT _) rfl,Dd (j:=1) (x:=v) (by decide) rfl];simp only[bsP];rw[hv.2.1];simp only[bsP,bnP];rw[show decide ((([a,v]:List Str).length:Int)=2)=true from rfl,wX ea];simp only[Cd,Ay,if_false]
  by_cases A:1<=(num v).getD (-1)/\(num v).getD (-1)<=60
  ·obtain⟨P,C⟩:∃P,num v=some P:=by
    cases q:num v with
    | none=>rw[q]at A;exact zX A.1 (by decide)
    | some P=>exact⟨P,rfl⟩
   rw[C]at A ⊢;have A:1<=P/\P<=60:=A;show Ok (FI (A2 (((if decide (1<=P)=true then some (decide (P<=60))else some false).bind λog=>some (!og)).bind _) _)) _;rw[wX A.1,qX rfl,wX A.2];simp only[bsP,Cd,Ay,if_false,bnP];rw[dJ (by omega) (by omega) (by omega) (by simp only[AU];omega)];simp only[bsP]
   have hn:(((r0 :: B).length:Int) - 1).toNat=B.length:=by simp
   rw[hn];refine OkF.out (OkF.seq (OkF.for (λ(o:ZLi) (s:List Str×ZPi)=>∃g,upTo P (B.take o.length)=some g/\s.2=lst g) ⟨[],rfl,rfl⟩ (λo x s hx nM hI=>?_)) λs hs=>?_)
   ·obtain⟨ex,hk⟩:=To nM
    obtain⟨g,H,Q⟩:=hI;obtain⟨⟩:=s;rename_i sw sl;dsimp only at Q
    obtain⟨r,L⟩:∃r,B[o.length]?=some r:=⟨_,BC hk⟩
    have sY:=hr r (AM _ (CB L));have R:=Qy sY;have pT:atI (r0 :: B) x=some r:=Dd (by omega) (by rw[ex,show(1+(o.length:Int)).toNat=o.length+1 by omega];exact L)
    have bad:tr P (lst g) r=none->Out r0 B (λk=>x+1=k) (λ_ _=>x+1=0):=λhb=>.inr ⟨P,by rw[O,C],A.1,A.2,.inr ⟨o.length,⟨g,r,H,L,hb⟩,by omega⟩⟩
    rw[pT];simp only[bsP];rw[KP sY];simp only[bsP,bnP]
    by_cases S:∃a v w,ws r=[a,v,w]/\a=("tie" : Str)
    ·obtain⟨G,i,w',E,tf⟩:=S
     rw[E]at R ⊢;have qQ:=Mi (R i (by simp));have T:=Mi (R w' (by simp))
     have ht:tiO r=(num i).bind λx=>(num w').bind λy=>some (x,y):=by rw[ZW E,qX tf]
     rw[Dd (x:=G) (DT _) rfl,Dd (j:=1) (x:=i) (by decide) rfl,Dd (j:=2) (x:=w') (by decide) rfl];simp only[bsP];rw[qQ.2.1,T.2.1];simp only[bsP,bnP];rw[show decide ((([G,i,w']:List Str).length:Int)=3)=true from rfl,wX tf];simp only[Cd,Ay,if_false,bnP,bsP]
     by_cases I:0<=(num i).getD (-1)/\(num i).getD (-1) < (num w').getD (-1)/\(num w').getD (-1) < P/\ltL [sl.1,sl.2] [(num i).getD (-1),(num w').getD (-1)]=true
     ·obtain⟨d1,d2,d3,d4⟩:=I
      obtain⟨U,rg⟩:∃z,num i=some z:=by
       cases q:num i with
       | none=>rw[q]at d1;exact zX d1 (by decide)
       | some P=>exact⟨P,rfl⟩
      rw[rg]at d1 d2 d4 ⊢
      obtain⟨x2,u7⟩:∃z,num w'=some z:=by
       cases q:num w' with
       | none=>rw[q]at d2;exact zX d2 (Rp.mpr (kX (by decide) d1))
       | some P=>exact⟨P,rfl⟩
      rw[u7]at d2 d3 d4 ⊢;simp only[Im]at d1 d2 d3 d4 ⊢;rw[wY (Rp.mpr d1),wY (Rq.mpr d2),wY (Rq.mpr d3),d4];simp only[Cd,Ay,if_false,bsP,bnP];refine OkF.nx ⟨g++[(U,x2)],?_,(T5 _ _).symm⟩;rw[AW,A1,CL,L];show upTo P (B.take o.length++[r])=_;rw[Kx,H];show(tr P (lst g) r).map _=_;unfold tr;rw[ht,rg,u7,<-Q];simp only[bsP];rw[qX ⟨d2,d3,d4⟩];rfl
     ·have hb:tr P (lst g) r=none:=by
       unfold tr;rw[ht,<-Q]
       cases q1:num i with
       | none=>rfl
       | some U=>
        cases q2:num w' with
        | none=>rfl
        | some x2=>
         rw[q1,q2]at I;simp only[Im]at I;have:=(qQ.2.2 U q1).1;simp only[bsP];rw[qY λz=>I ⟨this,z⟩]
      have J:((if decide ((num i).getD (-1) < 0)=true then some true else if decide ((num w').getD (-1)<=(num i).getD (-1))=true then some true else if decide (P<=(num w').getD (-1))=true then some true else some (!ltL [sl.1,sl.2] [(num i).getD (-1),(num w').getD (-1)])):Option Bool)=some true:=by
       by_cases m:(num i).getD (-1) < 0
       ·rw[wX m];rfl
       ·rw[wY m]
        by_cases X:(num w').getD (-1)<=(num i).getD (-1)
        ·rw[wX X];rfl
        ·rw[wY X]
         by_cases Y:P<=(num w').getD (-1)
         ·rw[wX Y];rfl
         ·rw[wY Y]
          cases b4:ltL [sl.1,sl.2] [(num i).getD (-1),(num w').getD (-1)]with
          | false=>rfl
          | true=>exact zX ⟨Rp.mp m,Rq.mp X,Rq.mp Y,b4⟩ I
      rw[show(some P).getD (-1)=P from rfl,J];exact OkF.rt (bad hb)
    ·have hb:tr P (lst g) r=none:=by
      unfold tr
      have:tiO r=none:=by
       by_cases q:∃a v w,ws r=[a,v,w]
       ·obtain⟨G,i,w',E⟩:=q
        rw[ZW E,qY λz=>S ⟨_,_,_,E,z⟩]
       ·exact hW λa v w z=>q ⟨a,v,w,z⟩
      rw[this];rfl
     have J:((if (!decide (((ws r).length:Int)=3))=true then some true else(atI (ws r) 0).bind λqL=>some (!decide (qL=("tie" : Str)))):Option Bool)=some true:=by
      by_cases m:((ws r).length:Int)=3
      ·rw[wX m]
       cases E:ws r with
       | nil=>exact zX E (Rs r)
       | cons G Z=>
        rw[Dd (x:=G) (DT _) rfl,bsP]
        have:G≠("tie" : Str):=λz=>by
         rw[E]at m
         rcases Z with _ | ⟨i,_ | ⟨w',_ | ⟨y',Z⟩⟩⟩
         ·simp at m
         ·simp at m
         ·exact S ⟨_,_,_,E,z⟩
         ·simp only[AU]at m;omega
        rw[wY this];rfl
      ·rw[wY m];rfl
     rw[J];exact OkF.rt (bad hb)
   ·obtain⟨g,H,_⟩:=hs
    rw[KW,C5]at H;exact OkF.rt (.inr ⟨P,by rw[O,C],A.1,A.2,.inl ⟨g,H,rfl⟩⟩)
  ·have hb:jW r0:=λP C z=>by
    rw[O]at C;rw[C]at A;exact A z
   have J:((if decide (1<=(num v).getD (-1))=true then some (decide ((num v).getD (-1)<=60))else some false):Option Bool)=some false:=by
    by_cases m:1<=(num v).getD (-1)
    ·rw[wX m,qX rfl,wY λz=>A ⟨m,z⟩]
    ·rw[wY m,qY Ac]
   rw[J];exact OkF.out (.inr ⟨1,rfl,.inl ⟨hb,rfl⟩⟩)
 ·have vH:hdO r0=none:=by
   by_cases q:∃a v,ws r0=[a,v]
   ·obtain⟨a,v,e⟩:=q
    rw[bC e,qY λz=>N ⟨_,_,e,z⟩]
   ·exact jV λa v z=>q ⟨a,v,z⟩
  have hb:jW r0:=λP C=>by rw[vH]at C;cases C
  cases e:ws r0 with
  | nil=>exact zX e (Rs r0)
  | cons a l=>
   rw[Dd (x:=a) (DT _) rfl];simp only[bsP]
   by_cases m:(((a :: l).length:Nat):Int)=2
   ·have:a≠("places" : Str):=λz=>by
     rcases l with _ | ⟨i,_ | ⟨w',Z⟩⟩
     ·simp at m
     ·exact N ⟨_,_,e,z⟩
     ·simp only[AU]at m;omega
    rw[wX m,wY this];exact OkF.out (.inr ⟨1,rfl,.inl ⟨hb,rfl⟩⟩)
   ·rw[wY m]
    exact OkF.out (.inr ⟨1,rfl,.inl ⟨hb,rfl⟩⟩)
theorem OkF.outX{g i:Type}{p:Option (Fw (Int ⊕ g) i)}{R:Int ⊕ g->Prop}(h:OkF p (λ_=>False) R):Ok (L4.outX p) R:=by
 rcases h with⟨s,rfl,h⟩ | ⟨r,rfl,h⟩
 ·exact h.elim
 ·exact⟨r,rfl,h⟩
noncomputable abbrev up2(a b:Int×Int):Prop:=ltL [a.1,a.2] [b.1,b.2]=true
theorem R4{a b:Int×Int}:up2 a b↔a.1 < b.1∨(a.1=b.1/\a.2 < b.2):=by
 unfold up2 ltL ltL
 by_cases h:a.1=b.1
 ·rw[qX h]
  by_cases g:a.2=b.2
  ·rw[qX g]
   simp[ltL,h,g]
  ·rw[qY g]
   simp[h]
 ·rw[qY h]
  simp[h]
theorem Xe{a b c:Int×Int}(h:up2 a b)(g:up2 b c):up2 a c:=by
 rw[R4]at *
 omega
theorem hX{r:Str}(h:okS r){t:Int×Int}(e:tiO r=some t):0<=t.1/\0<=t.2:=by
 have hw:=Qy h;unfold tiO at e;split at e
 ·rename_i a v w g
  rw[g]at hw;split at e
  ·obtain⟨x,i,e⟩:=Ap e
   obtain⟨y,j,e⟩:=Ap e;cases e;exact⟨((Mi (hw v (by simp))).2.2 x i).1,((Mi (hw w (by simp))).2.2 y j).1⟩
  ·cases e
 ·cases e
structure Gd(P:Int)(rs:List Str)(acc:List ZPi):Prop where
 len:acc.length=rs.length
 fit:∀t∈acc,0<=t.1/\t.1 < t.2/\t.2 < P
 up:acc.Pairwise up2
 at':∀(i:Nat) r t,rs[i]?=some r->acc[i]?=some t->tiO r=some t
theorem aX(g:List ZPi):(g=[]/\lst g=(-1,-1))∨∃l,g=l++[lst g]:=by
 rcases List.eq_nil_or_concat g with h | ⟨l,x,h⟩
 ·exact .inl ⟨h,by rw[h];rfl⟩
 ·rw[List.concat_eq_append]at h
  exact .inr ⟨l,by rw[h,T5]⟩
theorem R3{P:Int}{s:List Str}(H:∀r∈s,okS r):∀n,n<=s.length->∀m,upTo P (s.take n)=some m->Gd P (s.take n) m
 | 0,_,m,h=>by
  rw[List.take_zero]at h ⊢;cases h;exact⟨rfl,λt Q=>(by simp at Q),.nil,λi r t h=>by simp at h⟩
 | n+1,R,m,h=>by
  obtain⟨r,B⟩:∃r,s[n]?=some r:=⟨_,BC R⟩
  have S:s.take (n+1)=s.take n++[r]:=by rw[CL,B];rfl
  rw[S]at h ⊢;rw[Kx]at h;obtain⟨b,T,U⟩:=Ap h;have o:=R3 H n (by omega) b T;obtain⟨t,I,rfl⟩:=Jo.mp U;unfold tr at I;obtain⟨J,L,G⟩:=Ap I;split at G
  ·rename_i X
   cases G;obtain⟨Y,Z,N⟩:=X;have E:=hX (H r (CB B)) L;refine⟨by rw[AW,AW,o.len];rfl,λx g=>?_,?_,λi r' J A C=>?_⟩
   ·rcases Ax.mp g with g | g
    ·exact o.fit x g
    ·rw[Ag.mp g]
     exact⟨E.1,Y,Z⟩
   ·rw[BL]
    refine⟨o.up,TD _ _,λx g y hy=>?_⟩;rw[Ag.mp hy]
    rcases aX b with⟨e,_⟩ | ⟨l,e⟩
    ·rw[e]at g
     cases g
    ·rw[e]at g
     rcases Ax.mp g with g | g
     ·have:=o.up
      rw[e,BL]at this;exact Xe (this.2.2 x g _ Aa) N
     ·rw[Ag.mp g]
      exact N
   ·by_cases E:i < b.length
    ·rw[Af E]at C
     rw[Af (by rw[<-o.len];exact E)]at A;exact o.at' i r' J A C
    ·rw[Au (by omega)]at C
     rw[Au (by rw[<-o.len];omega),<-o.len]at A
     cases O:i - b.length with
     | zero=>rw[O]at A C;cases A;cases C;exact L
     | succ j=>rw[O]at A;cases A
  ·cases G
theorem ZR{P:Int}{g:List Str}(i:∀r∈g,okS r){acc:List ZPi}(h:upTo P g=some acc):Gd P g acc:=by
 have:=R3 i g.length (AN _) acc (by rw[C5];exact h);rwa [C5]at this
theorem Gd.tz{P:Int}{g:List Str}{acc:List ZPi}(h:Gd P g acc):Tz P acc:=by
 refine⟨h.fit,h.up.imp λ{a b} q e=>?_⟩;rw[e,R4]at q;omega
theorem lv(g:List ZPi):atI ([-1,-1] :: g.map λt=>[t.1,t.2]) (-1)=some [(lst g).1,(lst g).2]:=by
 rcases aX g with⟨e,i⟩ | ⟨l,e⟩
 ·rw[i,e]
  exact UN (l:=[])
 ·conv=>lhs;rw[e,DO,<-List.cons_append]
  exact UN
theorem wo_p{l:Str}{j:List Str}(E:∀r∈l :: j,okS r)(hl:j.length<=1100):Ok (Ka (B3 ⟨#[10]⟩ (l :: j))) (λo=>Out l j (λk=>o=.inl k) (λP acc=>o=.inr (P.toNat,E3 acc))):=by
 have h0:=E l Aa
 have N:=Mo ⟨#[10]⟩ 60 (l :: j) λp O=>(E p O).1
 have Q:EK (B3 ⟨#[10]⟩ (l :: j)) ("\n" : Str)=some (l :: j):=by
  rw[lZ];refine Nn (by simp) (λp O z=>((E p O).2 _ z).2 rfl) (Ae N ?_);rw[AU];show(j.length+1) * 61<=100000;omega
 unfold Ka Md;simp only[bsP];rw[Q];simp only[bsP,bnP];rw[Dd (x:=l) (DT _) rfl];simp only[bsP];rw[eE h0];simp only[bsP]
 cases J:hdO l with
 | none=>
  show Ok (L4.outX (C1 (some (1:Int)))) _;rw[Pb (by decide) (by decide)];exact⟨_,rfl,.inl ⟨λP H=>(by rw[J]at H;cases H),rfl⟩⟩
 | some P=>
  show Ok (L4.outX ((((if decide (1<=P)=true then some (decide (P<=60))else some false).bind λog=>some (!og)).bind λoU=>if oU=true then C1 (some (1:Int))else _))) _
  by_cases m:1<=P/\P<=60
  ·rw[wX m.1,qX rfl,wX m.2]
   simp only[Cd,Ay,if_false,few2,bT,bsP,bnP];rw[Jg _ (by decide),show(1:Int).toNat=1 from rfl,G8,FW]
   have R:∀(i:Nat) (x:Int×Str),(Je j)[i]?=some x->j[i]?=some x.2/\x.1=(i:Int)+2:=λi x A=>by
    unfold Je at A;rw[At,WH]at A
    cases G:j[i]? with
    | none=>rw[G]at A;cases A
    | some t=>rw[G]at A;cases A;exact⟨rfl,by simp⟩
   have S:(Je j).length=j.length:=by unfold Je;simp
   refine OkF.outX (OkF.seq (OkF.for (λ(g:List (Int×Str)) (s:List ZLi)=>∃acc,upTo P (j.take g.length)=some acc/\s=[-1,-1] :: acc.map λt=>[t.1,t.2]) ⟨[],rfl,rfl⟩ (λg x s A nM hI=>?_)) λs Q=>?_)
   ·obtain⟨rr,yp⟩:=nM
    have hi:(Je j)[g.length]?=some x:=by
     rw[<-yp];simp
    obtain⟨I,ex⟩:=R _ x hi;obtain⟨acc,B,rfl⟩:=hI;obtain⟨x1,r⟩:=x;dsimp only at I ex;subst ex;have hk:=(AI.mp I).1;have sY:=E r (AM _ (CB I));have L:=R3 (λr h=>E r (AM _ h)) g.length (KI hk) acc B
    have hal:acc.length=g.length:=by rw[L.len,Ba];omega
    have rz:∀{τ:Type},(C1 (some ((g.length:Int)+2)):Option (Fw (Int ⊕ (Nat×List ZPi)) τ))=some (.rt (.inl ((g.length:Int)+2))):=Pb (by omega) (by omega)
    have bad:tr P (lst acc) r=none->Out l j (λk=>(Il ((g.length:Int)+2):Int ⊕ (Nat×List ZPi))=.inl k) (λP acc=>(Il ((g.length:Int)+2):Int ⊕ (Nat×List ZPi))=.inr (P.toNat,E3 acc)):=λhb=>.inr ⟨P,J,m.1,m.2,.inr ⟨g.length,⟨acc,r,B,I,hb⟩,rfl⟩⟩
    rw[jD sY];simp only[bsP]
    cases G:tiO r with
    | none=>
     show OkF (C1 _) _ _;rw[rz];exact OkF.rt (bad (by unfold tr;rw[G];rfl))
    | some t=>
     have uU:=lv acc;show OkF ((((if decide (t.1 < t.2)=true then some (decide (t.2 < P))else some false).bind λT=>some (!T)).bind λU=>if U=true then some true else((atI ([-1,-1] :: acc.map λt=>[t.1,t.2]) (-1)).bind λsV=>some (HT.lexLt sV [t.1,t.2])).bind λsJ=>some (!sJ)).bind λuJ=>if uJ=true then C1 (some ((g.length:Int)+2))else _) _ _;rw[uU];simp only[bsP];rw[Wp]
     by_cases X:t.1 < t.2/\t.2 < P/\ltL [(lst acc).1,(lst acc).2] [t.1,t.2]=true
     ·obtain⟨d1,d2,d3⟩:=X
      rw[wX d1,qX rfl,wX d2,d3];simp only[bsP,Cd,Ay,if_false];rw[Mw (by rw[AU,AL];omega)];refine OkF.nx ⟨acc++[t],?_,by rw[DO];rfl⟩;rw[AW,A1,CL,I];show upTo P (j.take g.length++[r])=_;rw[Kx,B];show(tr P (lst acc) r).map _=_;unfold tr;rw[G];simp only[bsP];rw[qX ⟨d1,d2,d3⟩];rfl
     ·have hb:tr P (lst acc) r=none:=by
       unfold tr;rw[G,bsP,qY X]
      have Y:((((if decide (t.1 < t.2)=true then some (decide (t.2 < P))else some false).bind λT=>some (!T)).bind λU=>if U=true then some true else some (!ltL [(lst acc).1,(lst acc).2] [t.1,t.2])):Option Bool)=some true:=by
       by_cases C:t.1 < t.2
       ·rw[wX C,qX rfl]
        by_cases Z:t.2 < P
        ·rw[wX Z]
         cases b3:ltL [(lst acc).1,(lst acc).2] [t.1,t.2]with
         | false=>rfl
         | true=>exact zX ⟨C,Z,b3⟩ X
        ·rw[wY Z];rfl
       ·rw[wY C];rfl
      rw[Y,bsP,qX rfl,rz];exact OkF.rt (bad hb)
   ·obtain⟨acc,B,rfl⟩:=Q
    rw[S,C5]at B;have L:=ZR (λr h=>E r (AM _ h)) B;rw[Jg _ (by decide),show(1:Int).toNat=1 from rfl,G8,FW,RA acc];have ep:((P.toNat:Nat):Int)=P:=B2 (by omega)
    have yq:Cj P acc:=by
     have:=L.tz;rw[<-ep]at this ⊢;exact this.fit
    rw[Dd (x:=P) (DT _) rfl];simp only[bsP];unfold cZ;rw[qX ⟨m.1,m.2,yq,by rw[L.len];omega⟩];exact OkF.rt (.inr ⟨P,J,m.1,m.2,.inl ⟨acc,B,rfl⟩⟩)
  ·have Y:((if decide (1<=P)=true then some (decide (P<=60))else some false):Option Bool)=some false:=by
    by_cases C:1<=P
    ·rw[wX C,qX rfl,wY λz=>m ⟨C,z⟩]
    ·rw[wY C,qY Ac]
   rw[Y];show Ok (L4.outX (C1 (some (1:Int)))) _;rw[Pb (by decide) (by decide)];exact⟨_,rfl,.inl ⟨λP' H=>(by rw[J]at H;cases H;exact m),rfl⟩⟩
noncomputable def NR:List Str:=(["", "tie", "tie 1", "tie 0 1 2", "tie  0 1", " tie 0 1", "tie 0 1 ", "Tie 0 1", "tie 00 1", "tie 0 01", "tie 0 1_0", "tie +0 1", "tie 0 -1", "tie a b", "tie 0,1", "tie 0 1.", "places 3", "places", "edge 0 1", "tie 0 100", "tie 100 101", "0 1", "tie tie 0 1", "tie0 1", "places 0", "places 61", "places 07", "places +3", "places 3 3", "places  3", " places 3", "places 3 ", "Places 3", "places x", "places -3", "places 3_0", "places 100", "places 3.0", " ", "ties 0 1", "tie 0 1 #"]:List String).map Fd
noncomputable def okB(r:Str):Bool:=decide (r.length<=60)&&r.cps.toList.all λc=>decide (c < 128)&&!(c==10)
theorem aB{r:Str}(h:okB r=true):okS r:=by
 obtain⟨g,i⟩:=LQ.mp h;refine⟨of_decide_eq_true g,λc j=>?_⟩;obtain⟨l,m⟩:=LQ.mp (By.mp i c j);exact⟨of_decide_eq_true l,λe=>by subst e;cases m⟩
theorem aC:∀r∈NR,okS r:=λr g=>aB (By.mp (show NR.all okB=true by decide +kernel) r g)
theorem app5(a b c d e:Str):(a++b++c++d++e).cps.toList=a.cps.toList++b.cps.toList++c.cps.toList++d.cps.toList++e.cps.toList:=by
 rw[Ef,Ef,Ef,Ef,Ak,Ak,Ak,Ak]
theorem lU:(((("|tie|tie 1|tie 0 1 2|tie  0 1| tie 0 1|tie 0 1 |Tie 0 1|tie 00 1|tie 0 01" : Str)++("|tie 0 1_0|tie +0 1|tie 0 -1|tie a b|tie 0,1|tie 0 1.|places 3|places" : Str))++("|edge 0 1|tie 0 100|tie 100 101|0 1|tie tie 0 1|tie0 1|places 0|places 61" : Str))++("|places 07|places +3|places 3 3|places  3| places 3|places 3 |Places 3" : Str))++("|places x|places -3|places 3_0|places 100|places 3.0| |ties 0 1|tie 0 1 #" : Str)=B3 ⟨#[124]⟩ NR:=Str.ext' (Y6.mp ((app5 _ _ _ _ _).trans ((show _=jn 124 (NR.map (·.cps.toList)) by decide +kernel).trans (Ig 124 NR).symm)))
theorem lV:(NR.all λr=>!r.cps.toList.contains 124)=true:=by decide +kernel
theorem lW:(B3 ⟨#[124]⟩ NR).length<=100000:=Ae (Mo ⟨#[124]⟩ 60 NR λp g=>(aC p g).1) (by decide +kernel)
theorem mP:("|" : Str)=⟨#[124]⟩:=by decide +kernel
theorem X5:EK (B3 ⟨#[124]⟩ NR) ("|" : Str)=some NR:=by
 rw[mP];refine Nn (by decide +kernel) (λp g z=>?_) lW;have:=By.mp lV p g;rw[List.contains_iff_mem.mpr z]at this;cases this
theorem Lz{x y:Str}(h:x.length+y.length<=1000):C9 x y=some (x++y):=qX (Ae h big)
theorem dy(a b c d e:Str)(g:Int)(hl:a.length+b.length+c.length+d.length+e.length<=1000)(s:EK (a++b++c++d++e) ("|" : Str)=some NR):Ok (FI (A2 ((some a).bind λA=>some (.nx A)) λB=>A2 (((some B).bind λC=>(some b).bind λE=>C9 C E).bind λG=>some (.nx G)) λH=>A2 (((some H).bind λI=>(some c).bind λJ=>C9 I J).bind λL=>some (.nx L)) λN=>A2 (((some N).bind λO=>(some d).bind λP=>C9 O P).bind λQ=>some (.nx Q)) λi=>A2 (((some i).bind λR=>(some e).bind λS=>C9 R S).bind λT=>some (.nx T)) λU=>A2 (((some U).bind λX=>(some ("|" : Str)).bind λY=>EK X Y).bind λZ=>some (.nx Z)) λm=>((some m).bind λwA=>((some g).bind λoF=>((some m).bind λpA=>some (pA.length:Int)).bind λpz=>OM oF pz).bind λoG=>atI wA oG).bind λoS=>some (.rt oS):Option (Fw Str Unit))) okS:=by
 simp only[bsP,bnP];rw[Lz (x:=a) (y:=b) (by omega)];simp only[bsP,bnP];rw[Lz (x:=a++b) (y:=c) (by rw[Jx];omega)];simp only[bsP,bnP];rw[Lz (x:=a++b++c) (y:=d) (by rw[Jx,Jx];omega)];simp only[bsP,bnP];rw[Lz (x:=a++b++c++d) (y:=e) (by rw[Jx,Jx,Jx];omega)];simp only[bsP,bnP];rw[s];simp only[bsP,bnP]
 have j:(0:Int) < (NR.length:Int):=by decide
 have ho:=aC
 generalize NR=l at *
 rw[show OM g (l.length:Int)=some (g % (l.length:Int))from qX j];simp only[bsP];have h1:=Bj g (Ux j);have h2:=Bf g j
 have o:(g % (l.length:Int)).toNat < l.length:=by omega
 rw[Dd (x:=l[(g % (l.length:Int)).toNat]) h1 (BC o)];exact⟨_,rfl,ho _ (List.getElem_mem o)⟩
theorem fk(c:Int):Ok (JN c) okS:=dy _ _ _ _ _ c (by decide +kernel) (by rw[lU];exact X5)
theorem XA{g:Type}(l:List g){k:Int}(i:0<=k):DQ l none (some k)=l.take k.toNat:=by
 unfold DQ;rw[show(k:Int)=((k.toNat:Nat):Int) by omega,HT.Oa,HT.Th,Cp,FW,Nat.sub_zero]
 by_cases c:k.toNat<=l.length
 ·rw[QP c]
 ·rw[cQ (by omega),Bx (AN _),Bx (by omega)]
theorem bg{g:Type}(l:List g){k:Int}(i:0<=k):(DQ l (some k) (some (k+1))).length<=1:=by
 unfold DQ;rw[show(k:Int)+1=((k.toNat+1:Nat):Int) by omega,show(k:Int)=((k.toNat:Nat):Int) by omega,HT.Oa,HT.Oa,Cp,Ba];omega
structure Rws(n:Nat)(l:List Str):Prop where
 ne:l≠[]
 len:l.length<=n
 ok:∀r∈l,okS r
theorem aI{n:Int}(h:0<=n)(g:n < 100):∃s:Str,HB n=some s/\s.length<=2/\∀c∈s.cps.toList,c < 128/\c≠10:=by
 refine⟨tS n.toNat,?_,?_,?_⟩
 ·unfold HB
  rw[qX (by rw[qY (by omega)];omega),VH h]
 ·rw[VC]
  exact(show ∀m∈Bd 100,(dg m).length<=2 by decide +kernel) _ (Ea.mpr (by omega))
 ·rw[R5]
  exact(show ∀m∈Bd 100,∀c∈dg m,c < 128/\c≠10 by decide +kernel) _ (Ea.mpr (by omega))
theorem fY:∀c∈("tie " : Str).cps.toList,c < 128/\c≠10:=by decide +kernel
theorem ff:∀c∈(" " : Str).cps.toList,c < 128/\c≠10:=by decide +kernel
theorem Ly{P:Nat->Prop}{a b:Str}(h:∀c∈a.cps.toList,P c)(g:∀c∈b.cps.toList,P c):∀c∈(a++b).cps.toList,P c:=λc i=>by
 rw[Ef,Ak]at i;exact(Ax.mp i).elim (h c) (g c)
theorem ti4:("tie " : Str).length=4:=by decide +kernel
theorem sp1:(" " : Str).length=1:=by decide +kernel
theorem c6{x y:Int}(g:0<=x/\x < 100)(i:0<=y/\y < 100):Ok (((((some ("tie " : Str)).bind λj=>((some x).bind HB).bind λl=>C9 j l).bind λm=>(some (" " : Str)).bind λo=>C9 m o).bind λA=>((some y).bind HB).bind λB=>C9 A B)) okS:=by
 obtain⟨s,C,I,E⟩:=aI g.1 g.2;obtain⟨t,G,J,H⟩:=aI i.1 i.2;have L:=ti4;have N:=sp1;simp only[bsP];rw[C,G];simp only[bsP];rw[Lz (x:=("tie " : Str)) (y:=s) (by omega)];simp only[bsP];rw[Lz (x:=("tie " : Str)++s) (y:=(" " : Str)) (by rw[Jx];omega)];simp only[bsP];rw[Lz (x:=("tie " : Str)++s++(" " : Str)) (y:=t) (by rw[Jx,Jx];omega)];refine⟨_,rfl,?_,Ly (Ly (Ly fY E) ff) H⟩;rw[Jx,Jx,Jx];omega
theorem Vm{n:Nat}{g m:List Str}(h:Rws n g)(s:n<=10000){k:Int}(A:1<=k)(hm:∀r∈m,okS r)(j:m.length<=1) :
  OkF (((Lw (DQ g none (some k)) m).bind λl=>Lw l (DQ g (some k) none)).bind λo=>(some (.rt o):Option (Fw (List Str) Unit))) (λ_=>False) (Rws (n+1)):=by
 rw[XA _ (by omega),Jg _ (by omega)];have B:=h.len
 have C:(g.take k.toNat).length+(g.drop k.toNat).length=g.length:=by rw[<-AW,CU]
 rw[Oo (by omega),bsP,Oo (by rw[AW];omega),bsP];refine OkF.rt ⟨λe=>?_,by rw[AW,AW];omega,λr i=>?_⟩
 ·have:=congrArg Ec e
  have E:=XY.mpr h.ne;rw[AW,AW,B7]at this;omega
 ·rcases Ax.mp i with i | i
  ·rcases Ax.mp i with i | i
   ·exact h.ok r (Gm i)
   ·exact hm r i
  ·exact h.ok r (Gn i)
theorem YU{n:Nat}{g:List Str}(h:Rws n g)(A:n<=10000)(P cell:Int):Ok (FF g P cell) (Rws (n+1)):=by
 have oM:=XY.mpr h.ne;have hl:=h.len
 have B:(0:Int) < (g.length:Int):=by omega
 have h1:=Bj (cell / 12) (Ux B);unfold FF FD;simp only[bsP];rw[show OM (cell / 12) (g.length:Int)=some (cell / 12 % (g.length:Int))from qX B];simp only[bsP,bnP];generalize ti:1+cell / 12 % (g.length:Int)=at1
 have C:1<=at1:=by omega
 generalize cell % 6=way;have H:=Bj (cell / 5000) (show(70:Int)≠0 by decide);have r2:=Bf (cell / 5000) (show(0:Int) < 70 by decide);have I:=Bj (cell / 350000) (show(70:Int)≠0 by decide);have r4:=Bf (cell / 350000) (show(0:Int) < 70 by decide)
 generalize cell / 5000 % 70=J at *
 generalize cell / 350000 % 70=L at *
 refine OkF.out (OkF.seq (N:=λ_=>True) (OkF.ite (λ_=>?_) λ_=>OkF.nx trivial) λ_ _=>OkF.seq (N:=λ_=>True) (OkF.ite (λ_=>?_) λ_=>OkF.nx trivial) λ_ _=>OkF.seq (N:=λ_=>True) ?_ λ_ _=>OkF.seq (N:=λ_=>True) ?_ λ_ _=>?_)
 ·obtain⟨o,j,l⟩:=fk (cell / 997)
  rw[j];simp only[bsP,bT]
  exact(Vm h A C (m:=[o]) (λr i=>by rw[Ag.mp i];exact l) (AN _)).imp (λ_ z=>z.elim) λ_ z=>z
 ·obtain⟨o,j,l⟩:=fk (cell / 997)
  rw[j];simp only[bsP,bT];rw[Jg _ (by decide),Oo (by rw[A1,CC];omega),bsP];refine OkF.rt ⟨by simp,by simp;omega,λr i=>?_⟩
  rcases Ax.mp i with i | i
  ·rw[Ag.mp i];exact l
  ·exact h.ok r (Gn i)
 ·have s:∀c:Bool,OkF (if c=true then((((some g).bind λO=>(some none).bind λQ=>((some at1).bind λR=>some (some R)).bind λS=>some (DQ O Q S)).bind λT=>((((((some ("tie " : Str)).bind λU=>((some J).bind HB).bind λX=>C9 U X).bind λY=>(some (" " : Str)).bind λZ=>C9 Y Z).bind λqN=>((some L).bind HB).bind λsO=>C9 qN sO).bind λsP=>(some []).bind λwM=>some (sP :: wM)).bind JZ).bind λsQ=>Lw T sQ).bind λuB=>((some g).bind λwN=>((some at1).bind λsS=>some (some sS)).bind λuC=>(some none).bind λuD=>some (DQ wN uC uD)).bind λuE=>Lw uB uE).bind λuF=>some (.rt uF)else(some (.nx ()):Option (Fw (List Str) Unit))) (λ_=>True) (Rws (n+1)):=λc=>by
   cases c with
   | false=>exact OkF.nx trivial
   | true=>
    rw[qX rfl];obtain⟨o,j,l⟩:=c6 ⟨H,by omega⟩ ⟨I,by omega⟩;rw[j];simp only[bsP,bT]
    exact(Vm h A C (m:=[o]) (λr i=>by rw[Ag.mp i];exact l) (AN _)).imp (λ_ z=>z.elim) λ_ z=>z
  by_cases c:way=2
  ·rw[wX c]
   simp only[if_true,bsP];have:=s true;simp only[bsP]at this;exact this
  ·rw[wY c]
   simp only[Ay,if_false,bsP];have:=s (decide (way=3));simp only[bsP]at this;exact this
 ·by_cases c:way=4
  ·rw[wX c]
   simp only[if_true,bsP]
   by_cases E:(1:Int) < (g.length:Int)
   ·rw[wX E]
    simp only[if_true]
    have G:(0:Int) < (g.length:Int) - 1:=by omega
    have h2:=Bj (cell / 12) (Ux G);rw[show OM (cell / 12) ((g.length:Int) - 1)=some (cell / 12 % ((g.length:Int) - 1))from qX G];simp only[bsP,bnP]
    exact(Vm h A (k:=1+cell / 12 % ((g.length:Int) - 1)) (by omega) (λr i=>h.ok r (eu i)) (bg _ (by omega))).imp (λ_ z=>z.elim) λ_ z=>z
   ·rw[wY E]
    exact OkF.nx trivial
  ·rw[wY c]
   exact OkF.nx trivial
 ·rw[XA _ (by omega),Jg _ (by omega),Oo (by rw[Ba,CC];omega),bsP]
  refine OkF.rt ⟨λe=>?_,by rw[AW,Ba,CC];omega,λr i=>?_⟩
  ·have:=congrArg Ec e
   rw[AW,Ba,CC,B7]at this;omega
  ·rcases Ax.mp i with i | i
   ·exact h.ok r (Gm i)
   ·exact h.ok r (Gn i)
theorem c5{P:Int}{i:List Str}{acc:List ZPi}(j:0<=P)(h:Gd P i acc):E3 acc=acc:=by
 have l:((P.toNat:Nat):Int)=P:=B2 j
 have tz:Tz ((P.toNat:Nat):Int) acc:=by rw[l];exact h.tz
 have g:=Ib acc;rw[tz.nrm]at g;refine List.Perm.eq_of_pairwise (le:=up2) (λa b _ _ m o=>?_) (kh tz.fit) h.up g;rw[R4]at m o;omega
theorem Xh{r:Str}(h:okS r){t:Int×Int}(e:tiO r=some t):∃a v w,ws r=[a,v,w]/\Hq v=some t.1/\Hq w=some t.2:=by
 have hw:=Qy h;unfold tiO at e;split at e
 ·rename_i a v w g
  rw[g]at hw;split at e
  ·obtain⟨x,i,e⟩:=Ap e
   obtain⟨y,j,e⟩:=Ap e;cases e;exact⟨a,v,w,g,((Mi (hw v (by simp))).2.2 x i).2.2,((Mi (hw w (by simp))).2.2 y j).2.2⟩
  ·cases e
 ·cases e
theorem Vn{r:Str}(h:okS r){P:Int}(e:hdO r=some P):∃a v,ws r=[a,v]/\Hq v=some P:=by
 have hw:=Qy h;unfold hdO at e;split at e
 ·rename_i a v g
  rw[g]at hw;split at e
  ·exact⟨a,v,g,((Mi (hw v (by simp))).2.2 P e).2.2⟩
  ·cases e
 ·cases e
theorem fH{l:Str}{m:List Str}(C:∀r∈l :: m,okS r)(hl:m.length<=2000){P:Int}(E:0<=P)(N:hdO l=some P){g:List ZPi}(o:Gd P m g):FG (P.toNat,E3 g) (l :: m)=some true:=by
 have G:=C l Aa;obtain⟨a,v,O,Q⟩:=Vn G N;rw[c5 E o];unfold FG Gu;simp only[bsP];rw[show JZ ([]:List ZPi)=some []from rfl];simp only[bsP,bnP];rw[Jg _ (by decide),show(1:Int).toNat=1 from rfl,G8,FW];refine Ok.is (OkF.out (OkF.seq (OkF.for (λ(i:List Str) (s:List ZPi)=>s=g.take i.length) (by simp) (λi r s hx R H=>?_)) λs I=>?_))
 ·obtain⟨rr,S⟩:=R
  have A:m[i.length]?=some r:=by rw[<-S];simp
  have T:=(AI.mp A).1
  obtain⟨t,J⟩:∃t,g[i.length]?=some t:=⟨_,BC (by rw[o.len];exact T)⟩
  have L:=C r (AM _ (CB A));obtain⟨a',U,w',B,X,Y⟩:=Xh L (o.at' _ r t A J);rw[KP L,B];simp only[bsP,bnP];rw[Dd (j:=1) (x:=U) (by decide) rfl,Dd (j:=2) (x:=w') (by decide) rfl];simp only[bsP];rw[X,Y];simp only[bsP]
  have Z:s.length<=2000:=by rw[H,Ba];omega
  rw[Mw (by omega)];refine OkF.nx ?_;rw[H,AW,A1,CL,J];rfl
 ·rw[<-o.len,C5]at I
  subst I;rw[Dd (x:=l) (DT _) rfl];simp only[bsP];rw[KP G,O];simp only[bsP];rw[Dd (j:=1) (x:=v) (by decide) rfl];simp only[bsP];rw[Q];simp only[bsP];rw[wX (B2 E),qX rfl];exact OkF.rt rfl
theorem lJ:∀c∈("places " : Str).cps.toList,c < 128/\c≠10:=by decide +kernel
theorem ZX{m:Nat}(h:m < 100):∀c∈(tS m).cps.toList,c < 128/\c≠10:=by
 rw[R5];exact(show ∀m∈Bd 100,∀c∈dg m,c < 128/\c≠10 by decide +kernel) _ (Ea.mpr h)
theorem dG{p:Nat}(i:p<=60){ts:List ZPi}(tz:Tz p ts):∀r∈Np p ts,okS r:=λr g=>by
 have l:=iL i tz g;refine⟨by omega,?_⟩
 rcases An.mp g with rfl | g
 ·rw[We]
  exact Ly lJ (ZX (by omega))
 ·obtain⟨t,j,rfl⟩:=Be.mp g
  have m:=tz.1 t j;rw[Wb];exact Ly (Ly (Ly fY (ZX (by omega))) ff) (ZX (by omega))
theorem jq:okS ("" : Str):=aB (by decide +kernel)
theorem ju{l:List Str}(h:Rws 1100 l):∃m,DY l=some m/\∃o,(((some ("\n" : Str)).bind λS=>(some l).bind λT=>RK S T).bind λU=>(some ()).bind λu=>some (U,u)).bind (λz=>Ka z.1)=some o/\dA o (Lr m) (Lq m l)=some (.rt true):=by
 obtain⟨H,rs,rfl⟩:∃H rs,l=H :: rs:=by
  cases l with
  | nil=>exact zX rfl h.ne
  | cons a b=>exact⟨a,b,rfl⟩
 have I:rs.length<=1100:=by have:=h.len;rw[AU]at this;omega
 obtain⟨m,X,Y⟩:=fb_p h.ok (Ae I (by decide));obtain⟨o,Z,R⟩:=wo_p h.ok I;refine⟨m,X,o,?_,?_⟩
 ·simp only[bsP]
  rw[lZ,joinOk_of (k:=60) (λp hp=>(h.ok p hp).1) (by rw[AU];show(rs.length+1) * 61<=100000;omega)];simp only[bsP];exact Z
 ·have g:∀k:Int,0 < k->m=k->o=.inl k->dA o (Lr m) (Lq m (H :: rs))=some (.rt true):=λk hk C B=>by
   subst C B;show Lr m m=_;unfold Lr;rw[qY (by omega),wX rfl]
  rcases Y with⟨J,C⟩ | ⟨P,d1,L,N,C⟩
  ·rcases R with⟨_,B⟩ | ⟨P,d1,L,N,_⟩
   ·exact g 1 (by decide) C B
   ·exact zX ⟨L,N⟩ (J P d1)
  ·rcases R with⟨J,_⟩ | ⟨P',d2,_,_,B⟩
   ·exact zX ⟨L,N⟩ (J P d1)
   ·rw[d1]at d2
    cases d2
    rcases C with⟨O,A,Q⟩ | ⟨i,A,Q⟩
    ·rcases B with⟨E,s,G⟩ | ⟨j,s,G⟩
     ·rw[A]at s
      cases s;subst Q G;show Lq 0 (H :: rs) (P.toNat,E3 O)=_;unfold Lq;rw[qX rfl,fH h.ok (Ae I (by decide)) (by omega) d1 (ZR (λr hr=>h.ok r (AM _ hr)) A)];rfl
     ·rw[s.all]at A
      cases A
    ·rcases B with⟨E,s,G⟩ | ⟨j,s,G⟩
     ·rw[A.all]at s
      cases s
     ·have:i=j:=Nat.le_antisymm (s.le A) (A.le s)
      subst this;exact g _ (by omega) Q G
theorem lu{ns:ZLi}(J:ns.length<=63):Z8 ns=some true:=by
 obtain⟨P,L,hP⟩:=Zx ns;have O:((P.toNat:Nat):Int)=P:=B2 (by omega);obtain⟨Q,G,m⟩:=dm (p:=P.toNat) (by omega) (by omega) J;have H:=Vk (p:=P.toNat) (by omega) (by omega) m.1 m.2;rw[O]at G H;obtain⟨A,R,_⟩:=Vw ns (k:=1) (by decide);have C:Rws 1001 (Np P.toNat (E3 Q)):=⟨by unfold Np;simp,by rw[Zk,aZ];exact Nat.succ_le_succ m.2,dG (by omega) (WU m.1)⟩;unfold Z8 Wh;simp only[bsP];rw[L];simp only[bsP,bnP];rw[G];simp only[bsP];rw[H];simp only[bsP,bnP];rw[R];simp only[bsP];have m1:=Bj A (show(2:Int)≠0 by decide);have m2:=Bf A (show(0:Int) < 2 by decide);rw[show Xu (1+A % 2)=some (Pa 0 (1+A % 2).toNat)from qX (by omega)];simp only[bsP];refine Ok.is (OkF.out (OkF.seq (OkF.for (λ(g:ZLi) (s:List Str)=>Rws (1001+g.length) s) C (λg x s hx S T=>?_)) λs B=>?_))
 ·obtain⟨ex,hk⟩:=To S
  obtain⟨U,X,_⟩:=Vw ns (k:=2+x) (by omega);rw[X];simp only[bsP];obtain⟨l,Y,E⟩:=YU T (by omega) P (U % 2147483647 * 48271 % 2147483629+x);rw[Y];refine OkF.nx ?_;rw[AW,A1];exact E
 ·rw[KW]at B
  have i:Rws 1010 s:=⟨B.ne,by have:=B.len;omega,B.ok⟩
  refine OkF.seq (N:=λl=>Rws 1100 l) ?_ λl E=>?_
  ·refine OkF.ite (λ_=>?_) λ_=>OkF.nx ⟨i.ne,Ae i.len (by decide),i.ok⟩
   have:=i.len;rw[Mw (by omega)];refine OkF.nx ⟨by simp,by rw[AW,A1];omega,λr j=>?_⟩
   rcases Ax.mp j with j | j
   ·exact i.ok r j
   ·rw[Ag.mp j]
    exact jq
  ·obtain⟨nO,Z,o,I,g3⟩:=ju E
   rw[Z];simp only[bsP,bnP]at I ⊢;rw[I];simp only[bsP];rw[g3];exact OkF.rt rfl
theorem good(W:Wd)(g:W.BadText < M64)(ns:ZLi)(i:ns.length<=63):∃S',W3 W [.fro (ns.map D.int)] []=.ok (.bl true) S':=by
 obtain⟨d,S',j,_,rfl⟩:=kg W g ns true (lu i) [] [.fro (ns.map D.int)] ⟨rfl,trivial⟩;exact⟨S',j⟩
end M
namespace PySem.W.Fast
noncomputable def tw14093365928516437306:Nat:=0
noncomputable def tw8807727559439335153:Nat:=0
noncomputable def tw12463196827712010051:Nat:=0
noncomputable def tw3544154554584581853:Nat:=0
noncomputable def tw1938135564899559711:Nat:=0
noncomputable def tw8035527482751347357:Nat:=0
noncomputable def tw16038195091072194767:Nat:=0
noncomputable def tw6851655540601644266:Nat:=0
noncomputable def tw12890722807913151402:Nat:=0
noncomputable def tw14183286548366692892:Nat:=0
noncomputable def tw5378614132391136548:Nat:=0
noncomputable def tw8157230203117882483:Nat:=0
noncomputable def tw15308613086017021970:Nat:=0
noncomputable def tw16630637251162129609:Nat:=0
noncomputable def tw2892234955317201430:Nat:=0
noncomputable def tw9699914306739678063:Nat:=0
noncomputable def tw10467481114577622568:Nat:=0
noncomputable def tw13281229740053247560:Nat:=0
noncomputable def tw1804970590894068588:Nat:=0
noncomputable def tw10974176346296109668:Nat:=0
noncomputable def tw15376116053542350845:Nat:=0
noncomputable def tw14740647425843617231:Nat:=0
noncomputable def tw6922133092554646189:Nat:=0
noncomputable def tw6720714481480665425:Nat:=0
noncomputable def tw7395608658221208407:Nat:=0
noncomputable def tw4086150190421754045:Nat:=0
noncomputable def tw6850707033212772354:Nat:=0
noncomputable def tw14629029680796764564:Nat:=0
noncomputable def tw14788062875890751840:Nat:=0
noncomputable def tw14761554355087248468:Nat:=0
noncomputable def tw8469479686951005860:Nat:=0
noncomputable def tw15063760487153303011:Nat:=0
noncomputable def tw13827029620717226121:Nat:=0
noncomputable def tw6894377278959784443:Nat:=0
noncomputable def tw518941387621021826:Nat:=0
noncomputable def tw455869759001558231:Nat:=0
noncomputable def tw4762953136496539144:Nat:=0
noncomputable def tw17463280907572510301:Nat:=0
noncomputable def tw1437891023174913798:Nat:=0
noncomputable def tw13605973068426742907:Nat:=0
noncomputable def tw12342083464223007914:Nat:=0
noncomputable def tw13465778926602802223:Nat:=0
noncomputable def tw1692474649623822229:Nat:=0
noncomputable def tw18310341065329152161:Nat:=0
noncomputable def tw17522604395546931191:Nat:=0
noncomputable def tw13102603283641882600:Nat:=0
noncomputable def tw12628015439616120169:Nat:=0
noncomputable def tw17425592646878485481:Nat:=0
noncomputable def tw89803030836129470:Nat:=0
noncomputable def tw14162481580513141991:Nat:=0
noncomputable def tw9271033740085414834:Nat:=0
noncomputable def tw12531675714499079141:Nat:=0
noncomputable def tw15289082231347775577:Nat:=0
noncomputable def tw3022314453189785937:Nat:=0
noncomputable def tw11199185778855630114:Nat:=0
noncomputable def tw15644391711479358105:Nat:=0
noncomputable def tw5356226921287197220:Nat:=0
noncomputable def tw3472619538706369355:Nat:=0
noncomputable def tw265461064058017476:Nat:=0
noncomputable def tw12907603920590022886:Nat:=0
noncomputable def tw12786633564949364943:Nat:=0
noncomputable def tw5068109813942843397:Nat:=0
noncomputable def tw4581920163255053849:Nat:=0
noncomputable def tw2802131003005598577:Nat:=0
noncomputable def tw7554280860822639326:Nat:=0
noncomputable def tw6603484555560248510:Nat:=0
noncomputable def tw5499372523134527105:Nat:=0
noncomputable def tw915751103298451850:Nat:=0
end PySem.W.Fast
namespace M
open PySem PySem.Spec PyProof.Rows L2 PySem.W
theorem jy{l:OpenLaw}{w:BR}{K:Frag}{h:Bt}{j:Str->Option AD}{O:AJ}(X:K.In h)(G:h.Ns As j)(o:j "law" = some (.ref O))
  {f1 f2 f3 P f5 f6 f7 f8 f9 wb z8 A B C E H I Q g J L N m9 i:AJ} {R S U:Tok}
  (o_Web:ClsAt K "Web" i)
  (a_GuardError:nsIn K As "GuardError" = some (some (.ref g)))
  (a_BadPlaces:nsIn K As "BadPlaces" = some (some (.ref J)))
  (a_BadTie:nsIn K As "BadTie" = some (some (.ref L)))
  (a_NoPlace:nsIn K As "NoPlace" = some (some (.ref N)))
  (a_BadText:nsIn K As "BadText" = some (some (.ref m9)))
  (d1:GP K "checked_ties" HD f1)
  (d2:GP K "near_sets_of" HC f2)
  (d5:GP K "number_in" KS f5)
  (d6:GP K "numbers_behind" Fi f6)
  (d7:GP K "web_of" PU f7)
  (d8:GP K "_law_cell_at" HF f8)
  (d9:GP K "_law_whole" JJ f9)
  (d10:GP K "_law_places" IF wb)
  (d11:GP K "_law_pairs" JK z8)
  (d12:GP K "_law_text" KU A)
  (d13:GP K "_law_odd" Lk B)
  (d14:GP K "_law_changed" HE C)
  (d15:GP K "_law_number" IG E)
  (d16:GP K "_law_first_bad" Fj H)
  (d17:GP K "_law_alike" JL I)
  (d18:GP K "law" Wa Q)
  (d3:XN K i "__init__" "Web.__init__" Ll f3)
  (d4:XN K m9 "__init__" "BadText.__init__" HG P)
  (n_Web_places:findIn K (.ref i) "places" = some none)
  (n_Web_ties:findIn K (.ref i) "ties" = some none)
  (n_Web_near_sets:findIn K (.ref i) "near_sets" = some none)
  (sp:specialIn K (.builtin "object.__class__") "__get__" = some (some (.builtin "getset_descriptor.__get__")))
  (tk:takesIn K (.builtin "object.__class__")=some true)
  (xnd:([m9]:List AJ).Nodup)
  (xo_GuardError:mroIn K g (.type "object")=some true)
  (xb_GuardError:mroIn K g (.type "BaseException")=some true)
  (xt_GuardError:typeIn K (.ref g)=some (.type "type"))
  (xo_BadText:mroIn K m9 (.type "object")=some true)
  (xb_BadText:mroIn K m9 (.type "BaseException")=some true)
  (xt_BadText:typeIn K (.ref m9)=some (.type "type"))
  (xe_I:jm K m9 P=true)
  (xsa:findIn K (.ref m9) "__setattr__" = some (some (.builtin "object.__setattr__")))
  (xna:findIn K (.ref m9) "row" = some none)
  (xrd:readsIn K g (.type "type")=true)
  (xfc:findCls K (.ref g) (.type "type") "__init__" = some (.val (.builtin "ValueError.__init__")))
  (xsp:specialIn K (.ref g) "__getattribute__" = some (some (.builtin "type.__getattribute__")))
  (x64:m9 < M64)
  (xg_BadText:findIn K (.ref m9) "__getattribute__" = some (some (.builtin "BaseException.__getattribute__")))
  (xn_BadText:findIn K (.ref m9) "__getattr__" = some none)
  (xa_BadText:findIn K (.ref m9) "__class__" = some (some (.builtin "object.__class__")))
  (xs_BadText_GuardError:subIn K (.ref m9) (.ref g)=some true)
  (xi_BadText_BadText:kitOne K (.ref m9) (.ref m9)=some true)
  (xi_BadText_ValueError:kitOne K (.ref m9) (.type "ValueError")=some true)
  (xi_BadText_BadPlaces:kitOne K (.ref m9) (.ref J)=some false)
  (xi_BadText_BadTie:kitOne K (.ref m9) (.ref L)=some false)
  (xi_BadText_NoPlace:kitOne K (.ref m9) (.ref N)=some false)
  (z_ValueError:nsIn K As "ValueError" = some none)
  (z_all:nsIn K As "all" = some none)
  (z_bool:nsIn K As "bool" = some none)
  (z_enumerate:nsIn K As "enumerate" = some none)
  (z_int:nsIn K As "int" = some none)
  (z_isinstance:nsIn K As "isinstance" = some none)
  (z_len:nsIn K As "len" = some none)
  (z_max:nsIn K As "max" = some none)
  (z_min:nsIn K As "min" = some none)
  (z_range:nsIn K As "range" = some none)
  (z_sorted:nsIn K As "sorted" = some none)
  (z_str:nsIn K As "str" = some none)
  (z_tuple:nsIn K As "tuple" = some none)
  (g_MOST_PLACES:nsIn K As "MOST_PLACES" = some (some (.int 60 R)))
  (g_FIGURES:nsIn K As "FIGURES" = some (some (.str "0123456789" S)))
  (g_MOST_FIGURES:nsIn K As "MOST_FIGURES" = some (some (.int 2 U)))
  : ∃(W:Wd) (T:Txt K j W),O=T.d_law.f/\W.BadText < M64/\∀(s:AG) (v:AD),Ud s T.d_law.fd ⟨[v],[]⟩ [("script",v)]:=by
 obtain⟨Y,_,_,_,_,_,_,_,_,_,l,c,k⟩:=d18;have F:=bN (st:=Wa) l c k
 let W:Wd:=⟨g,J,L,N,m9,i⟩
 have oH:(clsIn K g).isSome=true:=QA xo_GuardError;have Z:(clsIn K m9).isSome=true:=QA xo_BadText;have m:XIs K m9:=⟨Z,xg_BadText,xn_BadText,xa_BadText,sp,tk,xo_BadText,xb_BadText⟩
 let T:Txt K j W:={
  d_checked_ties:=mkD X G d1 (bd2 λ_ _ _ _ _ _ _ _ _ _=>rfl)
  d_near_sets_of:=mkD X G d2 (bd2 λ_ _ _ _ _ _ _ _ _ _=>rfl)
  d_Web_init:=mkM d3 (bd3 λ_ _ _ _ _ _ _ _ _ _ _=>rfl)
  d_BadText_init:=mkM d4 (bd2 λ_ _ _ _ _ _ _ _ _ _=>rfl)
  d_number_in:=mkD X G d5 (bd1 λ_ _ _ _ _ _ _ _ _=>rfl)
  d_numbers_behind:=mkD X G d6 (bd3 λ_ _ _ _ _ _ _ _ _ _ _=>rfl)
  d_web_of:=mkD X G d7 (bd1 λ_ _ _ _ _ _ _ _ _=>rfl)
  d__law_cell_at:=mkD X G d8 (bd2 λ_ _ _ _ _ _ _ _ _ _=>rfl)
  d__law_whole:=mkD X G d9 (bd1 λ_ _ _ _ _ _ _ _ _=>rfl)
  d__law_places:=mkD X G d10 (bd1 λ_ _ _ _ _ _ _ _ _=>rfl)
  d__law_pairs:=mkD X G d11 (bd2 λ_ _ _ _ _ _ _ _ _ _=>rfl)
  d__law_text:=mkD X G d12 (bd2 λ_ _ _ _ _ _ _ _ _ _=>rfl)
  d__law_odd:=mkD X G d13 (bd1 λ_ _ _ _ _ _ _ _ _=>rfl)
  d__law_changed:=mkD X G d14 (bd3 λ_ _ _ _ _ _ _ _ _ _ _=>rfl)
  d__law_number:=mkD X G d15 (bd1 λ_ _ _ _ _ _ _ _ _=>rfl)
  d__law_first_bad:=mkD X G d16 (bd1 λ_ _ _ _ _ _ _ _ _=>rfl)
  d__law_alike:=mkD X G d17 (bd2 λ_ _ _ _ _ _ _ _ _ _=>rfl)
  d_law:=⟨Q,_,F,F.binds ((bd1 λ_ _ _ _ _ _ _ _ _=>rfl) _ _),OT X G Y⟩
  c_Web:=mkO X G o_Web d3
  n_Web_places:=n_Web_places
  n_Web_ties:=n_Web_ties
  n_Web_near_sets:=n_Web_near_sets
  xm_GuardError:=OT X G a_GuardError
  xm_BadPlaces:=OT X G a_BadPlaces
  xm_BadTie:=OT X G a_BadTie
  xm_NoPlace:=OT X G a_NoPlace
  xm_BadText:=OT X G a_BadText
  xr:=⟨xe_I,d4.2.1,xsa,xna,xo_BadText,xrd,xfc,xsp⟩
  xi:=m
  x64:=x64
  nd:=xnd
  caught_GuardError:=(all_cons ⟨xt_GuardError,oH,xb_GuardError,xs_BadText_GuardError⟩ Jk)
  is_BadText:=U9 (al:=[m9]) (ex:=[m9]) (all_cons ⟨m,xi_BadText_BadText⟩ Jk) (all_cons (λn=>zX (by simp) n) Jk)
  i_BadText:=⟨Z,xt_BadText⟩
  is_ValueError:=U9 (al:=[m9]) (ex:=[m9]) (all_cons ⟨m,xi_BadText_ValueError⟩ Jk) (all_cons (λn=>zX (by simp) n) Jk)
  isT_BadPlaces_BadTie_NoPlace:=U9 (al:=[]) (ex:=[m9]) Jk (all_cons (λ_=>⟨m,((V1 xi_BadText_BadPlaces).trans ((V1 xi_BadText_BadTie).trans ((V1 xi_BadText_NoPlace).trans bv)))⟩) Jk)
  b_ValueError:=DM X G z_ValueError
  b_all:=DM X G z_all
  b_bool:=DM X G z_bool
  b_enumerate:=DM X G z_enumerate
  b_int:=DM X G z_int
  b_isinstance:=DM X G z_isinstance
  b_len:=DM X G z_len
  b_max:=DM X G z_max
  b_min:=DM X G z_min
  b_range:=DM X G z_range
  b_sorted:=DM X G z_sorted
  b_str:=DM X G z_str
  b_tuple:=DM X G z_tuple
  g_MOST_PLACES:=⟨R,OT X G g_MOST_PLACES⟩
  g_FIGURES:=⟨S,OT X G g_FIGURES⟩
  g_MOST_FIGURES:=⟨U,OT X G g_MOST_FIGURES⟩ }
 refine⟨W,T,?_,x64,λs v=>.of_eq rfl⟩;have e:=o.symm.trans (OT X G Y);cases e;rfl
theorem walk{l:OpenLaw}{q:A3}{g:List Str}{A:(Str->Option AD)->Bt->Prop}{m:BR->Bt->Prop}{d:DefRec}{K:Params->Frag}(B:l.most=some 63)(C:d.params.defaults=[])
  (E:∀(w:BR) (h:Bt),m w h->(K w.params).In h)
  (F:∀(w:BR) (i:Str->Option AD) (j:AJ) (h:Bt),(K w.params).In h->h.Ns As i->i d.name=some (.ref j) ->
   ∃(W:Wd) (T:Txt (K w.params) i W),j=T.d_law.f/\W.BadText < M64/\∀(s:AG) (v:AD),Ud s T.d_law.fd ⟨[v],[]⟩ [("script",v)])
  (good:∀(W:Wd),W.BadText < M64->∀ns:ZLi,ns.length<=63->∃I,W3 W [.fro (ns.map D.int)] []=.ok (.bl true) I) :
  WalkO q g A m l.row.toRowW d [] (λf J=>XW f J):=
 L2.cb (n:=63) (k:=6) (x:="script") (CX:=λw=>CXG l.prog w) (sp:=λw=>Zc (K w.params)) B (by decide) C ⟨rfl,by decide,by decide⟩ E
  (λw i j h L G N=>by
   obtain⟨W,T,e,O,hb⟩:=F w i j h L G N;subst e
   exact⟨T.d_law.fd,hb,λo _ _=>ah (i4 T) (good W O)⟩)
  (λ_ _ a ns P Q R=>⟨a,ns,rfl,jh Q R,P,λ_=>rfl⟩) (λw H s e S z=>jt z)
end M
open PySem PySem.W PyProof.Rows
set_option maxRecDepth 100000 in
set_option maxHeartbeats 0 in
theorem PySem.Challenge.cw_guardround_k57_the_first_bad_row_holds : PySem.Challenge.rw_guardround_k57_the_first_bad_row.Holds := by
 w_on;o_law;k_head;(case hw=>w_witness2)
 k_fill
 refine M.walk (l:=FV) rfl rfl (λw h Y=>by first | exact kIn_of Y | exact km_in_of Y) ?F M.good
 case F=>
  intro w mg fa h KX G rB;refine' M.jy (l:=FV) (w:=w) KX G rB ?o_Web ?a_GuardError ?a_BadPlaces ?a_BadTie ?a_NoPlace ?a_BadText ?d1 ?d2 ?d5 ?d6 ?d7 ?d8 ?d9 ?d10 ?d11 ?d12 ?d13 ?d14 ?d15 ?d16 ?d17 ?d18 ?d3 ?d4 ?n_Web_places ?n_Web_ties ?n_Web_near_sets ?sp ?tk ?xnd ?xo_GuardError ?xb_GuardError ?xt_GuardError ?xo_BadText ?xb_BadText ?xt_BadText ?xe_I ?xsa ?xna ?xrd ?xfc ?xsp ?x64 ?xg_BadText ?xn_BadText ?xa_BadText ?xs_BadText_GuardError ?xi_BadText_BadText ?xi_BadText_ValueError ?xi_BadText_BadPlaces ?xi_BadText_BadTie ?xi_BadText_NoPlace ?z_ValueError ?z_all ?z_bool ?z_enumerate ?z_int ?z_isinstance ?z_len ?z_max ?z_min ?z_range ?z_sorted ?z_str ?z_tuple ?g_MOST_PLACES ?g_FIGURES ?g_MOST_FIGURES
  (case o_Web=>exact⟨by k_is,by k_is,by k_is,by k_is,by k_is,by k_is,by k_is⟩)
  (case a_GuardError | a_BadPlaces | a_BadTie | a_NoPlace | a_BadText=>k_is)
  (case d1 | d2 | d5 | d6 | d7 | d8 | d9 | d10 | d11 | d12 | d13 | d14 | d15 | d16 | d17 | d18=>exact⟨by k_is,_,_,_,_,_,_,_,_,_,by k_is,by k_is,by k_is⟩)
  (case d3 | d4=>exact⟨by k_is,by k_is,_,_,_,_,_,_,_,_,_,by k_is,by k_is,by k_is⟩)
  (case n_Web_places | n_Web_ties | n_Web_near_sets | sp | tk=>k_is)
  (case xnd=>decide)
  (case xo_GuardError | xb_GuardError | xt_GuardError | xo_BadText | xb_BadText | xt_BadText=>k_is)
  (case xe_I=>kernel_rfl)
  (case xsa | xna | xrd | xfc | xsp=>k_is)
  (case x64=>decide)
  (case xg_BadText | xn_BadText | xa_BadText | xs_BadText_GuardError=>k_is)
  (case xi_BadText_BadText | xi_BadText_ValueError | xi_BadText_BadPlaces | xi_BadText_BadTie | xi_BadText_NoPlace=>kit_is)
  (case z_ValueError | z_all | z_bool | z_enumerate | z_int | z_isinstance | z_len | z_max | z_min | z_range | z_sorted | z_str | z_tuple | g_MOST_PLACES | g_FIGURES | g_MOST_FIGURES=>k_is)
#print axioms PySem.Challenge.cw_guardround_k57_the_first_bad_row_holds
